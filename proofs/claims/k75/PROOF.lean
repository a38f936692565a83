import PyProof.Rows.All
import Wide.All
import OpenK.AllK
import Wide.FinOn
import HandS.Base
import HandS.Call
import HandS.List
import HandS.Comp
import HandS.Ends
import HandS.Iter
import HandS.Text
import HandS.Words
import HandS.WordsList
import HandS.Wide
import HandS.WideBits
import HandS.IsInst
import HandS.TupAny
import HandS.Walk
import KE.KStrBytes
import HandS.DictTup
import KE.KDictZip
import KE.KTurns
import HandS.Sort
import HandS.Defaults
import HandS.WordsDict
import HandS.TupMul
import HandS.SortInts
import HandS.More
import HandS.Dict
import KE.SortKeyHeap
import KE.KDictSum
import HandS.SortKw
import HandS.Exc
import HandS.Keys
import HandS.ExcInit
import HandS.ExcField
import HandS.ExcIs
import HandS.ExcOwn
import HandS.WordsExc
import HandS.FStr
import HandS.RaiseMore
import HandS.TryMany
import OpenK.KCls
import PyProof.Rows.RegStrFacts
import HandS.Conv
import PyProof.ReprRoads
import PyProof.ReprLen
import HandS.Walk
import HandS.DictComp
import HandS.Deep
import HandS.Rev
import KE.GoesEnum
import KE.GoesMore
import HandS.RevRange
import HandS.RevTup
import HandS.Zip
import HandS.Property
import PySem.Challenge.RW_sameshape_k75_whole_merged_edits_apply
set_option Elab.async false
set_option linter.all false
set_option maxRecDepth 100000
set_option maxHeartbeats 4000000
namespace Ss
open PySem PySem.Spec PyProof.Rows L2
/-! ### a def that stands at a module's name and keeps a promise -/
structure Cl (P : Program) (w : World) (K : PySem.W.Frag) (mg : Str → Option Value) (base : Heap) (k : Nat) (x : Str) (ps : List Str) (sp : Sp) : Prop where
  ex : ∃ f fd, FnOk P w K mg base CX0 k f fd ps sp ∧ mg x = some (.ref f) ∧ PySem.W.keepIn K (.ref f) = true ∧ Binds K fd ps []
theorem pe_cl {X : Cx} {k : Nat} {x : Str} {ps : List Str} {sp : Sp} {p pos : Pos} {e : Expr} {es : List Expr} {t : TA} (C : Cl X.prog X.w X.K X.mg X.base k x ps sp) (hr : Room k X.A) (hg : Gl X x)
    (ha : PA X (e :: es) t) (hdb : (x == ("__debug__" : Str)) = false := by decide) (he : starEach (e :: es) X.env = (false, eval e X.env) :: starEach es X.env := by rfl) (hpl : (backTo pos (starEach es X.env)).any (·.1) = false := by rfl) :
    PE X (.Call (.Name x p) (e :: es) [] pos) (tCall sp [] E0 t) := by
  obtain ⟨f, fd, F, hm, hk, b⟩ := C.ex
  exact pe_call F hr hg hm hk b .nil pass0 ha hdb he hpl
theorem Cl.mono {P : Program} {w : World} {K : PySem.W.Frag} {mg : Str → Option Value} {base : Heap} {j k : Nat} {x : Str} {ps : List Str} {sp : Sp} (C : Cl P w K mg base j x ps sp) (h : j ≤ k) : Cl P w K mg base k x ps sp := by
  obtain ⟨f, fd, F, r⟩ := C.ex
  exact ⟨f, fd, F.mono h, r⟩
theorem Cl.imp {P : Program} {w : World} {K : PySem.W.Frag} {mg : Str → Option Value} {base : Heap} {k : Nat} {x : Str} {ps : List Str} {sp sp' : Sp} (C : Cl P w K mg base k x ps sp) (h : ∀ vs H Q, sp' vs H Q E0 → sp vs H Q E0) (hl : ∀ vs H Q E, sp' vs H Q E → sp' vs H Q E0) : True := trivial
/-! ### heaps -/
theorem same_new {H : Hp} {p : Addr} {o : HO} (h : H p = none) : Same H (upd H p o) := fun b x e => by
  rw [upd_ne (ne_of_none e h)]
  exact e
/-- all that was tracked stays, but what stands at t -/
def Ext (t : Addr) (H H' : Hp) : Prop := ∀ b o, b ≠ t → H b = some o → H' b = some o
theorem Ext.refl (t : Addr) (H : Hp) : Ext t H H := fun _ _ _ h => h
theorem Ext.trans {t : Addr} {H H1 H2 : Hp} (a : Ext t H H1) (b : Ext t H1 H2) : Ext t H H2 := fun c o n h => b c o n (a c o n h)
theorem Ext.of {t : Addr} {H H' : Hp} (h : Same H H') : Ext t H H' := fun b o _ e => h b o e
/-! ### data -/
mutual
inductive At (H : Hp) : V → PyData → Prop
  | non : At H .non .none
  | bl (b : Bool) : At H (.bl b) (.bool b)
  | int (i : Int) : At H (.int i) (.int i)
  | str (x : Str) : At H (.str x) (.str x)
  | tup {a : Addr} {xs : List V} {ds : List PyData} : H a = some (.tup xs) → AtL H xs ds → At H (.ref a) (.tuple ds)
inductive AtL (H : Hp) : List V → List PyData → Prop
  | nil : AtL H [] []
  | cons {v : V} {vs : List V} {d : PyData} {ds : List PyData} : At H v d → AtL H vs ds → AtL H (v :: vs) (d :: ds)
end
mutual
theorem At.tups {H H' : Hp} (h : ∀ b xs, H b = some (.tup xs) → H' b = some (.tup xs)) : ∀ {v : V} {d : PyData}, At H v d → At H' v d
  | _, _, .non => .non
  | _, _, .bl b => .bl b
  | _, _, .int i => .int i
  | _, _, .str x => .str x
  | _, _, .tup e l => .tup (h _ _ e) (AtL.tups h l)
theorem AtL.tups {H H' : Hp} (h : ∀ b xs, H b = some (.tup xs) → H' b = some (.tup xs)) : ∀ {v : List V} {d : List PyData}, AtL H v d → AtL H' v d
  | _, _, .nil => .nil
  | _, _, .cons a l => .cons (At.tups h a) (AtL.tups h l)
end
theorem At.same {H H' : Hp} {v : V} {d : PyData} (h : Same H H') (a : At H v d) : At H' v d := a.tups fun b xs e => h b _ e
theorem AtL.same {H H' : Hp} {v : List V} {d : List PyData} (h : Same H H') (a : AtL H v d) : AtL H' v d := a.tups fun b xs e => h b _ e
/-- the tape stands at t: a list of the script's list at l, two counts, the sum -/
structure Tape (H : Hp) (t l : Addr) : Prop where
  ex : ∃ (ns : List Int) (p n s : Int), H t = some (.lst [.ref l, .int p, .int n, .int s]) ∧ H l = some (.lst (ns.map V.int)) ∧ l ≠ t ∧ 0 ≤ p ∧ 0 ≤ n ∧ 0 ≤ s
theorem Tape.same {H H' : Hp} {t l : Addr} (h : Same H H') (a : Tape H t l) : Tape H' t l := by
  obtain ⟨ns, p, n, s, a1, a2, r⟩ := a.ex
  exact ⟨ns, p, n, s, h _ _ a1, h _ _ a2, r⟩
theorem Tape.fresh {H : Hp} {t l o : Addr} (a : Tape H t l) (h : H o = none) : o ≠ t ∧ o ≠ l := by
  obtain ⟨ns, p, n, s, a1, a2, r⟩ := a.ex
  exact ⟨fun e => (by rw [e, a1] at h; cases h), fun e => (by rw [e, a2] at h; cases h)⟩
theorem Tape.put {H : Hp} {t l o : Addr} {x : HO} (a : Tape H t l) (h : o ≠ t ∧ o ≠ l) : Tape (upd H o x) t l := by
  obtain ⟨ns, p, n, s, a1, a2, r⟩ := a.ex
  exact ⟨ns, p, n, s, (upd_ne h.1.symm).trans a1, (upd_ne h.2.symm).trans a2, r⟩
theorem Ext.free {t o : Addr} {H H' : Hp} (e : Ext t H H') (n : o ≠ t) (h : H' o = none) : H o = none := by
  cases q : H o with
  | none => rfl
  | some x =>
    rw [e o x n q] at h
    cases h
/-- the tape went on, all else that was tracked stands -/
structure Go (t l : Addr) (H H' : Hp) : Prop where
  e : Ext t H H'
  T : Tape H' t l
theorem Go.refl {t l : Addr} {H : Hp} (T : Tape H t l) : Go t l H H := ⟨Ext.refl t H, T⟩
theorem Go.trans {t l : Addr} {H H1 H2 : Hp} (a : Go t l H H1) (b : Go t l H1 H2) : Go t l H H2 := ⟨a.e.trans b.e, b.T⟩
theorem Go.same {t l : Addr} {H H1 H2 : Hp} (a : Go t l H H1) (b : Same H1 H2) : Go t l H H2 := ⟨a.e.trans (Ext.of b), a.T.same b⟩
theorem Go.new {t l p : Addr} {H H1 : Hp} {x : HO} (a : Go t l H H1) (h : H1 p = none) : Go t l H (upd H1 p x) := a.same (same_new h)
/-- an object that is new since H is changed -/
theorem Go.put {t l p : Addr} {H H1 : Hp} {x : HO} (a : Go t l H H1) (h : H p = none) (n : p ≠ t ∧ p ≠ l) : Go t l H (upd H1 p x) :=
  ⟨fun b o bt hb => by rw [upd_ne (fun e => by rw [e, h] at hb; cases hb)]; exact a.e b o bt hb, a.T.put n⟩
theorem Go.free {t l p : Addr} {H H1 : Hp} (a : Go t l H H1) (h : H1 p = none) : H p = none ∧ p ≠ t ∧ p ≠ l :=
  have n := a.T.fresh h
  ⟨a.e.free n.1 h, n⟩
/-- what stands apart from the tape stays -/
theorem Go.at {t l p : Addr} {H H1 : Hp} {x : HO} (a : Go t l H H1) (h : H p = some x) (n : p ≠ t) : H1 p = some x := a.e p x n h
theorem Tape.tup {H H' : Hp} {t l : Addr} (a : Tape H t l) (e : Ext t H H') : ∀ b xs, H b = some (.tup xs) → H' b = some (.tup xs) := fun b xs h => by
  obtain ⟨ns, p, n, s, a1, _⟩ := a.ex
  exact e b _ (ne_of h a1 (by intro z; cases z)) h
theorem At.go {H H' : Hp} {t l : Addr} {v : V} {d : PyData} (a : At H v d) (T : Tape H t l) (g : Go t l H H') : At H' v d := a.tups (T.tup g.e)
theorem AtL.go {H H' : Hp} {t l : Addr} {v : List V} {d : List PyData} (a : AtL H v d) (T : Tape H t l) (g : Go t l H H') : AtL H' v d := a.tups (T.tup g.e)
/-! ### readings, step by step -/
section
variable {σ : L2.St} {H : Hp} {D : Ends} {t u : TS} {te ta tb : TE} {Q : VK} {g : TG} {c : TT} {i j : Int}
theorem w_seq (h : t { D with nx := u D } σ H) : tSeq t u D σ H := h
theorem w_asg (h : te σ H fun x H1 => g x σ H1 D.nx) : tAsg te g D σ H := h
theorem w_next (h : D.nx σ H) : tNext D σ H := h
theorem w_name {n : Nat} {v : V} {R : L2.St → Hp → Prop} (h : R (σ.set n (some v)) H) : gName n v σ H R := h
theorem w_gsub {to ti : TE} {ts : TSet} {v : V} {R : L2.St → Hp → Prop} (h : to σ H fun o H1 => ti σ H1 fun i H2 => ts o i v H2 fun H3 => R σ H3) : gSub to ti ts v σ H R := h
theorem w_ret (h : te σ H D.rt) : tRet te D σ H := h
theorem w_drop (h : te σ H fun _ H1 => D.nx σ H1) : tDrop te D σ H := h
theorem w_ifS (h : c σ H fun b H1 => if b = true then t D σ H1 else u D σ H1) : tIfS c t u D σ H := h
theorem w_op {r : R2} (h : ta σ H fun x H1 => tb σ H1 fun y H2 => r x y H2 Q) : tOp r ta tb σ H Q := h
theorem w_un {r : V → Hp → VK → Prop} (h : ta σ H fun x H1 => r x H1 Q) : tUn r ta σ H Q := h
theorem w_cb {r : List V → Hp → VK → Prop} {tt : TA} (h : tt σ H fun vs H1 => r vs H1 Q) : tCB r tt σ H Q := h
theorem w_call {sp : Sp} {E : XK} {tt : TA} (h : tt σ H fun vs H1 => sp (vs ++ []) H1 Q E) : tCall sp [] E tt σ H Q := h
theorem w_cons {tr : TA} {R : List V → Hp → Prop} (h : ta σ H fun x H1 => tr σ H1 fun xs H2 => R (x :: xs) H2) : tCons ta tr σ H R := h
theorem w_nil {R : List V → Hp → Prop} (h : R [] H) : tNil σ H R := h
theorem w_var {n : Nat} {v : V} (h : σ[n]? = some (some v)) (q : Q v H) : tVar n σ H Q := ⟨v, h, q⟩
theorem w_c {v : V} (q : Q v H) : tC v σ H Q := q
theorem w_test {R : Bool → Hp → Prop} (h : te σ H fun x H' => ∃ k, x = .bl k ∧ R k H') : tTest te σ H R := h
theorem w_B {R : Bool → Hp → Prop} (h : te σ H fun x H' => ∃ k, x = .bl k ∧ R k H') : tB te σ H R := h
theorem w_bl {k : Bool} {R : Bool → Prop} (q : R k) : ∃ k', V.bl k = V.bl k' ∧ R k' := ⟨k, rfl, q⟩
theorem w_not {R : Bool → Hp → Prop} (h : c σ H fun b H1 => R (!b) H1) : tNot c σ H R := h
theorem w_and {d : TT} {R : Bool → Hp → Prop} (h : c σ H fun b H1 => if b = true then d σ H1 R else R false H1) : tAnd c d σ H R := h
theorem w_or {d : TT} {R : Bool → Hp → Prop} (h : c σ H fun b H1 => if b = true then R true H1 else d σ H1 R) : tOr c d σ H R := h
theorem w_andV (h : ta σ H fun x H1 => ∃ c, x = .bl c ∧ if c = true then tb σ H1 Q else Q (.bl false) H1) : tAndV ta tb σ H Q := h
theorem w_orV (h : ta σ H fun x H1 => ∃ c, x = .bl c ∧ if c = true then Q (.bl true) H1 else tb σ H1 Q) : tOrV ta tb σ H Q := h
theorem w_notV (h : ta σ H fun x H1 => ∃ c, x = .bl c ∧ Q (.bl (!c)) H1) : tNotV ta σ H Q := h
theorem w_if (h : c σ H fun b H1 => if b = true then ta σ H1 Q else tb σ H1 Q) : tIf c ta tb σ H Q := h
theorem w_I0 {f : Int → Int → V} (h : Q (f i j) H) : rI0 f (.int i) (.int j) H Q := ⟨i, j, rfl, rfl, h⟩
theorem w_I {C : Int → Int → Prop} {f : Int → Int → V} (hc : C i j) (h : Q (f i j) H) : rI C f (.int i) (.int j) H Q := ⟨i, j, rfl, rfl, hc, h⟩
theorem w_U {f : Int → V} (h : Q (f i) H) : rU f (.int i) H Q := ⟨i, rfl, h⟩
theorem w_eqI (h : Q (.bl (decide (i = j))) H) : rEq (.int i) (.int j) H Q := ⟨rfl, by
  have e : decide (V.int i = V.int j) = decide (i = j) := by
    by_cases q : i = j
    · rw [decide_eq_true q, decide_eq_true (congrArg V.int q)]
    · rw [decide_eq_false q, decide_eq_false fun z => q (V.int.inj z)]
  rw [e]
  exact h⟩
theorem w_neI (h : Q (.bl (!decide (i = j))) H) : rNe (.int i) (.int j) H Q := ⟨rfl, by
  have e : decide (V.int i = V.int j) = decide (i = j) := by
    by_cases q : i = j
    · rw [decide_eq_true q, decide_eq_true (congrArg V.int q)]
    · rw [decide_eq_false q, decide_eq_false fun z => q (V.int.inj z)]
  rw [e]
  exact h⟩
theorem w_neB {a b : Bool} (h : Q (.bl (a != b)) H) : rNe (.bl a) (.bl b) H Q := ⟨rfl, by
  have e : (!decide (V.bl a = V.bl b)) = (a != b) := by cases a <;> cases b <;> rfl
  rw [e]
  exact h⟩
theorem w_eqS {x y : Str} (h : Q (.bl (decide (x = y))) H) : rEq (.str x) (.str y) H Q := ⟨rfl, by
  have e : decide (V.str x = V.str y) = decide (x = y) := by
    by_cases q : x = y
    · rw [decide_eq_true q, decide_eq_true (congrArg V.str q)]
    · rw [decide_eq_false q, decide_eq_false fun z => q (V.str.inj z)]
  rw [e]
  exact h⟩
theorem w_ixL {K : PySem.W.Frag} {p : Addr} {xs : List V} {v : V} (h : SqL K H p xs) (ha : atI xs i = some v) (q : Q v H) : rIxL K (.ref p) (.int i) H Q := ⟨p, xs, i, v, rfl, rfl, h, ha, q⟩
theorem w_ixT {K : PySem.W.Frag} {p : Addr} {xs : List V} {v : V} (h : SqT K H p xs) (ha : atI xs i = some v) (q : Q v H) : rIxT K (.ref p) (.int i) H Q := ⟨p, xs, i, v, rfl, rfl, h, ha, q⟩
theorem w_setL {p : Addr} {xs : List V} {v : V} {n : Nat} {R : Hp → Prop} (h : H p = some (.lst xs)) (ha : ixN xs.length i = some n) (q : R (upd H p (.lst (xs.set n v)))) : rSetL (.ref p) (.int i) v H R := ⟨p, xs, i, n, rfl, rfl, h, ha, q⟩
theorem w_ite {p A B : Prop} [Decidable p] (h1 : p → A) (h2 : ¬ p → B) : if decide p = true then A else B := by
  by_cases h : p
  · rw [decide_eq_true h]
    exact iteT (h1 h)
  · rw [decide_eq_false h]
    exact iteF (h2 h)
theorem w_iteN {p A B : Prop} [Decidable p] (h1 : ¬ p → A) (h2 : p → B) : if (!decide p) = true then A else B := by
  by_cases h : p
  · rw [decide_eq_true h]
    exact iteF (h2 h)
  · rw [decide_eq_false h]
    exact iteT (h1 h)
theorem w_int1 (h : Q (.int i) H) : (∃ i', [V.int i] = [V.int i'] ∧ Q (.int i') H) ∨ ∃ k, [V.int i] = [V.bl k] ∧ Q (.int (if k then 1 else 0)) H := .inl ⟨i, rfl, h⟩
theorem w_intB {k : Bool} (h : Q (.int (if k then 1 else 0)) H) : (∃ i', [V.bl k] = [V.int i'] ∧ Q (.int i') H) ∨ ∃ k', [V.bl k] = [V.bl k'] ∧ Q (.int (if k' then 1 else 0)) H := .inr ⟨k, rfl, h⟩
theorem w_abs (h : Q (.int (if i < 0 then -i else i)) H) : ∃ i', [V.int i] = [V.int i'] ∧ Q (.int (if i' < 0 then -i' else i')) H := ⟨i, rfl, h⟩
theorem w_max2 (h : Q (.int (if j > i then j else i)) H) : ∃ i' j', [V.int i, V.int j] = [V.int i', V.int j'] ∧ Q (.int (if j' > i' then j' else i')) H := ⟨i, j, rfl, h⟩
theorem w_min2 (h : Q (.int (if j < i then j else i)) H) : ∃ i' j', [V.int i, V.int j] = [V.int i', V.int j'] ∧ Q (.int (if j' < i' then j' else i')) H := ⟨i, j, rfl, h⟩
theorem w_lenL {K : PySem.W.Frag} {p : Addr} {xs : List V} (h : SqL K H p xs) (q : Q (.int xs.length) H) : ∃ p' ys, [V.ref p] = [V.ref p'] ∧ (SqL K H p' ys ∨ SqT K H p' ys) ∧ Q (.int ys.length) H := ⟨p, xs, rfl, .inl h, q⟩
theorem w_lenT {K : PySem.W.Frag} {p : Addr} {xs : List V} (h : SqT K H p xs) (q : Q (.int xs.length) H) : ∃ p' ys, [V.ref p] = [V.ref p'] ∧ (SqL K H p' ys ∨ SqT K H p' ys) ∧ Q (.int ys.length) H := ⟨p, xs, rfl, .inr h, q⟩
theorem w_tup {tt : TA} (h : tt σ H fun xs H1 => xs.length ≤ sizeLine ∧ ∀ p, H1 p = none → Q (.ref p) (upd H1 p (.tup xs))) : tTup tt σ H Q := h
theorem w_lst {tt : TA} (h : tt σ H fun xs H1 => xs.length ≤ sizeLine ∧ ∀ p, H1 p = none → Q (.ref p) (upd H1 p (.lst xs))) : tLst tt σ H Q := h
end
section
variable {K : PySem.W.Frag}
theorem fm {a b : Int} (h : 0 < b) : 0 ≤ a.fmod b ∧ a.fmod b < b := ⟨Int.fmod_nonneg_of_pos a h, Int.fmod_lt_of_pos a h⟩
theorem ext_upd {H : Hp} {t : Addr} {o : HO} : Ext t H (upd H t o) := fun b u n e => by
  rw [upd_ne n]
  exact e
theorem w_for {σ : L2.St} {H : Hp} {D : Ends} {wi : TI} {g : TG} {tb : TS} (h : wi σ H fun J H1 => ∃ W : Nat → Nat → L2.St → Hp → Prop, (∃ m, W 0 m σ H1) ∧ ∀ i m σ H, W i m σ H →
      (J.stop i H ∧ D.nx σ H) ∨ (J.go i H ∧ ∃ N : L2.St → Hp → Prop, (∀ σ' H', N σ' H' → ∃ m', m' < m ∧ W (i + 1) m' σ' H') ∧ ∀ x H', J.yld i H x H' → g x σ H' fun σ2 H2 => tb { D with nx := N, ct := N, bk := D.nx } σ2 H2)) : tFor wi g tb D σ H := h
theorem q_iteT {A B : Prop} {d : Decidable (true = true)} (h : A) : @ite Prop (true = true) d A B := by rw [if_pos rfl]; exact h
theorem q_iteF {A B : Prop} {d : Decidable (false = true)} (h : B) : @ite Prop (false = true) d A B := by rw [if_neg Bool.false_ne_true]; exact h
theorem q_iteNT {A B : Prop} {d : Decidable ((!true) = true)} (h : B) : @ite Prop ((!true) = true) d A B := by rw [if_neg (show ¬ ((!true) = true) from Bool.false_ne_true)]; exact h
theorem q_iteNF {A B : Prop} {d : Decidable ((!false) = true)} (h : A) : @ite Prop ((!false) = true) d A B := by rw [if_pos (show (!false) = true from rfl)]; exact h
theorem w_break {σ : L2.St} {H : Hp} {D : Ends} (h : D.bk σ H) : tBreak D σ H := h
theorem w_cont {σ : L2.St} {H : Hp} {D : Ends} (h : D.ct σ H) : tCont D σ H := h
theorem w_bits {σ : L2.St} {H : Hp} {to : TE} {Q : VK} (h : to σ H fun x H1 => ∃ i, x = .int i ∧ Q (.int (Builtin.Int.intBits i : Nat)) H1) : tBits to σ H Q := h
theorem w_rng1 {σ : L2.St} {H : Hp} {ta : TA} {R : It → Hp → Prop} (h : ta σ H fun vs H1 => ∃ j : Int, vs = [.int j] ∧ -(2 ^ 62) ≤ j ∧ j < 2 ^ 62 ∧ R (Itr 0 j.toNat) H1) : iRng1 ta σ H R := h
theorem w_rng2 {σ : L2.St} {H : Hp} {ta : TA} {R : It → Hp → Prop} (h : ta σ H fun vs H1 => ∃ i j : Int, vs = [.int i, .int j] ∧ (-(2 ^ 62) ≤ i ∧ i < 2 ^ 62 ∧ -(2 ^ 62) ≤ j ∧ j < 2 ^ 62) ∧ R (Itr i (j - i).toNat) H1) : iRng2 ta σ H R := h
theorem w_itl {σ : L2.St} {H : Hp} {tl : TE} {R : It → Hp → Prop} (h : tl σ H fun x H1 => ∃ a, x = .ref a ∧ (∃ xs, SqL K H1 a xs) ∧ R (Itl K a) H1) : iList K tl σ H R := h
theorem w_itt {σ : L2.St} {H : Hp} {tl : TE} {R : It → Hp → Prop} (h : tl σ H fun x H1 => ∃ a, x = .ref a ∧ (∃ xs, SqT K H1 a xs) ∧ R (Itt K a) H1) : iTup K tl σ H R := h
theorem hu64 {A : Around} {k : Nat} (hr : Room k A) : A.units + 64 < cLine := by
  have := hr.un
  omega
theorem at_ofN {α : Type} {xs : List α} {z : Int} {j : Nat} {v : α} (e : z = (j : Int)) (h : xs[j]? = some v) : atI xs z = some v := by
  rw [e]
  exact atI_nat h
theorem szle {n : Nat} (h : n ≤ 100000) : n ≤ sizeLine := Nat.le_trans h (by decide)
theorem szlt {n : Nat} (h : n < 100000) : n < sizeLine := Nat.lt_of_lt_of_le h (by decide)
section
variable {σ : L2.St} {H : Hp} {te : TE} {tl th : TO} {Q : VK}
theorem w_sl {r : V → Option Int → Option Int → Hp → VK → Prop} (h : te σ H fun x H1 => tl σ H1 fun l H2 => th σ H2 fun u H3 => r x l u H3 Q) : tSl r te tl th σ H Q := h
theorem w_part {R : Option Int → Hp → Prop} (h : te σ H fun x H1 => ∃ i, x = .int i ∧ R (some i) H1) : tPart te σ H R := h
theorem w_nopart {R : Option Int → Hp → Prop} (h : R none H) : tNoPart σ H R := h
theorem w_bm {T : String} {r : V → List V → Hp → VK → Prop} {t : TA} (h : te σ H fun x H1 => tyV K T x H1 ∧ t σ H1 fun xs H2 => r x xs H2 Q) : tBM K T r te t σ H Q := h
theorem w_append {l : Addr} {xs : List V} {v : V} (h : H l = some (.lst xs)) (hz : xs.length < sizeLine) (q : Q .non (upd H l (.lst (xs ++ [v])))) : rAppend (.ref l) [v] H Q := ⟨l, xs, v, rfl, rfl, h, hz, q⟩
theorem w_yes {R : Bool → Hp → Prop} (h : R true H) : tYes σ H R := h
theorem w_lc {wi : TI} {g : TG} {tt : TT} {vs : List Nat} (h : wi σ H fun J H1 => ∀ D, H1 D = none → ∃ W : Nat → Nat → Hp → Prop, (∃ m, W 0 m (upd H1 D (.lst []))) ∧ ∀ i m H, W i m H →
  (J.stop i H ∧ Q (.ref D) H) ∨ (J.go i H ∧ ∃ Nx : Hp → Prop, (∀ H', Nx H' → ∃ m', m' < m ∧ W (i + 1) m' H') ∧ ∀ x H', J.yld i H x H' → g x (wipe σ vs) H' fun σ2 H2 => wipe σ2 vs = wipe σ vs ∧ tt σ2 H2 fun b H3 =>
    if b = true then te σ2 H3 fun y H4 => ∃ acc, H4 D = some (.lst acc) ∧ acc.length < sizeLine ∧ Nx (upd H4 D (.lst (acc ++ [y]))) else Nx H3)) : tLc wi g tt te vs σ H Q := h
theorem cut_to (xs : List V) (n : Nat) : cutV xs none (some (n : Int)) = xs.take n := by
  unfold cutV
  rw [HT.sIx_none, show HT.sIx xs.length xs.length (some (n : Int)) = min n xs.length from HT.sIx_nat xs.length xs.length n]
  rw [List.drop_zero, Nat.sub_zero]
  by_cases h : n ≤ xs.length
  · rw [Nat.min_eq_left h]
  · rw [Nat.min_eq_right (by omega), List.take_of_length_le (Nat.le_refl _), List.take_of_length_le (by omega)]
theorem cut_from (xs : List V) (n : Nat) : cutV xs (some (n : Int)) none = xs.drop n := by
  unfold cutV
  rw [HT.sIx_none, show HT.sIx xs.length 0 (some (n : Int)) = min n xs.length from HT.sIx_nat xs.length 0 n]
  by_cases h : n ≤ xs.length
  · rw [Nat.min_eq_left h, List.take_of_length_le (by rw [List.length_drop]; exact Nat.le_refl _)]
  · rw [Nat.min_eq_right (by omega), List.drop_of_length_le (Nat.le_refl _), List.drop_of_length_le (by omega), List.take_nil]
theorem cut_both (xs : List V) (m n : Nat) : cutV xs (some (m : Int)) (some (n : Int)) = (xs.take n).drop m := by
  unfold cutV
  rw [show HT.sIx xs.length 0 (some (m : Int)) = min m xs.length from HT.sIx_nat xs.length 0 m, show HT.sIx xs.length xs.length (some (n : Int)) = min n xs.length from HT.sIx_nat xs.length xs.length n]
  rw [List.drop_take]
  by_cases g : n ≤ xs.length
  · rw [Nat.min_eq_left g]
    by_cases h : m ≤ xs.length
    · rw [Nat.min_eq_left h]
    · rw [Nat.min_eq_right (by omega), List.drop_of_length_le (Nat.le_refl _), List.drop_of_length_le (by omega), List.take_nil, List.take_nil]
  · rw [Nat.min_eq_right (show xs.length ≤ n by omega)]
    by_cases h : m ≤ xs.length
    · rw [Nat.min_eq_left h, List.take_of_length_le (by rw [List.length_drop]; exact Nat.le_refl _), List.take_of_length_le (by rw [List.length_drop]; omega)]
    · rw [Nat.min_eq_right (by omega), List.drop_of_length_le (Nat.le_refl _), List.drop_of_length_le (by omega), List.take_nil, List.take_nil]
end
theorem w_slA {H : Hp} {Q : VK} {a : Addr} {xs : List V} {lo hi : Option Int} (hx : H a = some (.tup xs)) (q : ∀ (p : Addr) (H' : Hp), Same H H' → H' p = some (.tup (cutV xs lo hi)) → Q (.ref p) H') : rSlA K (.ref a) lo hi H Q := by
  refine ⟨a, xs, rfl, .of hx, fun h => q a H (Same.refl H) ?_, fun _ p np => q p _ (same_new np) upd_same⟩
  have e : cutV xs lo hi = xs := by
    unfold cutV
    rw [h.1, h.2, List.drop_zero, Nat.sub_zero, List.take_length]
  rw [e]
  exact hx
theorem at_cut (xs : List V) (j : Nat) : cutV xs (some (j : Int)) (some ((j + 1 : Nat) : Int)) = (xs[j]?).toList := by
  rw [cut_both, List.drop_take, Nat.add_sub_cancel_left]
  by_cases h : j < xs.length
  · rw [List.drop_eq_getElem_cons h, List.getElem?_eq_getElem h]
    rfl
  · rw [List.drop_of_length_le (by omega), List.getElem?_eq_none (by omega)]
    rfl
theorem w_ixAny {H : Hp} {Q : VK} {p : Addr} {xs : List V} {r : Int} (P : V → Prop) (h : SqL K H p xs) (r0 : 0 ≤ r) (r1 : r < xs.length) (hp : ∀ v ∈ xs, P v) (q : ∀ v, P v → Q v H) : rIxL K (.ref p) (.int r) H Q := by
  have hr : r.toNat < xs.length := by omega
  refine w_ixL (v := xs[r.toNat]) h (at_of (j := r.toNat) (by omega) (List.getElem?_eq_getElem hr)) (q _ (hp _ (List.getElem_mem hr)))
theorem w_ixS {H : Hp} {Q : VK} {z : Str} {r : Int} (P : Nat → Prop) (hz : z.length ≤ sizeLine) (r0 : 0 ≤ r) (r1 : r < z.cps.toList.length) (hp : ∀ c ∈ z.cps.toList, P c) (q : ∀ c, P c → Q (.str ⟨#[c]⟩) H) : rIxS (.str z) (.int r) H Q := by
  have hr : r.toNat < z.cps.toList.length := by omega
  exact ⟨z, r, z.cps.toList[r.toNat], rfl, rfl, hz, at_ofN (j := r.toNat) (by omega) (List.getElem?_eq_getElem hr), q _ (hp _ (List.getElem_mem hr))⟩
theorem w_catA {H : Hp} {Q : VK} {a b : Addr} {xs ys : List V} (ha : H a = some (.tup xs)) (hb : H b = some (.tup ys)) (hl : xs.length + ys.length ≤ 100000) (q : ∀ (p : Addr) (H' : Hp), Same H H' → H' p = some (.tup (xs ++ ys)) → Q (.ref p) H') : rCatA K (.ref a) (.ref b) H Q :=
  ⟨a, b, xs, ys, rfl, rfl, .of ha, .of hb, szle hl, fun e => q b H (Same.refl H) (by rw [e]; exact hb), fun _ e => q a H (Same.refl H) (by rw [e, List.append_nil]; exact ha), fun _ _ p np => q p _ (same_new np) upd_same⟩
theorem w_cat {H : Hp} {Q : VK} {a b : Addr} {xs ys : List V} (ha : H a = some (.lst xs)) (hb : H b = some (.lst ys)) (hl : xs.length + ys.length ≤ 100000) (q : ∀ (p : Addr) (H' : Hp), H p = none → Same H H' → H' p = some (.lst (xs ++ ys)) → Q (.ref p) H') : rCat (.ref a) (.ref b) H Q :=
  ⟨a, b, xs, ys, rfl, rfl, ha, hb, szle hl, fun p np => q p _ np (same_new np) upd_same⟩
theorem w_while {σ : L2.St} {H : Hp} {D : Ends} {c : TT} {tb : TS} (h : ∃ W : Nat → L2.St → Hp → Prop, (∃ m, W m σ H) ∧ ∀ m σ H, W m σ H →
  c σ H fun b H1 => if b = true then ∃ N : L2.St → Hp → Prop, (∀ σ' H', N σ' H' → ∃ m', m' < m ∧ W m' σ' H') ∧ tb { D with nx := N, ct := N, bk := D.nx } σ H1 else D.nx σ H1) : tWhile c tb D σ H := h
theorem w_par {σ : L2.St} {H : Hp} {D : Ends} {i j : Nat} {ta : TA} (h : ta σ H fun vs H1 => ∃ v w, vs = [v, w] ∧ D.nx ((σ.set i (some v)).set j (some w)) H1) : tPar i j ta D σ H := h
theorem w_irev {σ : L2.St} {H : Hp} {ta : TA} {R : It → Hp → Prop} (h : ta σ H fun vs H1 => ∃ (a : Addr) (xs : List V), vs = [.ref a] ∧ SqL K H1 a xs ∧ R (Itv K a xs.length) H1) : iRev K ta σ H R := h
theorem w_its {σ : L2.St} {H : Hp} {tl : TE} {R : It → Hp → Prop} (h : tl σ H fun x H1 => ∃ z, x = .str z ∧ R (Its z) H1) : iStr tl σ H R := h
/-- how deep data is -/
inductive Dep : Nat → PyData → Prop
  | non (n : Nat) : Dep n .none
  | bl (n : Nat) (b : Bool) : Dep n (.bool b)
  | int (n : Nat) (i : Int) : Dep n (.int i)
  | str (n : Nat) (x : Str) : Dep n (.str x)
  | tup {n : Nat} {ds : List PyData} (hl : ds.length ≤ 1000000) (h : ∀ d ∈ ds, Dep n d) : Dep (n + 1) (.tuple ds)
theorem Dep.mono {n : Nat} {d : PyData} (h : Dep n d) : ∀ {m : Nat}, n ≤ m → Dep m d := by
  induction h with
  | non n => exact fun _ => .non _
  | bl n b => exact fun _ => .bl _ _
  | int n i => exact fun _ => .int _ _
  | str n x => exact fun _ => .str _ _
  | tup hl h ih =>
    intro m hm
    cases m with
    | zero => omega
    | succ m => exact .tup hl fun d hd => ih d hd (by omega)
theorem AtL.len {H : Hp} : ∀ {vs : List V} {ds : List PyData}, AtL H vs ds → vs.length = ds.length
  | _, _, .nil => rfl
  | _, _, .cons _ l => congrArg (· + 1) l.len
theorem AtL.get {H : Hp} : ∀ {vs : List V} {ds : List PyData} {i : Nat} {d : PyData}, AtL H vs ds → ds[i]? = some d → ∃ v, vs[i]? = some v ∧ At H v d
  | _, _, _, _, .nil, h => by simp at h
  | _, _, 0, d, .cons (d := e) a _, h => by
    have q : e = d := by simpa using h
    subst q
    exact ⟨_, rfl, a⟩
  | _, _, i + 1, d, .cons _ l, h => by
    obtain ⟨v, h1, h2⟩ := AtL.get (i := i) (d := d) l (by simpa using h)
    exact ⟨v, by simpa using h1, h2⟩
theorem w_isi {H : Hp} {Q : VK} {x : V} {a : String} {n : String} (ty : TyX K H x (.type a)) (b : Bool) (h : kitB a n = some b) (q : Q (.bl b) H) : rIsi K [x, .ty n] H Q := ⟨x, .ty n, .type a, .type n, b, rfl, .ty n, ty, kit_ty h, q⟩
end
/-- what stands at an address -/
local macro_rules | `(tactic| walk_at "hp") => `(tactic| first | assumption | exact upd_same | ((refine (upd_ne ?hn).trans ?hr); (case hn => first | assumption | (apply Ne.symm; assumption) | fail "hp"); (case hr => walk_at "hp")) | fail "hp")
local macro_rules | `(tactic| walk_at "ix") => `(tactic| first | assumption | exact atI_nat (j := 0) rfl | exact atI_nat (j := 1) rfl | exact atI_nat (j := 2) rfl | exact atI_nat (j := 3) rfl | exact atI_nat (j := 4) rfl | fail "ix")
local macro_rules | `(tactic| walk_at "ixn") => `(tactic| first | assumption | exact rfl | fail "ixn")
/-- one step of a reading that asks nothing -/
local macro_rules | `(tactic| walk_at "w1") => `(tactic| first
  | with_reducible refine w_seq ?_ | with_reducible refine w_asg ?_ | with_reducible refine w_name ?_ | with_reducible refine w_gsub ?_ | with_reducible refine w_ret ?_ | with_reducible refine w_ifS ?_ | with_reducible refine w_next ?_ | with_reducible refine w_drop ?_
  | with_reducible refine w_op ?_ | with_reducible refine w_un ?_ | with_reducible refine w_cb ?_ | with_reducible refine w_call ?_ | with_reducible refine w_cons ?_ | with_reducible refine w_nil ?_
  | ((with_reducible refine' w_var ?hv ?_); (case hv => exact rfl)) | with_reducible refine w_c ?_ | with_reducible refine w_test ?_ | with_reducible refine w_B ?_ | with_reducible refine w_bl ?_
  | with_reducible refine w_not ?_ | with_reducible refine w_and ?_ | with_reducible refine w_or ?_ | with_reducible refine w_andV ?_ | with_reducible refine w_orV ?_ | with_reducible refine w_notV ?_ | with_reducible refine w_if ?_
  | with_reducible refine w_I0 ?_ | with_reducible refine w_U ?_ | with_reducible refine w_eqI ?_ | with_reducible refine w_neI ?_ | with_reducible refine w_neB ?_ | with_reducible refine w_eqS ?_
  | ((with_reducible refine w_I ?hc ?_); (case hc => first | exact Or.inr (by decide) | exact ⟨by decide, by decide, by decide⟩ | exact ⟨by decide, by decide⟩ | decide | assumption | (show _ ≠ _; omega) | (unfold CMul; omega)))
  | ((with_reducible show (∃ i, [V.int _] = [V.int i] ∧ _) ∨ _); refine .inl ⟨_, rfl, ?_⟩; try dsimp -proj -iota -zeta -eta only)
  | ((with_reducible show _ ∨ (∃ i, [V.bl _] = [V.bl i] ∧ _)); refine .inr ⟨_, rfl, ?_⟩; try dsimp -proj -iota -zeta -eta only)
  | ((with_reducible show (∃ i, [V.int _] = [V.int i] ∧ _)); refine ⟨_, rfl, ?_⟩; try dsimp -proj -iota -zeta -eta only)
  | ((with_reducible show (∃ i j, [V.int _, V.int _] = [V.int i, V.int j] ∧ _)); refine ⟨_, _, rfl, ?_⟩; try dsimp -proj -iota -zeta -eta only)
  | ((with_reducible refine' w_ixL ?hl ?ha ?_); (case hl => exact SqL.of (by walk_at "hp")); (case ha => walk_at "ix"))
  | ((with_reducible refine' w_ixT ?hl ?ha ?_); (case hl => exact SqT.of (by walk_at "hp")); (case ha => walk_at "ix"))
  | ((with_reducible refine' w_setL ?hl ?ha ?_); (case hl => walk_at "hp"); (case ha => walk_at "ixn"))
  | ((with_reducible show (∃ p ys, [V.ref _] = [V.ref p] ∧ (SqL _ _ p ys ∨ SqT _ _ p ys) ∧ _)); (first | refine ⟨_, _, rfl, .inl (.of (by walk_at "hp")), ?_⟩ | refine ⟨_, _, rfl, .inr (.of (by walk_at "hp")), ?_⟩); try dsimp -proj -iota -zeta -eta only)
  | with_reducible refine q_iteT ?_ | with_reducible refine q_iteF ?_ | with_reducible refine q_iteNT ?_ | with_reducible refine q_iteNF ?_
  | ((with_reducible show (∃ k, TruV _ (V.bl _) _ k ∧ _)); refine ⟨_, rfl, ?_⟩; try dsimp -proj -iota -zeta -eta only)
  | with_reducible refine w_while ?_ | with_reducible refine w_par ?_
  | with_reducible refine w_its ?_ | with_reducible refine w_irev ?_
  | ((with_reducible show (∃ i, V.str _ = V.str i ∧ _)); refine ⟨_, rfl, ?_⟩; try dsimp -proj -iota -zeta -eta only)
  | ((with_reducible show (∃ i, [V.str _] = [V.str i] ∧ _)); refine ⟨_, rfl, ?_⟩; try dsimp -proj -iota -zeta -eta only)
  | with_reducible refine w_break ?_ | with_reducible refine w_cont ?_ | with_reducible refine w_bits ?_
  | ((with_reducible show (∃ i, V.int _ = V.int i ∧ _)); refine ⟨_, rfl, ?_⟩; try dsimp -proj -iota -zeta -eta only)
  | with_reducible refine w_for ?_ | with_reducible refine w_rng1 ?_ | with_reducible refine w_rng2 ?_ | with_reducible refine w_itl ?_ | with_reducible refine w_itt ?_
  | ((with_reducible show (∃ a, V.ref _ = V.ref a ∧ (∃ xs, SqL _ _ a xs) ∧ _)); refine ⟨_, rfl, ⟨_, .of (by walk_at "hp")⟩, ?_⟩; try dsimp -proj -iota -zeta -eta only)
  | with_reducible refine w_sl ?_ | with_reducible refine w_part ?_ | with_reducible refine w_nopart ?_ | with_reducible refine w_bm ?_ | with_reducible refine w_yes ?_ | with_reducible refine w_lc ?_
  | ((with_reducible show tyV _ "list" (V.ref _) _ ∧ _); refine ⟨.inl ⟨rfl, _, .of (by walk_at "hp")⟩, ?_⟩)
  | ((with_reducible refine' w_append ?hl ?hz ?_); (case hl => walk_at "hp"); (case hz => first | assumption | exact szlt (by simp only [List.length_append, List.length_map, List.length_cons, List.length_nil, List.length_take, List.length_replicate] <;> omega)))
  | ((with_reducible show (∃ p ys, [V.ref _] = [V.ref p] ∧ ((SqL _ _ p ys ∧ _) ∨ (SqT _ _ p ys ∧ _)))); refine ⟨_, _, rfl, .inl ⟨.of (by walk_at "hp"), ?_⟩⟩; try dsimp -proj -iota -zeta -eta only)
  | with_reducible refine w_tup ?_ | with_reducible refine w_lst ?_ | fail "w1")
local macro_rules | `(tactic| walk_at "wp") => `(tactic| repeat walk_at "w1")
local macro_rules | `(tactic| walk_at "wi") => `(tactic| repeat ((fail_if_success (with_reducible show tIfS _ _ _ _ _ _)); walk_at "w1"))
namespace Um
open PySem PySem.Spec PyProof.Rows L2 Ss
theorem tuple_mulW1 (l : Addr) (items : Array Value) (n : Nat) (dd : Option Addr) (sl : Array (Option Value)) (u : Tok) :
    Meets (Builtin.«tuple.__mul__» ⟨[.ref l, .int 1 u], []⟩) (fun _ R s => s.heap.get? l = some { cls := .type "tuple", dict := dd, data := .seq items n, slots := sl } ∧
      R (.ok (.ret (Value.ref l))) { s with toks := s.toks }) :=
  .of_wp fun prog w A R s h => by
    obtain ⟨hp, g, d, tk, os⟩ := s
    obtain ⟨hl, h⟩ := h
    have f1 := AutoSeq1.idx_int
    have c0 : (decide ((1 : Int) < -(2 ^ 63)) || decide ((1 : Int) ≥ 2 ^ 63)) = false := by decide
    have c1 : (items.isEmpty || (1 : Int) == 1) = true := by rw [Bool.or_eq_true]; exact .inr rfl
    wp_walk using wpAny_loadPart' hl
    repeat (first
      | (refine wpAny_ite_false (decide_eq_false (by rw [c0]; exact Bool.false_ne_true)) ?_; wp_walk using wpAny_loadPart' hl)
      | (refine wpAny_ite_true (decide_eq_true c1) ?_; wp_walk using wpAny_loadPart' hl))
    exact ⟨_, rfl, h⟩
theorem tuple_mulW0 (l : Addr) (items : Array Value) (n : Nat) (dd : Option Addr) (sl : Array (Option Value)) (u : Tok) (c1 : (items.isEmpty || (0 : Int) == 1) = false) :
    Meets (Builtin.«tuple.__mul__» ⟨[.ref l, .int 0 u], []⟩) (fun _ R s => s.heap.get? l = some { cls := .type "tuple", dict := dd, data := .seq items n, slots := sl } ∧
      R (.ok (.ret (Value.ref s.heap.objs.size))) { s with heap := s.heap.push { cls := Value.type "tuple", data := Data.seq #[] }, toks := s.toks }) :=
  .of_wp fun prog w A R s h => by
    obtain ⟨hp, g, d, tk, os⟩ := s
    obtain ⟨hl, h⟩ := h
    have f1 := AutoSeq1.idx_int
    have c0 : (decide ((0 : Int) < -(2 ^ 63)) || decide ((0 : Int) ≥ 2 ^ 63)) = false := by decide
    have c2 : (decide ((0 : Int) ≤ 0) || items.isEmpty) = true := by rw [Bool.or_eq_true]; exact .inl rfl
    wp_walk using wpAny_loadPart' hl
    repeat (first
      | (refine wpAny_ite_false (decide_eq_false (by rw [c0]; exact Bool.false_ne_true)) ?_; wp_walk using wpAny_loadPart' hl)
      | (refine wpAny_ite_false (decide_eq_false (by rw [c1]; exact Bool.false_ne_true)) ?_; wp_walk using wpAny_loadPart' hl)
      | (refine wpAny_ite_true (decide_eq_true c2) ?_; wp_walk using wpAny_loadPart' hl))
    exact ⟨_, rfl, h⟩
def rRepA (K : PySem.W.Frag) : R2 := fun x y H Q => ∃ l k xs, x = .ref l ∧ y = .int k ∧ H l = some (.tup xs) ∧ xs ≠ [] ∧ 0 ≤ k ∧ k ≤ 1000000 ∧ xs.length * k.toNat ≤ 1000000 ∧ ∀ p H', Same H H' → H' p = some (.tup (List.replicate k.toNat xs).flatten) → Q (.ref p) H'
section
variable {X : Cx}
theorem op_repA : OpR X (binaryOp .Mult) (rRepA X.K) := by
  intro pins s σ H x y v u Q I rx ry h
  obtain ⟨l, k, xs, rfl, rfl, hT, hne, h1, h2, hz, q⟩ := h
  cases rx
  obtain ⟨t, rfl⟩ := ry
  obtain ⟨its, r, ⟨⟨cls, dd, data, sl⟩, ho, hc, n, hd⟩, hs⟩ := I.tuple (SqT.of hT)
  simp only at hc hd
  subst hc hd
  have hle : its.length = xs.length := r.length.symm
  have hn : its ≠ [] := fun e => hne (by
    rw [e] at hle
    exact List.eq_nil_of_length_eq_zero hle.symm)
  have hi : its.toArray.isEmpty = false := by
    cases its with
    | nil => exact absurd rfl hn
    | cons a b => rfl
  have hsz0 : its.toArray.size = xs.length := by rw [List.size_toArray, hle]
  rcases Nat.lt_trichotomy k.toNat 1 with e | e | e
  · have e0 : k = 0 := by omega
    subst e0
    have c1 : (its.toArray.isEmpty || (0 : Int) == 1) = false := by rw [hi]; rfl
    refine wpAny_binaryOp_repeat_ref (T := "tuple") (U := "int") (by decide) ⟨_, ho, rfl⟩ (fun s' => typeIs_int s' 0 t) noFill_tuple_mul F.fills_int_mul F.slot_int_rmul repeat_tuple F.slot_int_index.lookup
      (call_meets F.slot_int_rmul (typeIs_int s 0 t) F.entry_int_rmul (F.args_int_rmul_2 _ _) (int_rmul_tuple 0 t l its.toArray n dd sl)
        ⟨ho, rfl, ⟨_, ho, rfl⟩, call_meets F.slot_tuple_mul ⟨_, ho, rfl⟩ F.entry_tuple_mul (F.args_tuple_mul_2 _ _) (tuple_mulW0 l its.toArray n dd sl t c1) ⟨ho, ?_⟩⟩)
    refine ⟨.ref s.heap.objs.size, _, I.laid (t' := s.toks) (o := .tup []) (fun b ob q => Heap.get?_push_of_some _ q) (Nat.le_refl _) ?_, rfl, q _ _ (same_new (I.hok.fresh (Nat.le_refl _))) upd_same⟩
    exact ⟨Nat.zero_le _, [], .nil, IsTup.new _ _⟩
  · have e1 : k = 1 := by omega
    subst e1
    refine wpAny_binaryOp_repeat_ref (T := "tuple") (U := "int") (by decide) ⟨_, ho, rfl⟩ (fun s' => typeIs_int s' 1 t) noFill_tuple_mul F.fills_int_mul F.slot_int_rmul repeat_tuple F.slot_int_index.lookup
      (call_meets F.slot_int_rmul (typeIs_int s 1 t) F.entry_int_rmul (F.args_int_rmul_2 _ _) (int_rmul_tuple 1 t l its.toArray n dd sl)
        ⟨ho, rfl, ⟨_, ho, rfl⟩, call_meets F.slot_tuple_mul ⟨_, ho, rfl⟩ F.entry_tuple_mul (F.args_tuple_mul_2 _ _) (tuple_mulW1 l its.toArray n dd sl t) ⟨ho, ?_⟩⟩)
    refine ⟨.ref l, H, I, rfl, q _ _ (Same.refl H) ?_⟩
    rw [hT]
    show _ = some (HO.tup ([xs].flatten))
    rw [List.flatten_cons, List.flatten_nil, List.append_nil]
  · have hm : ((its.toArray.size : Nat) : Int) * k ≤ 1000000 := by
      rw [hsz0]
      have : (k.toNat : Int) = k := by omega
      rw [← this, ← Int.natCast_mul]
      omega
    have flen : (List.replicate k.toNat its).flatten.length ≤ sizeLine := by
      rw [PyProof.Rows.lm_len_rep_flat, hle, sizeLine_eq, Nat.mul_comm]
      omega
    have c0 : (decide (k < -(2 ^ 63)) || decide (k ≥ 2 ^ 63)) = false := by
      rw [decide_eq_false (by omega), decide_eq_false (by omega)] <;> rfl
    have c1 : (its.toArray.isEmpty || k == 1) = false := by
      rw [hi, Bool.false_or]
      exact beq_eq_false_iff_ne.mpr (by omega)
    have c2 : (decide (k ≤ 0) || its.toArray.isEmpty) = false := by
      rw [hi, Bool.or_false]
      exact decide_eq_false (by omega)
    have c4 : Builtin.Tuple.tupleTooMany (((its.toArray.size : Nat) : Int) * k) = false := by
      unfold Builtin.Tuple.tupleTooMany
      rw [sizeLine_eq]
      exact decide_eq_false (by omega)
    refine wpAny_binaryOp_repeat_ref (T := "tuple") (U := "int") (by decide) ⟨_, ho, rfl⟩ (fun s' => typeIs_int s' k t) noFill_tuple_mul F.fills_int_mul F.slot_int_rmul repeat_tuple F.slot_int_index.lookup
      (call_meets F.slot_int_rmul (typeIs_int s k t) F.entry_int_rmul (F.args_int_rmul_2 _ _) (int_rmul_tuple k t l its.toArray n dd sl)
        ⟨ho, rfl, ⟨_, ho, rfl⟩, call_meets F.slot_tuple_mul ⟨_, ho, rfl⟩ F.entry_tuple_mul (F.args_tuple_mul_2 _ _) (tuple_mulW l its.toArray n dd sl k t c0 c1 c2 (by omega) c4 (by rw [size_rep, List.size_toArray]; exact flen)) ⟨ho, ?_⟩⟩)
    rw [size_rep]
    refine ⟨.ref s.heap.objs.size, _, I.laid (t' := s.toks) (o := .tup (List.replicate k.toNat xs).flatten) (fun b ob q => Heap.get?_push_of_some _ q) (Nat.le_refl _) ?_, rfl, q _ _ (same_new (I.hok.fresh (Nat.le_refl _))) upd_same⟩
    exact ⟨by rw [PyProof.Rows.lm_len_rep_flat, sizeLine_eq, Nat.mul_comm]; omega, _, r.rep k.toNat, IsTup.new _ _⟩
end
end Um
namespace Um
open PySem PySem.Spec PyProof.Rows L2 Ss
/-- an empty tuple, any number of times -/
theorem tuple_mulE (l : Addr) (n : Nat) (dd : Option Addr) (sl : Array (Option Value)) (x : Int) (u : Tok) (c0 : (decide (x < -(2 ^ 63)) || decide (x ≥ 2 ^ 63)) = false) :
    Meets (Builtin.«tuple.__mul__» ⟨[.ref l, .int x u], []⟩) (fun _ R s => s.heap.get? l = some { cls := .type "tuple", dict := dd, data := .seq #[] n, slots := sl } ∧
      R (.ok (.ret (Value.ref l))) { s with toks := s.toks }) :=
  .of_wp fun prog w A R s h => by
    obtain ⟨hp, g, d, tk, os⟩ := s
    obtain ⟨hl, h⟩ := h
    have f1 := AutoSeq1.idx_int
    have c1 : ((#[] : Array Value).isEmpty || x == 1) = true := rfl
    wp_walk using wpAny_loadPart' hl
    repeat (first
      | (refine wpAny_ite_false (decide_eq_false (by rw [c0]; exact Bool.false_ne_true)) ?_; wp_walk using wpAny_loadPart' hl)
      | (refine wpAny_ite_true (decide_eq_true c1) ?_; wp_walk using wpAny_loadPart' hl))
    exact ⟨_, rfl, h⟩
def rRepB (K : PySem.W.Frag) : R2 := fun x y H Q => ∃ l k xs, x = .ref l ∧ y = .int k ∧ H l = some (.tup xs) ∧ 0 ≤ k ∧ k ≤ 1000000 ∧ xs.length * k.toNat ≤ 1000000 ∧ ∀ p H', Same H H' → H' p = some (.tup (List.replicate k.toNat xs).flatten) → Q (.ref p) H'
theorem flat_nil {α : Type} : ∀ n : Nat, (List.replicate n ([] : List α)).flatten = []
  | 0 => rfl
  | n + 1 => by rw [List.replicate_succ, List.flatten_cons, flat_nil n]; rfl
theorem op_repB {X : Cx} : OpR X (binaryOp .Mult) (rRepB X.K) := by
  intro pins s σ H x y v u Q I rx ry h
  obtain ⟨l, k, xs, rfl, rfl, hT, h1, h2, hz, q⟩ := h
  by_cases hne : xs = []
  · subst hne
    cases rx
    obtain ⟨t, rfl⟩ := ry
    obtain ⟨its, r, ⟨⟨cls, dd, data, sl⟩, ho, hc, n, hd⟩, hs⟩ := I.tuple (SqT.of hT)
    simp only at hc hd
    subst hc hd
    have e : its = [] := List.eq_nil_of_length_eq_zero r.length.symm
    subst e
    have c0 : (decide (k < -(2 ^ 63)) || decide (k ≥ 2 ^ 63)) = false := by
      rw [decide_eq_false (by omega), decide_eq_false (by omega)] <;> rfl
    refine wpAny_binaryOp_repeat_ref (T := "tuple") (U := "int") (by decide) ⟨_, ho, rfl⟩ (fun s' => typeIs_int s' k t) noFill_tuple_mul F.fills_int_mul F.slot_int_rmul repeat_tuple F.slot_int_index.lookup
      (call_meets F.slot_int_rmul (typeIs_int s k t) F.entry_int_rmul (F.args_int_rmul_2 _ _) (int_rmul_tuple k t l #[] n dd sl)
        ⟨ho, rfl, ⟨_, ho, rfl⟩, call_meets F.slot_tuple_mul ⟨_, ho, rfl⟩ F.entry_tuple_mul (F.args_tuple_mul_2 _ _) (tuple_mulE l n dd sl k t c0) ⟨ho, ?_⟩⟩)
    refine ⟨.ref l, H, I, rfl, q _ _ (Same.refl H) ?_⟩
    rw [hT, flat_nil]
  · exact op_repA pins s σ H _ _ _ _ _ I rx ry ⟨l, k, xs, rfl, rfl, hT, hne, h1, h2, hz, q⟩
end Um
namespace Em
open PySem PySem.Spec PyProof.Rows L2 Ss
theorem list_extend_tupW (l : Addr) (items : Array Value) (n : Nat) (b : Addr) (items2 : Array Value) (n2 : Nat) (dd : Option Addr) (sl : Array (Option Value)) (hs0 : ¬(!items.isEmpty && Builtin.List.listTooLong (items.size + items2.size)) = true) (hs1 : items.size ≤ sizeLine) (hs2 : items.size + items2.size ≤ sizeLine + 1) :
    Meets (Builtin.«list.extend» ⟨[.ref l, .ref b], []⟩) (fun _ R s => s.heap.get? l = some { cls := .type "list", dict := none, data := .seq items n, slots := #[] } ∧ s.heap.get? b = some { cls := .type "tuple", dict := dd, data := .seq items2 n2, slots := sl } ∧ R (.ok (.ret Value.none)) { s with heap := s.heap.update l (Obj.mapSeq fun x => x ++ items2), toks := s.toks }) :=
  .of_wp fun prog w A R s h => by
    obtain ⟨hp, g, d, tk, os⟩ := s; obtain ⟨hl, hb, h⟩ := h; have f1 := AutoSeq1.idx_int; have f2 := AutoSeq1.sub_tuple_tuple; have f3 := AutoSeq1.sub_list_list; have f4 := AutoSeq1.sub_tuple_list; have f5 := AutoSeq1.sub_list_tuple;
    have hz' : (items ++ items2).size ≤ sizeLine + 1 := by rw [Array.size_append]; exact hs2
    wp_walk using (wpAny_updateSeq hl rfl (hz := hs1) (_hz' := hz')), wpAny_loadPart' hl, wpAny_loadPart' hb; exact ⟨_, rfl, h⟩
def rExtendT (K : PySem.W.Frag) : V → List V → Hp → VK → Prop := fun x vs H Q => ∃ l b xs zs, x = .ref l ∧ vs = [.ref b] ∧ H l = some (.lst xs) ∧ SqT K H b zs ∧ xs.length + zs.length ≤ sizeLine ∧ Q .non (upd H l (.lst (xs ++ zs)))
theorem mt_extendT {X : Cx} : MtM X "list.extend" (rExtendT X.K) := by
  intro pins s σ H x vs v us Q I rx rv h
  obtain ⟨l, b, xs, zs, rfl, rfl, hH, hB, hz, q⟩ := h
  cases rx
  obtain ⟨u, rfl, ru⟩ := rv.one
  cases ru
  obtain ⟨z, its, n, r, hl, e⟩ := I.lstM hH
  obtain ⟨its2, r2, ⟨⟨cls, dd, data, sl⟩, e2, hc, n2, hd⟩, hs⟩ := I.tuple hB
  simp only at hc hd
  subst hc hd
  have hl2 := r2.length
  have hsz : its.toArray.size + its2.toArray.size ≤ sizeLine := by rw [List.size_toArray, List.size_toArray]; omega
  have hlong : ¬ (!its.toArray.isEmpty && Builtin.List.listTooLong (its.toArray.size + its2.toArray.size)) = true := by
    rw [notLongL hsz, Bool.and_false]
    exact Bool.false_ne_true
  refine call_meets F.slot_list_extend ⟨_, e, rfl⟩ F.entry_list_extend (F.args_list_extend_2 _ _)
    (list_extend_tupW l its.toArray n b its2.toArray n2 dd sl hlong (by rw [List.size_toArray]; omega) (by omega)) ⟨e, e2, ?_⟩
  refine ⟨.non, _, I.lset (its' := its ++ its2) hH e (by simp) (r.append r2) ?_, rfl, q⟩
  rw [List.length_append]
  omega
end Em
namespace Dl
open PySem PySem.Spec PyProof.Rows L2 Ss
/-! ### data without addresses: what a slot holds, lists and dicts that are written belong to one slot -/
abbrev Dat := PyData
abbrev Ow := Addr → Prop
def kD : Key → Dat
  | .inl i => .int i
  | .inr x => .str x
/-- what nothing is known of -/
def unkD : Dat := .dict [(.none, .none)]
/-- an object that may be written, by where it stands -/
def refD (a : Addr) : Dat := .dict [(.bool true, .int (a : Int))]
mutual
/-- v stands for d in H; no list or dict of it stands at an address of N -/
inductive Fz (N : Ow) (H : Hp) : V → Dat → Prop
  | non : Fz N H .non .none
  | bl (b : Bool) : Fz N H (.bl b) (.bool b)
  | int (i : Int) : Fz N H (.int i) (.int i)
  | str (x : Str) : Fz N H (.str x) (.str x)
  | tup {a : Addr} {xs : List V} {ds : List Dat} : H a = some (.tup xs) → FzL N H xs ds → Fz N H (.ref a) (.tuple ds)
  | lst {a : Addr} {xs : List V} {ds : List Dat} : H a = some (.lst xs) → ¬ N a → FzL N H xs ds → Fz N H (.ref a) (.list ds)
  | dic {a : Addr} {kvs : List (Key × V)} {ds : List (Key × Dat)} : Rd H a (.dK kvs) → ¬ N a → FzK N H kvs ds → Fz N H (.ref a) (.dict (ds.map fun p => (kD p.1, p.2)))
  | rng {a : Addr} {lo hi : Int} : H a = some (.rng lo hi) → ¬ N a → Fz N H (.ref a) (.dict [(.none, .int lo), (.none, .int hi)])
  | unk {a : Addr} : Fz N H (.ref a) unkD
  | obj {a : Addr} : Fz N H (.ref a) (refD a)
inductive FzL (N : Ow) (H : Hp) : List V → List Dat → Prop
  | nil : FzL N H [] []
  | cons {v : V} {vs : List V} {d : Dat} {ds : List Dat} : Fz N H v d → FzL N H vs ds → FzL N H (v :: vs) (d :: ds)
inductive FzK (N : Ow) (H : Hp) : List (Key × V) → List (Key × Dat) → Prop
  | nil : FzK N H [] []
  | cons {k : Key} {v : V} {vs : List (Key × V)} {d : Dat} {ds : List (Key × Dat)} : Fz N H v d → FzK N H vs ds → FzK N H ((k, v) :: vs) ((k, d) :: ds)
end
def dicD (m : List (Key × Dat)) : Dat := .dict (m.map fun p => (kD p.1, p.2))
theorem kD_inj {k l : Key} (h : kD k = kD l) : k = l := by
  cases k <;> cases l <;> first | (cases h; rfl) | cases h
theorem dicL_inj : ∀ {m n : List (Key × Dat)}, (m.map fun p => (kD p.1, p.2)) = (n.map fun p => (kD p.1, p.2)) → m = n
  | [], [], _ => rfl
  | [], _ :: _, h => nomatch h
  | _ :: _, [], h => nomatch h
  | (k, d) :: m, (l, e) :: n, h => by
    have h := List.cons.inj h
    have h1 := Prod.mk.inj h.1
    have e1 : k = l := kD_inj h1.1
    have e2 : d = e := h1.2
    rw [e1, e2, dicL_inj h.2]
theorem dicD_inj {m n : List (Key × Dat)} (h : dicD m = dicD n) : m = n := dicL_inj (PyData.dict.inj h)
theorem rng_dic {lo hi : Int} : ∀ {m : List (Key × Dat)}, dicD m = .dict [(.none, .int lo), (.none, .int hi)] → False
  | [], h => by
    have h : ([] : List (Dat × Dat)) = _ := PyData.dict.inj h
    cases h
  | (k, d) :: m, h => by
    have h := List.cons.inj (PyData.dict.inj (show PyData.dict ((kD k, d) :: m.map fun p => (kD p.1, p.2)) = _ from h))
    have h1 : kD k = .none := congrArg Prod.fst h.1
    cases k <;> cases h1
theorem unk_dic : ∀ {m : List (Key × Dat)}, dicD m = unkD → False
  | [], h => by
    have h : ([] : List (Dat × Dat)) = _ := PyData.dict.inj h
    cases h
  | (k, d) :: m, h => by
    have h := List.cons.inj (PyData.dict.inj (show PyData.dict ((kD k, d) :: m.map fun p => (kD p.1, p.2)) = _ from h))
    have h1 : kD k = .none := congrArg Prod.fst h.1
    cases k <;> cases h1
theorem ref_dic {a : Addr} : ∀ {m : List (Key × Dat)}, dicD m = refD a → False
  | [], h => by
    have h : ([] : List (Dat × Dat)) = _ := PyData.dict.inj h
    cases h
  | (k, d) :: m, h => by
    have h := List.cons.inj (PyData.dict.inj (show PyData.dict ((kD k, d) :: m.map fun p => (kD p.1, p.2)) = _ from h))
    have h1 : kD k = .bool true := congrArg Prod.fst h.1
    cases k <;> cases h1
/-- a dict, be it locked or not -/
def LkD (o : HO) (kvs : List (Key × V)) : Prop := o = .dK kvs ∨ ∃ x, o = .frz x (.dK kvs)
/-- what stands stays, but for locks -/
def Kp (N N' : Ow) (H H' : Hp) : Prop := ∀ b o, H b = some o → ((∃ xs, o = .tup xs) ∨ ¬ N b) → (∃ o', H' b = some o' ∧ (o' = o ∨ ∃ kvs, LkD o kvs ∧ LkD o' kvs)) ∧ (¬ N b → ¬ N' b)
theorem Kp.tup {N N' : Ow} {H H' : Hp} (h : Kp N N' H H') {b : Addr} {xs : List V} (e : H b = some (.tup xs)) : H' b = some (.tup xs) := by
  obtain ⟨⟨o', e', q⟩, _⟩ := h b _ e (.inl ⟨xs, rfl⟩)
  rcases q with rfl | ⟨kvs, q | ⟨_, q⟩, _⟩
  · exact e'
  · cases q
  · cases q
theorem Kp.lst {N N' : Ow} {H H' : Hp} (h : Kp N N' H H') {b : Addr} {xs : List V} (e : H b = some (.lst xs)) (n : ¬ N b) : H' b = some (.lst xs) ∧ ¬ N' b := by
  obtain ⟨⟨o', e', q⟩, k⟩ := h b _ e (.inr n)
  refine ⟨?_, k n⟩
  rcases q with rfl | ⟨kvs, q | ⟨_, q⟩, _⟩
  · exact e'
  · cases q
  · cases q
theorem Kp.dic {N N' : Ow} {H H' : Hp} (h : Kp N N' H H') {b : Addr} {kvs : List (Key × V)} (e : Rd H b (.dK kvs)) (n : ¬ N b) : Rd H' b (.dK kvs) ∧ ¬ N' b := by
  have fin : ∀ {o' : HO}, H' b = some o' → LkD o' kvs → Rd H' b (.dK kvs) := fun {o'} e' q => by
    rcases q with rfl | ⟨x, rfl⟩
    · exact .inl e'
    · exact .inr ⟨x, e'⟩
  rcases e with e | ⟨x, e⟩
  · obtain ⟨⟨o', e', q⟩, k⟩ := h b _ e (.inr n)
    refine ⟨?_, k n⟩
    rcases q with rfl | ⟨ks, q | ⟨_, q⟩, q2⟩
    · exact .inl e'
    · cases q; exact fin e' q2
    · cases q
  · obtain ⟨⟨o', e', q⟩, k⟩ := h b _ e (.inr n)
    refine ⟨?_, k n⟩
    rcases q with rfl | ⟨ks, q | ⟨_, q⟩, q2⟩
    · exact .inr ⟨x, e'⟩
    · cases q
    · cases q; exact fin e' q2
theorem Kp.rng {N N' : Ow} {H H' : Hp} (h : Kp N N' H H') {b : Addr} {lo hi : Int} (e : H b = some (.rng lo hi)) (n : ¬ N b) : H' b = some (.rng lo hi) ∧ ¬ N' b := by
  obtain ⟨⟨o', e', q⟩, k⟩ := h b _ e (.inr n)
  refine ⟨?_, k n⟩
  rcases q with rfl | ⟨kvs, q | ⟨_, q⟩, _⟩
  · exact e'
  · cases q
  · cases q
theorem Kp.ex {N N' : Ow} {H H' : Hp} (h : ∀ b o, H b = some o → ((∃ xs, o = .tup xs) ∨ ¬ N b) → H' b = some o ∧ (¬ N b → ¬ N' b)) : Kp N N' H H' := fun b o e q => ⟨⟨o, (h b o e q).1, .inl rfl⟩, (h b o e q).2⟩
mutual
theorem Fz.keep {N N' : Ow} {H H' : Hp} (h : Kp N N' H H') : ∀ {v : V} {d : Dat}, Fz N H v d → Fz N' H' v d
  | _, _, .non => .non
  | _, _, .bl b => .bl b
  | _, _, .int i => .int i
  | _, _, .str x => .str x
  | _, _, .tup e l => .tup (h.tup e) (FzL.keep h l)
  | _, _, .lst e n l => .lst (h.lst e n).1 (h.lst e n).2 (FzL.keep h l)
  | _, _, .dic e n l => .dic (h.dic e n).1 (h.dic e n).2 (FzK.keep h l)
  | _, _, .rng e n => .rng (h.rng e n).1 (h.rng e n).2
  | _, _, .unk => .unk
  | _, _, .obj => .obj
theorem FzL.keep {N N' : Ow} {H H' : Hp} (h : Kp N N' H H') : ∀ {v : List V} {d : List Dat}, FzL N H v d → FzL N' H' v d
  | _, _, .nil => .nil
  | _, _, .cons a l => .cons (Fz.keep h a) (FzL.keep h l)
theorem FzK.keep {N N' : Ow} {H H' : Hp} (h : Kp N N' H H') : ∀ {v : List (Key × V)} {d : List (Key × Dat)}, FzK N H v d → FzK N' H' v d
  | _, _, .nil => .nil
  | _, _, .cons a l => .cons (Fz.keep h a) (FzK.keep h l)
end
theorem Kp.same {N : Ow} {H H' : Hp} (h : Same H H') : Kp N N H H' := .ex fun b o e _ => ⟨h b o e, id⟩
theorem Kp.sub {N N' : Ow} {H : Hp} (h : ∀ b, N' b → N b) : Kp N N' H H := .ex fun b o e _ => ⟨e, fun n n' => n (h b n')⟩
theorem FzL.len {N : Ow} {H : Hp} : ∀ {vs : List V} {ds : List Dat}, FzL N H vs ds → vs.length = ds.length
  | _, _, .nil => rfl
  | _, _, .cons _ l => congrArg (· + 1) l.len
theorem FzK.len {N : Ow} {H : Hp} : ∀ {vs : List (Key × V)} {ds : List (Key × Dat)}, FzK N H vs ds → vs.length = ds.length
  | _, _, .nil => rfl
  | _, _, .cons _ l => congrArg (· + 1) l.len
theorem FzL.get {N : Ow} {H : Hp} : ∀ {vs : List V} {ds : List Dat} {i : Nat} {d : Dat}, FzL N H vs ds → ds[i]? = some d → ∃ v, vs[i]? = some v ∧ Fz N H v d
  | _, _, _, _, .nil, h => by simp at h
  | _, _, 0, d, .cons (d := e) a _, h => by
    have q : e = d := by simpa using h
    subst q
    exact ⟨_, rfl, a⟩
  | _, _, i + 1, d, .cons _ l, h => by
    obtain ⟨v, h1, h2⟩ := FzL.get (i := i) (d := d) l (by simpa using h)
    exact ⟨v, by simpa using h1, h2⟩
theorem FzL.at {N : Ow} {H : Hp} : ∀ {vs : List V} {ds : List Dat} {i : Nat} {v : V}, FzL N H vs ds → vs[i]? = some v → ∃ d, ds[i]? = some d ∧ Fz N H v d
  | _, _, _, _, .nil, h => by simp at h
  | _, _, 0, d, .cons (v := e) a _, h => by
    have q : e = d := by simpa using h
    subst q
    exact ⟨_, rfl, a⟩
  | _, _, i + 1, d, .cons _ l, h => by
    obtain ⟨v, h1, h2⟩ := FzL.at (i := i) (v := d) l (by simpa using h)
    exact ⟨v, by simpa using h1, h2⟩
theorem FzL.app {N : Ow} {H : Hp} : ∀ {vs ws : List V} {ds es : List Dat}, FzL N H vs ds → FzL N H ws es → FzL N H (vs ++ ws) (ds ++ es)
  | _, _, _, _, .nil, h => h
  | _, _, _, _, .cons a l, h => .cons a (l.app h)
theorem FzL.take {N : Ow} {H : Hp} : ∀ (n : Nat) {vs : List V} {ds : List Dat}, FzL N H vs ds → FzL N H (vs.take n) (ds.take n)
  | 0, _, _, _ => .nil
  | _ + 1, _, _, .nil => .nil
  | n + 1, _, _, .cons a l => .cons a (FzL.take n l)
theorem FzL.drop {N : Ow} {H : Hp} : ∀ (n : Nat) {vs : List V} {ds : List Dat}, FzL N H vs ds → FzL N H (vs.drop n) (ds.drop n)
  | 0, _, _, h => h
  | _ + 1, _, _, .nil => .nil
  | n + 1, _, _, .cons a l => FzL.drop n l
theorem FzL.set {N : Ow} {H : Hp} {v : V} {d : Dat} (a : Fz N H v d) : ∀ (n : Nat) {vs : List V} {ds : List Dat}, FzL N H vs ds → FzL N H (vs.set n v) (ds.set n d)
  | _, _, _, .nil => .nil
  | 0, _, _, .cons _ l => .cons a l
  | n + 1, _, _, .cons b l => .cons b (FzL.set a n l)
theorem FzL.rep {N : Ow} {H : Hp} {vs : List V} {ds : List Dat} (l : FzL N H vs ds) : ∀ n : Nat, FzL N H (List.replicate n vs).flatten (List.replicate n ds).flatten
  | 0 => .nil
  | n + 1 => by
    rw [List.replicate_succ, List.replicate_succ, List.flatten_cons, List.flatten_cons]
    exact l.app (FzL.rep l n)
theorem FzL.ints {N : Ow} {H : Hp} : ∀ {vs : List V} {ns : List Int}, FzL N H vs (ns.map .int) → vs = ns.map V.int
  | _, [], .nil => rfl
  | _, _ :: _, .cons a l => by
    cases a
    rw [List.map_cons, ← l.ints]
theorem FzL.of_ints {N : Ow} {H : Hp} : ∀ {ns : List Int}, FzL N H (ns.map V.int) (ns.map .int)
  | [] => .nil
  | _ :: _ => .cons (.int _) FzL.of_ints
mutual
theorem at_fz {N : Ow} {H : Hp} : ∀ {v : V} {d : Dat}, At H v d → Fz N H v d
  | _, _, .non => .non
  | _, _, .bl b => .bl b
  | _, _, .int i => .int i
  | _, _, .str x => .str x
  | _, _, .tup e l => .tup e (atl_fz l)
theorem atl_fz {N : Ow} {H : Hp} : ∀ {v : List V} {d : List Dat}, AtL H v d → FzL N H v d
  | _, _, .nil => .nil
  | _, _, .cons a l => .cons (at_fz a) (atl_fz l)
end
/-! ### the slots -/
abbrev DEnv := List (Option Dat)
abbrev NT := {o : HO // ∀ xs, o ≠ .tup xs}
def ntD (kvs : List (Key × V)) : NT := ⟨.dK kvs, fun _ z => nomatch z⟩
/-- a thing that may be written stands there: no tuple -/
def LD (H : Hp) (b : Addr) : Prop := (∃ xs, H b = some (.lst xs)) ∨ ∃ o : NT, H b = some o.1
/-- a list or a dict at a -/
def OwnC (N : Ow) (H : Hp) (a : Addr) (d : Dat) : Prop := (∃ xs ds, d = .list ds ∧ H a = some (.lst xs) ∧ FzL N H xs ds) ∨ ∃ kvs ds, d = dicD ds ∧ H a = some (.dK kvs) ∧ FzK N H kvs ds
theorem OwnC.keep {N N' : Ow} {H H' : Hp} {a : Addr} {d : Dat} (k : Kp N N' H H') (h : H' a = H a) (o : OwnC N H a d) : OwnC N' H' a d := by
  rcases o with ⟨xs, ds, e, ha, l⟩ | ⟨xs, ds, e, ha, l⟩
  · exact .inl ⟨xs, ds, e, h.trans ha, l.keep k⟩
  · exact .inr ⟨xs, ds, e, h.trans ha, l.keep k⟩
theorem OwnC.ld {N : Ow} {H : Hp} {a : Addr} {d : Dat} (o : OwnC N H a d) : LD H a := by
  rcases o with ⟨xs, ds, e, ha, l⟩ | ⟨xs, ds, e, ha, l⟩
  · exact .inl ⟨xs, ha⟩
  · exact .inr ⟨ntD xs, ha⟩
/-- from (W, H) on to (W', H') -/
structure Gr (W : Ow) (H : Hp) (W' : Ow) (H' : Hp) : Prop where
  st : ∀ b o, ¬ W b → H b = some o → H' b = some o
  th : ∀ b, H b ≠ none → H' b ≠ none
  nw : ∀ b, W' b → W b ∨ H b = none
theorem Gr.refl (W : Ow) (H : Hp) : Gr W H W H := ⟨fun _ _ _ h => h, fun _ h => h, fun _ h => .inl h⟩
theorem th_same {H H' : Hp} (h : Same H H') : ∀ b, H b ≠ none → H' b ≠ none := fun b n z => by
  cases e : H b with
  | none => exact n e
  | some o =>
    rw [h b o e] at z
    cases z
theorem th_upd {H : Hp} {a : Addr} {o : HO} : ∀ b, H b ≠ none → upd H a o b ≠ none := fun b n z => by
  by_cases e : b = a
  · rw [e, upd_same] at z
    cases z
  · rw [upd_ne e] at z
    exact n z
theorem Gr.same {W : Ow} {H H' : Hp} (h : Same H H') : Gr W H W H' := ⟨fun b o _ e => h b o e, th_same h, fun _ h => .inl h⟩
theorem Gr.trans {W W1 W2 : Ow} {H H1 H2 : Hp} (a : Gr W H W1 H1) (b : Gr W1 H1 W2 H2) : Gr W H W2 H2 := by
  refine ⟨fun c o n e => b.st c o (fun w => ?_) (a.st c o n e), fun c w => b.th c (a.th c w), fun c w => ?_⟩
  · rcases a.nw c w with h | h
    · exact n h
    · rw [h] at e; cases e
  · rcases b.nw c w with h | h
    · exact a.nw c h
    · by_cases wc : W c
      · exact .inl wc
      · refine .inr ?_
        cases e : H c with
        | none => rfl
        | some o => rw [a.st c o wc e] at h; cases h
/-- around a def's body: the heap at its entry, what it may write of that, what its results may not hold, the slots whose list or dict is written, the one of these that is a parameter -/
structure Dy where
  H0 : Hp
  P : Ow
  N0 : Ow
  pn : ∀ b, P b → N0 b
  Wb : Ow
  Hb : Hp
  P1 : Ow
  P2 : Ow
structure Sx where
  O : Nat → Bool
  M : Option Nat
  fr : Bool
  M2 : Option Nat
structure Ct extends Dy, Sx
def Nn (C : Ct) (W : Ow) : Ow := fun b => C.N0 b ∨ W b
/-- the written parameter stands where it stood; another written slot's object is new -/
def MOk (C : Ct) (i : Nat) (a : Addr) : Prop := (C.M ≠ some i → C.M2 ≠ some i → C.H0 a = none) ∧ (C.M = some i → C.P1 a) ∧ (C.M2 = some i → C.P2 a)
def SlotOk (C : Ct) (W : Ow) (H : Hp) (i : Nat) (v : V) (d : Dat) : Prop :=
  if C.O i = true then ∃ a, v = .ref a ∧ W a ∧ OwnC (Nn C W) H a d ∧ MOk C i a else Fz (Nn C W) H v d
structure Rep (C : Ct) (W : Ow) (H : Hp) (σ : L2.St) (E : DEnv) : Prop where
  out : ∀ b o, ¬ C.P b → C.H0 b = some o → H b = some o
  w : ∀ b, W b → C.P b ∨ C.H0 b = none
  ld : ∀ b, Nn C W b → LD H b
  slot : ∀ i d, E[i]? = some (some d) → ∃ v, σ[i]? = some (some v) ∧ SlotOk C W H i v d
  inj : ∀ i j d e v, C.O i = true → C.O j = true → i ≠ j → E[i]? = some (some d) → E[j]? = some (some e) → σ[i]? = some (some v) → σ[j]? ≠ some (some v)
  len : σ.length = E.length
  gb : Gr C.Wb C.Hb W H
theorem ld_tup {H : Hp} {b : Addr} {xs : List V} (l : LD H b) (e : H b = some (.tup xs)) : False := by
  rcases l with ⟨ys, h⟩ | ⟨ys, h⟩
  · rw [e] at h; cases h
  · rw [e] at h; exact ys.2 _ (Option.some.inj h).symm
theorem ld_some {H : Hp} {b : Addr} (l : LD H b) : H b ≠ none := by
  rcases l with ⟨ys, h⟩ | ⟨ys, h⟩ <;> (rw [h]; intro z; cases z)
theorem Gr.kp {C : Ct} {W W' : Ow} {H H' : Hp} (g : Gr W H W' H') (ld : ∀ b, Nn C W b → LD H b) : Kp (Nn C W) (Nn C W') H H' := .ex fun b o e h => by
  have nw : ¬ W b := by
    rcases h with ⟨xs, rfl⟩ | h
    · exact fun w => ld_tup (ld b (.inr w)) e
    · exact fun w => h (.inr w)
  refine ⟨g.st b o nw e, fun n n' => ?_⟩
  rcases n' with n' | n'
  · exact n (.inl n')
  · rcases g.nw b n' with w | w
    · exact n (.inr w)
    · rw [w] at e; cases e
theorem Fz.gr {C : Ct} {W W' : Ow} {H H' : Hp} {v : V} {d : Dat} {σ : L2.St} {E : DEnv} (f : Fz (Nn C W) H v d) (R : Rep C W H σ E) (g : Gr W H W' H') : Fz (Nn C W') H' v d := f.keep (g.kp R.ld)
theorem FzL.gr {C : Ct} {W W' : Ow} {H H' : Hp} {v : List V} {d : List Dat} {σ : L2.St} {E : DEnv} (f : FzL (Nn C W) H v d) (R : Rep C W H σ E) (g : Gr W H W' H') : FzL (Nn C W') H' v d := f.keep (g.kp R.ld)
/-- nothing of what was tracked has changed -/
theorem Rep.same {C : Ct} {W : Ow} {H H' : Hp} {σ : L2.St} {E : DEnv} (R : Rep C W H σ E) (s : Same H H') : Rep C W H' σ E := by
  refine ⟨fun b o p e => s b o (R.out b o p e), R.w, fun b n => ?_, fun i d e => ?_, R.inj, R.len, R.gb.trans (Gr.same s)⟩
  · rcases R.ld b n with ⟨xs, h⟩ | ⟨xs, h⟩
    · exact .inl ⟨xs, s _ _ h⟩
    · exact .inr ⟨xs, s _ _ h⟩
  · obtain ⟨v, h1, h2⟩ := R.slot i d e
    refine ⟨v, h1, ?_⟩
    unfold SlotOk at *
    split
    · next h =>
      rw [if_pos h] at h2
      obtain ⟨a, rfl, wa, oc, m⟩ := h2
      refine ⟨a, rfl, wa, ?_, m⟩
      rcases oc with ⟨xs, ds, e, ha, l⟩ | ⟨xs, ds, e, ha, l⟩
      · exact .inl ⟨xs, ds, e, s _ _ ha, l.keep (Kp.same s)⟩
      · exact .inr ⟨xs, ds, e, s _ _ ha, l.keep (Kp.same s)⟩
    · next h =>
      rw [if_neg h] at h2
      exact h2.keep (Kp.same s)
/-- a slot's data forgotten -/
theorem Rep.forget {C : Ct} {W : Ow} {H : Hp} {σ : L2.St} {E : DEnv} (R : Rep C W H σ E) (i : Nat) : Rep C W H σ (E.set i none) := by
  have key : ∀ {j : Nat} {d : Dat}, (E.set i none)[j]? = some (some d) → E[j]? = some (some d) := fun {j d} e => by
    rw [List.getElem?_set] at e
    split at e
    · split at e <;> cases e
    · exact e
  exact ⟨R.out, R.w, R.ld, fun j d e => R.slot j d (key e), fun i j d e v oi oj n h1 h2 => R.inj i j d e v oi oj n (key h1) (key h2), by rw [List.length_set]; exact R.len, R.gb⟩
/-- a slot that is not written takes a value -/
theorem Rep.set {C : Ct} {W : Ow} {H : Hp} {σ : L2.St} {E : DEnv} (R : Rep C W H σ E) {i : Nat} {v : V} {d : Dat} (hO : C.O i = false) (f : Fz (Nn C W) H v d) : Rep C W H (σ.set i (some v)) (E.set i (some d)) := by
  have hO' : ¬ C.O i = true := by rw [hO]; exact Bool.false_ne_true
  have key : ∀ {j : Nat} {e : Dat}, j ≠ i → (E.set i (some d))[j]? = some (some e) → E[j]? = some (some e) ∧ ∀ x : Option V, (σ.set i (some v))[j]? = σ[j]? := fun {j e} n h => by
    rw [List.getElem?_set_ne (fun z => n z.symm)] at h
    exact ⟨h, fun _ => List.getElem?_set_ne (fun z => n z.symm)⟩
  refine ⟨R.out, R.w, R.ld, fun j e h => ?_, fun a b d1 d2 u oa ob n h1 h2 h3 => ?_, by rw [List.length_set, List.length_set]; exact R.len, R.gb⟩
  · by_cases q : j = i
    · subst q
      have hl : j < E.length := by
        rw [← List.length_set (as := E) (i := j) (a := some d)]
        exact (List.getElem?_eq_some_iff.mp h).1
      rw [List.getElem?_set_self hl] at h
      cases h
      refine ⟨v, List.getElem?_set_self (by rw [R.len]; exact hl), ?_⟩
      unfold SlotOk
      rw [if_neg hO']
      exact f
    · obtain ⟨k1, k2⟩ := key q h
      obtain ⟨u, h1, h2⟩ := R.slot j e k1
      exact ⟨u, (k2 none).trans h1, h2⟩
  · have na : a ≠ i := fun z => hO' (z ▸ oa)
    have nb : b ≠ i := fun z => hO' (z ▸ ob)
    obtain ⟨k1, k2⟩ := key na h1
    obtain ⟨k3, k4⟩ := key nb h2
    rw [k2 none] at h3
    rw [k4 none]
    exact R.inj a b d1 d2 u oa ob n k1 k3 h3
/-- the addresses and one more -/
def And1 (W : Ow) (p : Addr) : Ow := fun b => W b ∨ b = p
/-- a written slot takes a new list -/
theorem Rep.setO {C : Ct} {W : Ow} {H : Hp} {σ : L2.St} {E : DEnv} {p : Addr} (R : Rep C (And1 W p) H σ E) {i : Nat} {d : Dat} (hO : C.O i = true) (hM : C.M ≠ some i ∧ C.M2 ≠ some i) (o : OwnC (Nn C (And1 W p)) H p d) (h0 : C.H0 p = none) (av : ∀ j e, C.O j = true → E[j]? = some (some e) → σ[j]? ≠ some (some (.ref p))) : Rep C (And1 W p) H (σ.set i (some (.ref p))) (E.set i (some d)) := by
  have key : ∀ {j : Nat} {e : Dat}, j ≠ i → (E.set i (some d))[j]? = some (some e) → E[j]? = some (some e) ∧ ∀ x : Option V, (σ.set i (some (.ref p)))[j]? = σ[j]? := fun {j e} n h => by
    rw [List.getElem?_set_ne (fun z => n z.symm)] at h
    exact ⟨h, fun _ => List.getElem?_set_ne (fun z => n z.symm)⟩
  have self : ∀ {e : Dat}, (E.set i (some d))[i]? = some (some e) → e = d ∧ (σ.set i (some (.ref p)))[i]? = some (some (V.ref p)) := fun {e} h => by
    have hl : i < E.length := by
      rw [← List.length_set (as := E) (i := i) (a := some d)]
      exact (List.getElem?_eq_some_iff.mp h).1
    rw [List.getElem?_set_self hl] at h
    cases h
    exact ⟨rfl, List.getElem?_set_self (by rw [R.len]; exact hl)⟩
  refine ⟨R.out, R.w, R.ld, fun j e h => ?_, fun a b d1 d2 u oa ob n h1 h2 h3 => ?_, by rw [List.length_set, List.length_set]; exact R.len, R.gb⟩
  · by_cases q : j = i
    · subst q
      obtain ⟨rfl, h1⟩ := self h
      refine ⟨_, h1, ?_⟩
      unfold SlotOk
      rw [if_pos hO]
      exact ⟨p, rfl, .inr rfl, o, fun _ _ => h0, fun e => absurd e hM.1, fun e => absurd e hM.2⟩
    · obtain ⟨k1, k2⟩ := key q h
      obtain ⟨u, h1, h2⟩ := R.slot j e k1
      exact ⟨u, (k2 none).trans h1, h2⟩
  · by_cases qa : a = i
    · subst qa
      obtain ⟨_, k⟩ := self h1
      rw [k] at h3
      cases h3
      obtain ⟨k3, k4⟩ := key (fun z => n z.symm) h2
      rw [k4 none]
      exact av b _ ob k3
    · obtain ⟨k1, k2⟩ := key qa h1
      rw [k2 none] at h3
      by_cases qb : b = i
      · subst qb
        obtain ⟨_, k⟩ := self h2
        rw [k]
        intro z
        cases z
        exact av a _ oa k1 h3
      · obtain ⟨k3, k4⟩ := key qb h2
        rw [k4 none]
        exact R.inj a b d1 d2 u oa ob n k1 k3 h3
/-- where a written slot's list stands -/
theorem Rep.own {C : Ct} {W : Ow} {H : Hp} {σ : L2.St} {E : DEnv} (R : Rep C W H σ E) {i : Nat} {d : Dat} (hO : C.O i = true) (h : E[i]? = some (some d)) : ∃ a, σ[i]? = some (some (.ref a)) ∧ W a ∧ OwnC (Nn C W) H a d ∧ MOk C i a := by
  obtain ⟨v, h1, h2⟩ := R.slot i d h
  unfold SlotOk at h2
  rw [if_pos hO] at h2
  obtain ⟨a, rfl, r⟩ := h2
  exact ⟨a, h1, r⟩
theorem Rep.get {C : Ct} {W : Ow} {H : Hp} {σ : L2.St} {E : DEnv} (R : Rep C W H σ E) {i : Nat} {d : Dat} (hO : C.O i = false) (h : E[i]? = some (some d)) : ∃ v, σ[i]? = some (some v) ∧ Fz (Nn C W) H v d := by
  obtain ⟨v, h1, h2⟩ := R.slot i d h
  unfold SlotOk at h2
  rw [if_neg (by rw [hO]; exact Bool.false_ne_true)] at h2
  exact ⟨v, h1, h2⟩
/-- the object at a written slot's address is written -/
theorem Rep.put {C : Ct} {W : Ow} {H H' : Hp} {σ : L2.St} {E : DEnv} (R : Rep C W H σ E) {i : Nat} {d d' : Dat} {a : Addr} (hO : C.O i = true) (h : E[i]? = some (some d)) (ha : σ[i]? = some (some (.ref a))) (wa : W a) (m : MOk C i a)
    (k : ∀ b, b ≠ a → ∀ o, H b = some o → H' b = some o) (o : OwnC (Nn C W) H' a d') : Rep C W H' σ (E.set i (some d')) ∧ Gr W H W H' := by
  have g : Gr W H W H' := ⟨fun b o n e => k b (fun z => n (z ▸ wa)) o e, fun b n z => (by
    by_cases q : b = a
    · rw [q] at z
      exact ld_some o.ld z
    · cases e : H b with
      | none => exact n e
      | some x =>
        rw [k b q x e] at z
        cases z), fun _ h => .inl h⟩
  refine ⟨⟨fun b x p e => ?_, R.w, fun b n => ?_, fun j e hj => ?_, fun x y d1 d2 u ox oy n h1 h2 h3 => ?_, by rw [List.length_set]; exact R.len, R.gb.trans g⟩, g⟩
  · by_cases q : b = a
    · subst q
      rcases R.w b wa with z | z
      · exact absurd z p
      · rw [z] at e; cases e
    · exact k b q x (R.out b x p e)
  · by_cases q : b = a
    · subst q
      exact o.ld
    · rcases R.ld b n with ⟨xs, z⟩ | ⟨xs, z⟩
      · exact .inl ⟨xs, k b q _ z⟩
      · exact .inr ⟨xs, k b q _ z⟩
  · by_cases q : j = i
    · subst q
      have hl : j < E.length := (List.getElem?_eq_some_iff.mp h).1
      rw [List.getElem?_set_self hl] at hj
      cases hj
      refine ⟨.ref a, ha, ?_⟩
      unfold SlotOk
      rw [if_pos hO]
      exact ⟨a, rfl, wa, o, m⟩
    · rw [List.getElem?_set_ne (fun z => q z.symm)] at hj
      obtain ⟨v, h1, h2⟩ := R.slot j e hj
      refine ⟨v, h1, ?_⟩
      unfold SlotOk at *
      split
      · next hj' =>
        rw [if_pos hj'] at h2
        obtain ⟨c, rfl, wc, oc, mc⟩ := h2
        have nca : c ≠ a := fun z => by
          subst z
          exact R.inj j i _ _ _ hj' hO q hj h h1 ha
        refine ⟨c, rfl, wc, ?_, mc⟩
        rcases oc with ⟨xs, ds, e, ha, l⟩ | ⟨xs, ds, e, ha, l⟩
        · exact .inl ⟨xs, ds, e, k c nca _ ha, l.gr R g⟩
        · exact .inr ⟨xs, ds, e, k c nca _ ha, l.keep (g.kp R.ld)⟩
      · next hj' =>
        rw [if_neg hj'] at h2
        exact h2.gr R g
  · have key : ∀ {j : Nat} {e : Dat}, (E.set i (some d'))[j]? = some (some e) → ∃ e', E[j]? = some (some e') := fun {j e} h' => by
      by_cases q : j = i
      · subst q
        exact ⟨d, h⟩
      · rw [List.getElem?_set_ne (fun z => q z.symm)] at h'
        exact ⟨e, h'⟩
    obtain ⟨e1, k1⟩ := key h1
    obtain ⟨e2, k2⟩ := key h2
    exact R.inj x y e1 e2 u ox oy n k1 k2 h3
/-! ### new objects -/
theorem Rep.free0 {C : Ct} {W : Ow} {H : Hp} {σ : L2.St} {E : DEnv} (R : Rep C W H σ E) {p : Addr} (h : H p = none) : C.H0 p = none ∧ ¬ Nn C W p := by
  have n : ¬ Nn C W p := fun n => ld_some (R.ld p n) h
  refine ⟨?_, n⟩
  cases e : C.H0 p with
  | none => rfl
  | some o =>
    rw [R.out p o (fun z => n (.inl (C.pn p z))) e] at h
    cases h
theorem gr_and1 {W : Ow} {H H' : Hp} {p : Addr} (s : Same H H') (h : H p = none) : Gr W H (And1 W p) H' := ⟨fun b o _ e => s b o e, th_same s, fun b w => by
  rcases w with w | rfl
  · exact .inl w
  · exact .inr h⟩
/-- what is not there now was not there at the start -/
theorem Rep.freeb {C : Ct} {W : Ow} {H : Hp} {σ : L2.St} {E : DEnv} (R : Rep C W H σ E) {p : Addr} (h : H p = none) : C.Hb p = none := by
  cases e : C.Hb p with
  | none => rfl
  | some o => exact absurd h (R.gb.th p (by rw [e]; intro z; cases z))
theorem kp_new {C : Ct} {W : Ow} {H H' : Hp} {p : Addr} (s : Same H H') (h : H p = none) : Kp (Nn C W) (Nn C (And1 W p)) H H' := .ex fun b o e _ => ⟨s b o e, fun n n' => by
  rcases n' with n' | n' | rfl
  · exact n (.inl n')
  · exact n (.inr n')
  · rw [h] at e; cases e⟩
/-- what stands anew at p may be written -/
theorem Rep.grow {C : Ct} {W : Ow} {H H' : Hp} {σ : L2.St} {E : DEnv} {p : Addr} (R : Rep C W H σ E) (s : Same H H') (h : H p = none) (l : LD H' p) : Rep C (And1 W p) H' σ E ∧ ∀ j e, C.O j = true → E[j]? = some (some e) → σ[j]? ≠ some (some (.ref p)) := by
  have f := R.free0 h
  have R' := R.same s
  refine ⟨⟨R'.out, fun b w => ?_, fun b n => ?_, fun i d e => ?_, R.inj, R.len, R.gb.trans (gr_and1 s h)⟩, fun j e oj he z => ?_⟩
  · rcases w with w | rfl
    · exact R.w b w
    · exact .inr f.1
  · rcases n with n | n | rfl
    · exact R'.ld b (.inl n)
    · exact R'.ld b (.inr n)
    · exact l
  · obtain ⟨v, h1, h2⟩ := R.slot i d e
    refine ⟨v, h1, ?_⟩
    unfold SlotOk at *
    split
    · next hh =>
      rw [if_pos hh] at h2
      obtain ⟨a, rfl, wa, oc, m⟩ := h2
      refine ⟨a, rfl, .inl wa, ?_, m⟩
      rcases oc with ⟨xs, ds, e, ha, l⟩ | ⟨xs, ds, e, ha, l⟩
      · exact .inl ⟨xs, ds, e, s _ _ ha, l.keep (kp_new s h)⟩
      · exact .inr ⟨xs, ds, e, s _ _ ha, l.keep (kp_new s h)⟩
    · next hh =>
      rw [if_neg hh] at h2
      exact h2.keep (kp_new s h)
  · obtain ⟨a, h1, wa, _⟩ := R.own oj he
    rw [z] at h1
    cases h1
    exact f.2 (.inr wa)
theorem Rep.shrink {C : Ct} {W : Ow} {H : Hp} {σ : L2.St} {E : DEnv} {p : Addr} (gb : Gr C.Wb C.Hb W H) (R : Rep C (And1 W p) H σ E) (av : ∀ j e, C.O j = true → E[j]? = some (some e) → σ[j]? ≠ some (some (.ref p))) : Rep C W H σ E := by
  have sub : ∀ b, Nn C W b → Nn C (And1 W p) b := fun b n => by
    rcases n with n | n
    · exact .inl n
    · exact .inr (.inl n)
  refine ⟨R.out, fun b w => R.w b (.inl w), fun b n => R.ld b (sub b n), fun i d e => ?_, R.inj, R.len, gb⟩
  obtain ⟨v, h1, h2⟩ := R.slot i d e
  refine ⟨v, h1, ?_⟩
  unfold SlotOk at *
  split
  · next hh =>
    rw [if_pos hh] at h2
    obtain ⟨a, rfl, wa, oc, m⟩ := h2
    have wa' : W a := by
      rcases wa with w | rfl
      · exact w
      · exact absurd h1 (av i d hh e)
    exact ⟨a, rfl, wa', oc.keep (Kp.sub sub) rfl, m⟩
  · next hh =>
    rw [if_neg hh] at h2
    exact h2.keep (Kp.sub sub)
end Dl
namespace Dl
open PySem PySem.Spec PyProof.Rows L2 Ss
/-! ### readings of expressions over data -/
abbrev DE := DEnv → (Dat → DEnv → Prop) → Prop
abbrev DT := DEnv → (Bool → DEnv → Prop) → Prop
abbrev DA := DEnv → (List Dat → DEnv → Prop) → Prop
abbrev DO := DEnv → (Option Int → DEnv → Prop) → Prop
def RfE (C : Ct) (te : TE) (de : DE) : Prop := ∀ (W : Ow) (H : Hp) (σ : L2.St) (E : DEnv) (Q : VK) (R : Dat → DEnv → Prop), Rep C W H σ E → de E R →
  (∀ v d H' E', Rep C W H' σ E' → Gr W H W H' → Fz (Nn C W) H' v d → R d E' → Q v H') → te σ H Q
/-- a new list or dict -/
def RfF (C : Ct) (te : TE) (de : DE) : Prop := ∀ (W : Ow) (H : Hp) (σ : L2.St) (E : DEnv) (Q : VK) (R : Dat → DEnv → Prop), Rep C W H σ E → de E R →
  (∀ p d H' E', Rep C (And1 W p) H' σ E' → Gr W H W H' → H p = none → OwnC (Nn C (And1 W p)) H' p d → (∀ j e, C.O j = true → E'[j]? = some (some e) → σ[j]? ≠ some (some (.ref p))) → R d E' → Q (.ref p) H') → te σ H Q
def RfT (C : Ct) (tt : TT) (dt : DT) : Prop := ∀ (W : Ow) (H : Hp) (σ : L2.St) (E : DEnv) (Q : Bool → Hp → Prop) (R : Bool → DEnv → Prop), Rep C W H σ E → dt E R →
  (∀ b H' E', Rep C W H' σ E' → Gr W H W H' → R b E' → Q b H') → tt σ H Q
def RfA (C : Ct) (ta : TA) (da : DA) : Prop := ∀ (W : Ow) (H : Hp) (σ : L2.St) (E : DEnv) (Q : List V → Hp → Prop) (R : List Dat → DEnv → Prop), Rep C W H σ E → da E R →
  (∀ vs ds H' E', Rep C W H' σ E' → Gr W H W H' → FzL (Nn C W) H' vs ds → R ds E' → Q vs H') → ta σ H Q
def RfP (C : Ct) (tp : TO) (dp : DO) : Prop := ∀ (W : Ow) (H : Hp) (σ : L2.St) (E : DEnv) (Q : Option Int → Hp → Prop) (R : Option Int → DEnv → Prop), Rep C W H σ E → dp E R →
  (∀ o H' E', Rep C W H' σ E' → Gr W H W H' → R o E' → Q o H') → tp σ H Q
/-- a value; its own list may be written -/
def Ft (N : Ow) (H : Hp) (v : V) (d : Dat) : Prop := Fz N H v d ∨ ∃ a, v = .ref a ∧ OwnC N H a d
def RfO (r : R2) (o : Dat → Dat → (Dat → Prop) → Prop) : Prop := ∀ (N : Ow) (H : Hp) (x y : V) (a b : Dat) (Q : VK) (R : Dat → Prop), Ft N H x a → Ft N H y b → o a b R → (∀ v d H', Same H H' → Fz N H' v d → R d → Q v H') → r x y H Q
def RfU (r : V → Hp → VK → Prop) (o : Dat → (Dat → Prop) → Prop) : Prop := ∀ (N : Ow) (H : Hp) (x : V) (a : Dat) (Q : VK) (R : Dat → Prop), Ft N H x a → o a R → (∀ v d H', Same H H' → Fz N H' v d → R d → Q v H') → r x H Q
def RfB (r : List V → Hp → VK → Prop) (o : List Dat → (Dat → Prop) → Prop) : Prop := ∀ (N : Ow) (H : Hp) (xs : List V) (ds : List Dat) (Q : VK) (R : Dat → Prop), Paired (Ft N H) xs ds → o ds R → (∀ v d H', Same H H' → Fz N H' v d → R d → Q v H') → r xs H Q
def RfS1 (r : V → Option Int → Option Int → Hp → VK → Prop) (o : Dat → Option Int → Option Int → (Dat → Prop) → Prop) : Prop := ∀ (N : Ow) (H : Hp) (x : V) (a : Dat) (lo hi : Option Int) (Q : VK) (R : Dat → Prop), Ft N H x a → o a lo hi R → (∀ v d H', Same H H' → Fz N H' v d → R d → Q v H') → r x lo hi H Q
/-- .. with a new list for an answer -/
abbrev NewL (N : Ow) (H : Hp) (Q : VK) (R : Dat → Prop) : Prop := ∀ p xs ds H', Same H H' → H p = none → H' p = some (.lst xs) → FzL N H xs ds → R (.list ds) → Q (.ref p) H'
def RfOF (r : R2) (o : Dat → Dat → (Dat → Prop) → Prop) : Prop := ∀ (N : Ow) (H : Hp) (x y : V) (a b : Dat) (Q : VK) (R : Dat → Prop), Ft N H x a → Ft N H y b → o a b R → NewL N H Q R → r x y H Q
def RfBF (r : List V → Hp → VK → Prop) (o : List Dat → (Dat → Prop) → Prop) : Prop := ∀ (N : Ow) (H : Hp) (xs : List V) (ds : List Dat) (Q : VK) (R : Dat → Prop), Paired (Ft N H) xs ds → o ds R → NewL N H Q R → r xs H Q
def RfSF (r : V → Option Int → Option Int → Hp → VK → Prop) (o : Dat → Option Int → Option Int → (Dat → Prop) → Prop) : Prop := ∀ (N : Ow) (H : Hp) (x : V) (a : Dat) (lo hi : Option Int) (Q : VK) (R : Dat → Prop), Ft N H x a → o a lo hi R → NewL N H Q R → r x lo hi H Q
section
variable {N : Ow} {H : Hp} {v : V} {C : Ct}
theorem Ft.int {i : Int} (h : Ft N H v (.int i)) : v = .int i := by
  rcases h with h | ⟨a, rfl, ⟨_, _, e, _⟩ | ⟨_, _, e, _⟩⟩
  · cases h; rfl
  · cases e
  · cases e
theorem Ft.str {i : Str} (h : Ft N H v (.str i)) : v = .str i := by
  rcases h with h | ⟨a, rfl, ⟨_, _, e, _⟩ | ⟨_, _, e, _⟩⟩
  · cases h; rfl
  · cases e
  · cases e
theorem Ft.bool {i : Bool} (h : Ft N H v (.bool i)) : v = .bl i := by
  rcases h with h | ⟨a, rfl, ⟨_, _, e, _⟩ | ⟨_, _, e, _⟩⟩
  · cases h; rfl
  · cases e
  · cases e
theorem Ft.none (h : Ft N H v .none) : v = .non := by
  rcases h with h | ⟨a, rfl, ⟨_, _, e, _⟩ | ⟨_, _, e, _⟩⟩
  · cases h; rfl
  · cases e
  · cases e
theorem Ft.tup {ds : List Dat} (h : Ft N H v (.tuple ds)) : ∃ a xs, v = .ref a ∧ H a = some (.tup xs) ∧ FzL N H xs ds := by
  rcases h with h | ⟨a, rfl, ⟨_, _, e, _⟩ | ⟨_, _, e, _⟩⟩
  · cases h with
    | tup e l => exact ⟨_, _, rfl, e, l⟩
  · cases e
  · cases e
theorem Ft.lst {ds : List Dat} (h : Ft N H v (.list ds)) : ∃ a xs, v = .ref a ∧ H a = some (.lst xs) ∧ FzL N H xs ds := by
  rcases h with h | ⟨a, rfl, ⟨_, _, e, ha, l⟩ | ⟨_, _, e, _⟩⟩
  · cases h with
    | lst e n l => exact ⟨_, _, rfl, e, l⟩
  · cases e
    exact ⟨a, _, rfl, ha, l⟩
  · cases e
theorem Ft.dic {m : List (Key × Dat)} (h : Ft N H v (dicD m)) : ∃ a kvs, v = .ref a ∧ Rd H a (.dK kvs) ∧ FzK N H kvs m := by
  rcases h with h | ⟨a, rfl, ⟨_, _, e, ha, l⟩ | ⟨_, _, e, ha, l⟩⟩
  · generalize e : dicD m = d at h
    cases h with
    | dic ea n l =>
      have := dicD_inj e
      subst this
      exact ⟨_, _, rfl, ea, l⟩
    | rng ea n => exact (rng_dic e).elim
    | unk => exact (unk_dic e).elim
    | obj => exact (ref_dic e).elim
    | _ => cases e
  · cases e
  · have := dicD_inj e
    subst this
    exact ⟨a, _, rfl, .inl ha, l⟩
theorem Ft.keep {N' : Ow} {H' : Hp} {d : Dat} (k : Kp N N' H H') (s : Same H H') (f : Ft N H v d) : Ft N' H' v d := by
  rcases f with f | ⟨a, e, o⟩
  · exact .inl (f.keep k)
  · refine .inr ⟨a, e, ?_⟩
    rcases o with ⟨xs, ds, e, ha, l⟩ | ⟨xs, ds, e, ha, l⟩
    · exact .inl ⟨xs, ds, e, s _ _ ha, l.keep k⟩
    · exact .inr ⟨xs, ds, e, s _ _ ha, l.keep k⟩
theorem ft_all : ∀ {vs : List V} {ds : List Dat}, FzL N H vs ds → Paired (Ft N H) vs ds
  | _, _, .nil => .nil
  | _, _, .cons a l => .cons (.inl a) (ft_all l)
end
section
variable {C : Ct}
/-! ### the rules -/
def dVar (i : Nat) : DE := fun E R => ∃ d, E[i]? = some (some d) ∧ R d E
theorem rf_var {i : Nat} (hO : C.O i = false) : RfE C (tVar i) (dVar i) := fun W H σ E Q R Re ⟨d, h, r⟩ k => by
  obtain ⟨v, h1, h2⟩ := Re.get hO h
  exact ⟨v, h1, k v d H E Re (Gr.refl W H) h2 r⟩
def dC (d : Dat) : DE := fun E R => R d E
theorem rf_int {i : Int} : RfE C (tC (.int i)) (dC (.int i)) := fun W H σ E Q R Re r k => k _ _ H E Re (Gr.refl W H) (.int i) r
theorem rf_str {i : Str} : RfE C (tC (.str i)) (dC (.str i)) := fun W H σ E Q R Re r k => k _ _ H E Re (Gr.refl W H) (.str i) r
theorem rf_bl {i : Bool} : RfE C (tC (.bl i)) (dC (.bool i)) := fun W H σ E Q R Re r k => k _ _ H E Re (Gr.refl W H) (.bl i) r
theorem rf_non : RfE C (tC .non) (dC .none) := fun W H σ E Q R Re r k => k _ _ H E Re (Gr.refl W H) .non r
/-- a new list used as a value -/
theorem RfF.e {te : TE} {de : DE} (f : RfF C te de) : RfE C te de := fun W H σ E Q R Re r k => f W H σ E Q R Re r fun p d H' E' R' g hp o av rr => by
  have R2 := R'.shrink (Re.gb.trans g) av
  have n := (Re.free0 hp).2
  have sub : ∀ b, Nn C W b → Nn C (And1 W p) b := fun b n => by
    rcases n with n | n
    · exact .inl n
    · exact .inr (.inl n)
  refine k (.ref p) d H' E' R2 g ?_ rr
  rcases o with ⟨xs, ds, rfl, ha, l⟩ | ⟨xs, ds, rfl, ha, l⟩
  · exact .lst ha n (l.keep (Kp.sub sub))
  · exact .dic (.inl ha) n (l.keep (Kp.sub sub))
/-- the answer of an operation that makes a new list -/
theorem rf_new {W : Ow} {H H1 : Hp} {σ : L2.St} {E E1 : DEnv} {Q : VK} {R : Dat → DEnv → Prop} (R0 : Rep C W H σ E) (R1 : Rep C W H1 σ E1) (g : Gr W H W H1)
    (k : ∀ p d H' E', Rep C (And1 W p) H' σ E' → Gr W H W H' → H p = none → OwnC (Nn C (And1 W p)) H' p d → (∀ j e, C.O j = true → E'[j]? = some (some e) → σ[j]? ≠ some (some (.ref p))) → R d E' → Q (.ref p) H') : NewL (Nn C W) H1 Q (fun d => R d E1) := fun p xs ds H' s hp hx l r => by
  obtain ⟨R2, av⟩ := R1.grow s hp (.inl ⟨xs, hx⟩)
  have h0 : H p = none := by
    cases e : H p with
    | none => rfl
    | some o =>
      by_cases w : W p
      · exact absurd hp (ld_some (R1.ld p (.inr w)))
      · rw [g.st p o w e] at hp; cases hp
  exact k p (.list ds) H' E1 R2 (g.trans (Gr.same s)) h0 (.inl ⟨xs, ds, rfl, hx, l.keep (kp_new s hp)⟩) av r
def dOp (o : Dat → Dat → (Dat → Prop) → Prop) (da db : DE) : DE := fun E R => da E fun x E1 => db E1 fun y E2 => o x y fun z => R z E2
theorem rf_op {r : R2} {o : Dat → Dat → (Dat → Prop) → Prop} {ta tb : TE} {da db : DE} (hr : RfO r o) (ha : RfE C ta da) (hb : RfE C tb db) : RfE C (tOp r ta tb) (dOp o da db) := fun W H σ E Q R Re r k =>
  ha W H σ E _ _ Re r fun x dx H1 E1 R1 g1 f1 r1 => hb W H1 σ E1 _ _ R1 r1 fun y dy H2 E2 R2 g2 f2 r2 =>
    hr _ H2 x y dx dy Q _ (.inl (f1.gr R1 g2)) (.inl f2) r2 fun v d H' s f r => k v d H' E2 (R2.same s) ((g1.trans g2).trans (Gr.same s)) f r
theorem rf_opF {r : R2} {o : Dat → Dat → (Dat → Prop) → Prop} {ta tb : TE} {da db : DE} (hr : RfOF r o) (ha : RfE C ta da) (hb : RfE C tb db) : RfF C (tOp r ta tb) (dOp o da db) := fun W H σ E Q R Re r k =>
  ha W H σ E _ _ Re r fun x dx H1 E1 R1 g1 f1 r1 => hb W H1 σ E1 _ _ R1 r1 fun y dy H2 E2 R2 g2 f2 r2 =>
    hr _ H2 x y dx dy Q _ (.inl (f1.gr R1 g2)) (.inl f2) r2 (rf_new Re R2 (g1.trans g2) k)
/-- the left side is a written slot -/
def dOpV (o : Dat → Dat → (Dat → Prop) → Prop) (i : Nat) (db : DE) : DE := fun E R => ∃ x, E[i]? = some (some x) ∧ db E fun y E2 => E2[i]? = some (some x) ∧ o x y fun z => R z E2
theorem Rep.ft {W : Ow} {H : Hp} {σ : L2.St} {E : DEnv} (R : Rep C W H σ E) {i : Nat} {d : Dat} {v : V} (hO : C.O i = true) (h : E[i]? = some (some d)) (hv : σ[i]? = some (some v)) : Ft (Nn C W) H v d := by
  obtain ⟨a, h1, _, o, _⟩ := R.own hO h
  rw [h1] at hv
  cases hv
  exact .inr ⟨a, rfl, o⟩
theorem rf_opV {r : R2} {o : Dat → Dat → (Dat → Prop) → Prop} {i : Nat} {tb : TE} {db : DE} (hO : C.O i = true) (hr : RfO r o) (hb : RfE C tb db) : RfE C (tOp r (tVar i) tb) (dOpV o i db) := fun W H σ E Q R Re ⟨x, hx, r⟩ k => by
  obtain ⟨a, h1, _⟩ := Re.own hO hx
  exact ⟨.ref a, h1, hb W H σ E _ _ Re r fun y dy H2 E2 R2 g2 f2 ⟨hx2, r2⟩ =>
    hr _ H2 (.ref a) y x dy Q _ (R2.ft hO hx2 h1) (.inl f2) r2 fun v d H' s f r => k v d H' E2 (R2.same s) (g2.trans (Gr.same s)) f r⟩
theorem rf_opVF {r : R2} {o : Dat → Dat → (Dat → Prop) → Prop} {i : Nat} {tb : TE} {db : DE} (hO : C.O i = true) (hr : RfOF r o) (hb : RfE C tb db) : RfF C (tOp r (tVar i) tb) (dOpV o i db) := fun W H σ E Q R Re ⟨x, hx, r⟩ k => by
  obtain ⟨a, h1, _⟩ := Re.own hO hx
  exact ⟨.ref a, h1, hb W H σ E _ _ Re r fun y dy H2 E2 R2 g2 f2 ⟨hx2, r2⟩ =>
    hr _ H2 (.ref a) y x dy Q _ (R2.ft hO hx2 h1) (.inl f2) r2 (rf_new Re R2 g2 k)⟩
/-- the right side is a written slot -/
def dOpW (o : Dat → Dat → (Dat → Prop) → Prop) (da : DE) (i : Nat) : DE := fun E R => da E fun x E1 => ∃ y, E1[i]? = some (some y) ∧ o x y fun z => R z E1
theorem rf_opW {r : R2} {o : Dat → Dat → (Dat → Prop) → Prop} {i : Nat} {ta : TE} {da : DE} (hO : C.O i = true) (hr : RfO r o) (ha : RfE C ta da) : RfE C (tOp r ta (tVar i)) (dOpW o da i) := fun W H σ E Q R Re r k =>
  ha W H σ E _ _ Re r fun x dx H1 E1 R1 g1 f1 ⟨y, hy, r1⟩ => by
    obtain ⟨a, h1, _⟩ := R1.own hO hy
    exact ⟨.ref a, h1, hr _ H1 x (.ref a) dx y Q _ (.inl f1) (R1.ft hO hy h1) r1 fun v d H' s f r => k v d H' E1 (R1.same s) (g1.trans (Gr.same s)) f r⟩
def dUn (o : Dat → (Dat → Prop) → Prop) (da : DE) : DE := fun E R => da E fun x E1 => o x fun z => R z E1
theorem rf_un {r : V → Hp → VK → Prop} {o : Dat → (Dat → Prop) → Prop} {ta : TE} {da : DE} (hr : RfU r o) (ha : RfE C ta da) : RfE C (tUn r ta) (dUn o da) := fun W H σ E Q R Re r k =>
  ha W H σ E _ _ Re r fun x dx H1 E1 R1 g1 f1 r1 => hr _ H1 x dx Q _ (.inl f1) r1 fun v d H' s f r => k v d H' E1 (R1.same s) (g1.trans (Gr.same s)) f r
def dNil : DA := fun E R => R [] E
theorem rf_nil : RfA C tNil dNil := fun W H σ E Q R Re r k => k [] [] H E Re (Gr.refl W H) .nil r
def dCons (da : DE) (dr : DA) : DA := fun E R => da E fun x E1 => dr E1 fun xs E2 => R (x :: xs) E2
theorem rf_cons {ta : TE} {tr : TA} {da : DE} {dr : DA} (ha : RfE C ta da) (hr : RfA C tr dr) : RfA C (tCons ta tr) (dCons da dr) := fun W H σ E Q R Re r k =>
  ha W H σ E _ _ Re r fun x dx H1 E1 R1 g1 f1 r1 => hr W H1 σ E1 _ _ R1 r1 fun xs ds H2 E2 R2 g2 f2 r2 => k (x :: xs) (dx :: ds) H2 E2 R2 (g1.trans g2) (.cons (f1.gr R1 g2) f2) r2
def dCB (o : List Dat → (Dat → Prop) → Prop) (da : DA) : DE := fun E R => da E fun xs E1 => o xs fun z => R z E1
theorem rf_cb {r : List V → Hp → VK → Prop} {o : List Dat → (Dat → Prop) → Prop} {ta : TA} {da : DA} (hr : RfB r o) (ha : RfA C ta da) : RfE C (tCB r ta) (dCB o da) := fun W H σ E Q R Re r k =>
  ha W H σ E _ _ Re r fun xs ds H1 E1 R1 g1 f1 r1 => hr _ H1 xs ds Q _ (ft_all f1) r1 fun v d H' s f r => k v d H' E1 (R1.same s) (g1.trans (Gr.same s)) f r
theorem rf_cbF {r : List V → Hp → VK → Prop} {o : List Dat → (Dat → Prop) → Prop} {ta : TA} {da : DA} (hr : RfBF r o) (ha : RfA C ta da) : RfF C (tCB r ta) (dCB o da) := fun W H σ E Q R Re r k =>
  ha W H σ E _ _ Re r fun xs ds H1 E1 R1 g1 f1 r1 => hr _ H1 xs ds Q _ (ft_all f1) r1 (rf_new Re R1 g1 k)
/-- a built-in of a written slot alone -/
def dCBV (o : List Dat → (Dat → Prop) → Prop) (i : Nat) : DE := fun E R => ∃ x, E[i]? = some (some x) ∧ o [x] fun z => R z E
theorem rf_cbV {r : List V → Hp → VK → Prop} {o : List Dat → (Dat → Prop) → Prop} {i : Nat} (hO : C.O i = true) (hr : RfB r o) : RfE C (tCB r (tCons (tVar i) tNil)) (dCBV o i) := fun W H σ E Q R Re ⟨x, hx, r⟩ k => by
  obtain ⟨a, h1, _⟩ := Re.own hO hx
  exact ⟨.ref a, h1, hr _ H [.ref a] [x] Q _ (.cons (Re.ft hO hx h1) .nil) r fun v d H' s f r => k v d H' E (Re.same s) (Gr.same s) f r⟩
theorem rf_cbVF {r : List V → Hp → VK → Prop} {o : List Dat → (Dat → Prop) → Prop} {i : Nat} (hO : C.O i = true) (hr : RfBF r o) : RfF C (tCB r (tCons (tVar i) tNil)) (dCBV o i) := fun W H σ E Q R Re ⟨x, hx, r⟩ k => by
  obtain ⟨a, h1, _⟩ := Re.own hO hx
  exact ⟨.ref a, h1, hr _ H [.ref a] [x] Q _ (.cons (Re.ft hO hx h1) .nil) r (rf_new Re Re (Gr.refl W H) k)⟩
def dTup (da : DA) : DE := fun E R => da E fun ds E1 => ds.length ≤ sizeLine ∧ R (.tuple ds) E1
theorem rf_tup {ta : TA} {da : DA} (ha : RfA C ta da) : RfE C (tTup ta) (dTup da) := fun W H σ E Q R Re r k =>
  ha W H σ E _ _ Re r fun xs ds H1 E1 R1 g1 f1 ⟨hl, r1⟩ => ⟨by rw [f1.len]; exact hl, fun p np => by
    have s := same_new (o := .tup xs) np
    exact k (.ref p) (.tuple ds) _ E1 (R1.same s) (g1.trans (Gr.same s)) (.tup upd_same (f1.keep (Kp.same s))) r1⟩
def dLst (da : DA) : DE := fun E R => da E fun ds E1 => ds.length ≤ sizeLine ∧ R (.list ds) E1
theorem rf_lst {ta : TA} {da : DA} (ha : RfA C ta da) : RfF C (tLst ta) (dLst da) := fun W H σ E Q R Re r k =>
  ha W H σ E _ _ Re r fun xs ds H1 E1 R1 g1 f1 ⟨hl, r1⟩ => ⟨by rw [f1.len]; exact hl, fun p np => rf_new (R := R) Re R1 g1 k p xs ds _ (same_new np) np upd_same f1 r1⟩
def dDNew : DE := fun E R => R (dicD []) E
theorem rf_dnew : RfF C tDNewK dDNew := fun W H σ E Q R Re r k => fun p np => by
  have s := same_new (o := .dK []) np
  obtain ⟨R2, av⟩ := Re.grow s np (.inr ⟨ntD [], upd_same⟩)
  exact k p _ _ E R2 (Gr.same s) np (.inr ⟨[], [], rfl, upd_same, .nil⟩) av r
/-! tests -/
def dTest (da : DE) : DT := fun E R => da E fun x E1 => ∃ k, x = .bool k ∧ R k E1
theorem rf_test {ta : TE} {da : DE} (ha : RfE C ta da) : RfT C (tTest ta) (dTest da) := fun W H σ E Q R Re r k =>
  ha W H σ E _ _ Re r fun x dx H1 E1 R1 g1 f1 ⟨b, e, r1⟩ => by
    subst e
    cases f1
    exact ⟨b, rfl, k b H1 E1 R1 g1 r1⟩
theorem rf_B {ta : TE} {da : DE} (ha : RfE C ta da) : RfT C (tB ta) (dTest da) := rf_test ha
def trD : Dat → Bool → Prop
  | .none, k => k = false
  | .bool b, k => k = b
  | .int i, k => k = (i != 0)
  | .str y, k => y.length ≤ sizeLine ∧ k = ((y.length : Int) != 0)
  | .list ds, k => k = !ds.isEmpty
  | .tuple ds, k => k = !ds.isEmpty
  | .dict _, _ => False
theorem emp_of {α β : Type} {xs : List α} {ys : List β} (h : xs.length = ys.length) : xs.isEmpty = ys.isEmpty := by
  cases xs <;> cases ys <;> first | rfl | simp at h
theorem tr_of {K : PySem.W.Frag} {N : Ow} {H : Hp} {v : V} {d : Dat} {k : Bool} (f : Ft N H v d) (h : trD d k) : TruV K v H k := by
  cases d with
  | none => rw [f.none]; exact h
  | bool b => rw [f.bool]; exact h
  | int b => rw [f.int]; exact h
  | str b => rw [f.str]; exact h
  | list ds =>
    obtain ⟨a, xs, rfl, ha, l⟩ := f.lst
    exact .inl ⟨xs, .of ha, by rw [emp_of l.len]; exact h⟩
  | tuple ds =>
    obtain ⟨a, xs, rfl, ha, l⟩ := f.tup
    exact .inr (.inl ⟨xs, .of ha, by rw [emp_of l.len]; exact h⟩)
  | dict ds => exact h.elim
def dTru (da : DE) : DT := fun E R => da E fun x E1 => ∃ k, trD x k ∧ R k E1
theorem rf_tru {K : PySem.W.Frag} {ta : TE} {da : DE} (ha : RfE C ta da) : RfT C (fun σ H Q => ta σ H fun x H' => ∃ k, TruV K x H' k ∧ Q k H') (dTru da) := fun W H σ E Q R Re r k =>
  ha W H σ E _ _ Re r fun x dx H1 E1 R1 g1 f1 ⟨b, e, r1⟩ => ⟨b, tr_of (.inl f1) e, k b H1 E1 R1 g1 r1⟩
def dTruV (i : Nat) : DT := fun E R => ∃ x, E[i]? = some (some x) ∧ ∃ k, trD x k ∧ R k E
theorem rf_truV {K : PySem.W.Frag} {i : Nat} (hO : C.O i = true) : RfT C (fun σ H Q => tVar i σ H fun x H' => ∃ k, TruV K x H' k ∧ Q k H') (dTruV i) := fun W H σ E Q R Re ⟨x, hx, b, e, r⟩ k => by
  obtain ⟨a, h1, _⟩ := Re.own hO hx
  exact ⟨.ref a, h1, b, tr_of (Re.ft hO hx h1) e, k b H E Re (Gr.refl W H) r⟩
def dNot (dt : DT) : DT := fun E R => dt E fun b E1 => R (!b) E1
theorem rf_not {tt : TT} {dt : DT} (h : RfT C tt dt) : RfT C (tNot tt) (dNot dt) := fun W H σ E Q R Re r k => h W H σ E _ _ Re r fun b H1 E1 R1 g1 r1 => k _ H1 E1 R1 g1 r1
def dAnd (dt du : DT) : DT := fun E R => dt E fun b E1 => if b = true then du E1 R else R false E1
theorem rf_and {tt tu : TT} {dt du : DT} (h : RfT C tt dt) (h2 : RfT C tu du) : RfT C (tAnd tt tu) (dAnd dt du) := fun W H σ E Q R Re r k => h W H σ E _ _ Re r fun b H1 E1 R1 g1 r1 => by
  cases b with
  | true => exact h2 W H1 σ E1 _ _ R1 r1 fun b H2 E2 R2 g2 r2 => k b H2 E2 R2 (g1.trans g2) r2
  | false => exact k false H1 E1 R1 g1 r1
def dOr (dt du : DT) : DT := fun E R => dt E fun b E1 => if b = true then R true E1 else du E1 R
theorem rf_or {tt tu : TT} {dt du : DT} (h : RfT C tt dt) (h2 : RfT C tu du) : RfT C (tOr tt tu) (dOr dt du) := fun W H σ E Q R Re r k => h W H σ E _ _ Re r fun b H1 E1 R1 g1 r1 => by
  cases b with
  | false => exact h2 W H1 σ E1 _ _ R1 r1 fun b H2 E2 R2 g2 r2 => k b H2 E2 R2 (g1.trans g2) r2
  | true => exact k true H1 E1 R1 g1 r1
def dAndV (da db : DE) : DE := fun E R => da E fun x E1 => ∃ c, x = .bool c ∧ if c = true then db E1 R else R (.bool false) E1
theorem rf_andV {ta tb : TE} {da db : DE} (ha : RfE C ta da) (hb : RfE C tb db) : RfE C (tAndV ta tb) (dAndV da db) := fun W H σ E Q R Re r k =>
  ha W H σ E _ _ Re r fun x dx H1 E1 R1 g1 f1 ⟨c, e, r1⟩ => by
    subst e
    cases f1
    refine ⟨c, rfl, ?_⟩
    cases c with
    | true => exact hb W H1 σ E1 _ _ R1 r1 fun v d H2 E2 R2 g2 f2 r2 => k v d H2 E2 R2 (g1.trans g2) f2 r2
    | false => exact k _ _ H1 E1 R1 g1 (.bl false) r1
def dOrV (da db : DE) : DE := fun E R => da E fun x E1 => ∃ c, x = .bool c ∧ if c = true then R (.bool true) E1 else db E1 R
theorem rf_orV {ta tb : TE} {da db : DE} (ha : RfE C ta da) (hb : RfE C tb db) : RfE C (tOrV ta tb) (dOrV da db) := fun W H σ E Q R Re r k =>
  ha W H σ E _ _ Re r fun x dx H1 E1 R1 g1 f1 ⟨c, e, r1⟩ => by
    subst e
    cases f1
    refine ⟨c, rfl, ?_⟩
    cases c with
    | false => exact hb W H1 σ E1 _ _ R1 r1 fun v d H2 E2 R2 g2 f2 r2 => k v d H2 E2 R2 (g1.trans g2) f2 r2
    | true => exact k _ _ H1 E1 R1 g1 (.bl true) r1
def dNotV (da : DE) : DE := fun E R => da E fun x E1 => ∃ c, x = .bool c ∧ R (.bool (!c)) E1
theorem rf_notV {ta : TE} {da : DE} (ha : RfE C ta da) : RfE C (tNotV ta) (dNotV da) := fun W H σ E Q R Re r k =>
  ha W H σ E _ _ Re r fun x dx H1 E1 R1 g1 f1 ⟨c, e, r1⟩ => by
    subst e
    cases f1
    exact ⟨c, rfl, k _ _ H1 E1 R1 g1 (.bl _) r1⟩
def dIf (dt : DT) (da db : DE) : DE := fun E R => dt E fun b E1 => if b = true then da E1 R else db E1 R
theorem rf_if {tt : TT} {ta tb : TE} {dt : DT} {da db : DE} (h : RfT C tt dt) (ha : RfE C ta da) (hb : RfE C tb db) : RfE C (tIf tt ta tb) (dIf dt da db) := fun W H σ E Q R Re r k => h W H σ E _ _ Re r fun b H1 E1 R1 g1 r1 => by
  cases b with
  | true => exact ha W H1 σ E1 _ _ R1 r1 fun v d H2 E2 R2 g2 f2 r2 => k v d H2 E2 R2 (g1.trans g2) f2 r2
  | false => exact hb W H1 σ E1 _ _ R1 r1 fun v d H2 E2 R2 g2 f2 r2 => k v d H2 E2 R2 (g1.trans g2) f2 r2
/-! slices -/
def dPart (da : DE) : DO := fun E R => da E fun x E1 => ∃ i, x = .int i ∧ R (some i) E1
theorem rf_part {ta : TE} {da : DE} (ha : RfE C ta da) : RfP C (tPart ta) (dPart da) := fun W H σ E Q R Re r k =>
  ha W H σ E _ _ Re r fun x dx H1 E1 R1 g1 f1 ⟨i, e, r1⟩ => by
    subst e
    cases f1
    exact ⟨i, rfl, k _ H1 E1 R1 g1 r1⟩
def dNoPart : DO := fun E R => R none E
theorem rf_nopart : RfP C tNoPart dNoPart := fun W H σ E Q R Re r k => k _ H E Re (Gr.refl W H) r
def dSl (o : Dat → Option Int → Option Int → (Dat → Prop) → Prop) (da : DE) (dl dh : DO) : DE := fun E R => da E fun x E1 => dl E1 fun l E2 => dh E2 fun u E3 => o x l u fun z => R z E3
theorem rf_sl {r : V → Option Int → Option Int → Hp → VK → Prop} {o : Dat → Option Int → Option Int → (Dat → Prop) → Prop} {ta : TE} {tl th : TO} {da : DE} {dl dh : DO} (hr : RfS1 r o) (ha : RfE C ta da) (hl : RfP C tl dl) (hh : RfP C th dh) : RfE C (tSl r ta tl th) (dSl o da dl dh) := fun W H σ E Q R Re r k =>
  ha W H σ E _ _ Re r fun x dx H1 E1 R1 g1 f1 r1 => hl W H1 σ E1 _ _ R1 r1 fun l H2 E2 R2 g2 r2 => hh W H2 σ E2 _ _ R2 r2 fun u H3 E3 R3 g3 r3 =>
    hr _ H3 x dx l u Q _ (.inl ((f1.gr R1 g2).gr R2 g3)) r3 fun v d H' s f r => k v d H' E3 (R3.same s) (((g1.trans g2).trans g3).trans (Gr.same s)) f r
theorem rf_slF {r : V → Option Int → Option Int → Hp → VK → Prop} {o : Dat → Option Int → Option Int → (Dat → Prop) → Prop} {ta : TE} {tl th : TO} {da : DE} {dl dh : DO} (hr : RfSF r o) (ha : RfE C ta da) (hl : RfP C tl dl) (hh : RfP C th dh) : RfF C (tSl r ta tl th) (dSl o da dl dh) := fun W H σ E Q R Re r k =>
  ha W H σ E _ _ Re r fun x dx H1 E1 R1 g1 f1 r1 => hl W H1 σ E1 _ _ R1 r1 fun l H2 E2 R2 g2 r2 => hh W H2 σ E2 _ _ R2 r2 fun u H3 E3 R3 g3 r3 =>
    hr _ H3 x dx l u Q _ (.inl ((f1.gr R1 g2).gr R2 g3)) r3 (rf_new Re R3 ((g1.trans g2).trans g3) k)
def dSlV (o : Dat → Option Int → Option Int → (Dat → Prop) → Prop) (i : Nat) (dl dh : DO) : DE := fun E R => ∃ x, E[i]? = some (some x) ∧ dl E fun l E2 => dh E2 fun u E3 => E3[i]? = some (some x) ∧ o x l u fun z => R z E3
theorem rf_slVF {r : V → Option Int → Option Int → Hp → VK → Prop} {o : Dat → Option Int → Option Int → (Dat → Prop) → Prop} {i : Nat} {tl th : TO} {dl dh : DO} (hO : C.O i = true) (hr : RfSF r o) (hl : RfP C tl dl) (hh : RfP C th dh) : RfF C (tSl r (tVar i) tl th) (dSlV o i dl dh) := fun W H σ E Q R Re ⟨x, hx, r⟩ k => by
  obtain ⟨a, h1, _⟩ := Re.own hO hx
  exact ⟨.ref a, h1, hl W H σ E _ _ Re r fun l H2 E2 R2 g2 r2 => hh W H2 σ E2 _ _ R2 r2 fun u H3 E3 R3 g3 ⟨hx3, r3⟩ =>
    hr _ H3 (.ref a) x l u Q _ (R3.ft hO hx3 h1) r3 (rf_new Re R3 (g2.trans g3) k)⟩
end
end Dl
namespace Dl
open PySem PySem.Spec PyProof.Rows L2 Ss
/-! ### operations over data -/
section
variable {K : PySem.W.Frag}
def oI (f : Int → Int → Dat) : Dat → Dat → (Dat → Prop) → Prop := fun a b R => ∃ i j, a = .int i ∧ b = .int j ∧ R (f i j)
def oC (c : Int → Int → Prop) (f : Int → Int → Dat) : Dat → Dat → (Dat → Prop) → Prop := fun a b R => ∃ i j, a = .int i ∧ b = .int j ∧ c i j ∧ R (f i j)
theorem rfo_i {f : Int → Int → Int} : RfO (rI0 fun i j => .int (f i j)) (oI fun i j => .int (f i j)) := fun N H x y a b Q R hx hy ⟨i, j, ea, eb, r⟩ k => by
  subst ea; subst eb
  exact ⟨i, j, hx.int, hy.int, k _ _ H (Same.refl H) (.int _) r⟩
theorem rfo_b {f : Int → Int → Bool} : RfO (rI0 fun i j => .bl (f i j)) (oI fun i j => .bool (f i j)) := fun N H x y a b Q R hx hy ⟨i, j, ea, eb, r⟩ k => by
  subst ea; subst eb
  exact ⟨i, j, hx.int, hy.int, k _ _ H (Same.refl H) (.bl _) r⟩
theorem rfo_c {c : Int → Int → Prop} {f : Int → Int → Int} : RfO (rI c fun i j => .int (f i j)) (oC c fun i j => .int (f i j)) := fun N H x y a b Q R hx hy ⟨i, j, ea, eb, hc, r⟩ k => by
  subst ea; subst eb
  exact ⟨i, j, hx.int, hy.int, hc, k _ _ H (Same.refl H) (.int _) r⟩
def oU (f : Int → Dat) : Dat → (Dat → Prop) → Prop := fun a R => ∃ i, a = .int i ∧ R (f i)
theorem rfu_i {f : Int → Int} : RfU (rU fun i => .int (f i)) (oU fun i => .int (f i)) := fun N H x a Q R hx ⟨i, ea, r⟩ k => by
  subst ea
  exact ⟨i, hx.int, k _ _ H (Same.refl H) (.int _) r⟩
/-! == of scalars, of any data -/
def rEqU (K : PySem.W.Frag) : R2 := fun x y H Q => rEq x y H Q ∨ rEqD K x y H Q
def rNeU (K : PySem.W.Frag) : R2 := fun x y H Q => rNe x y H Q ∨ rNeD K x y H Q
theorem op_eqU {X : Cx} (hu : X.A.units + 64 < cLine) : OpR X (compareOp .Eq) (rEqU X.K) := fun pins s σ H x y v u Q I rx ry h => by
  rcases h with h | h
  · exact op_eq pins s σ H x y v u Q I rx ry h
  · exact op_eqD hu pins s σ H x y v u Q I rx ry h
theorem op_neU {X : Cx} (hu : X.A.units + 64 < cLine) : OpR X (compareOp .NotEq) (rNeU X.K) := fun pins s σ H x y v u Q I rx ry h => by
  rcases h with h | h
  · exact op_ne pins s σ H x y v u Q I rx ry h
  · exact op_neD hu pins s σ H x y v u Q I rx ry h
mutual
theorem fz_dp {N : Ow} {H : Hp} : ∀ {v : V} {d : Dat}, Fz N H v d → d.canLay0 = true → Dp K H v d
  | _, _, .non, _ => .non
  | _, _, .bl b, _ => .bl b
  | _, _, .int i, _ => .int i
  | _, _, .str x, _ => .str x
  | _, _, .tup e l, h => .tup (.of e) (fzl_dp l h)
  | _, _, .lst e n l, h => .lst (.of e) (fzl_dp l h)
  | _, _, .dic e n l, h => nomatch h
  | _, _, .rng e n, h => nomatch h
theorem fzl_dp {N : Ow} {H : Hp} : ∀ {v : List V} {d : List Dat}, FzL N H v d → PyData.canLayAll0 d = true → DpAll K H v d
  | _, _, .nil, _ => .nil
  | _, _, .cons a l, h => by
    unfold PyData.canLayAll0 at h
    rw [Bool.and_eq_true] at h
    exact .cons (fz_dp a h.1) (fzl_dp l h.2)
end
theorem ft_dp {N : Ow} {H : Hp} {v : V} {d : Dat} (f : Ft N H v d) (h : SeqAt.shaped d = true) : Dp K H v d := by
  have h0 : d.canLay0 = true := by
    unfold SeqAt.shaped at h
    rw [Bool.and_eq_true] at h
    exact h.1
  rcases f with f | ⟨a, rfl, ⟨xs, ds, rfl, ha, l⟩ | ⟨xs, ds, rfl, ha, l⟩⟩
  · exact fz_dp f h0
  · exact .lst (.of ha) (fzl_dp l h0)
  · exact nomatch h0
def oEq : Dat → Dat → (Dat → Prop) → Prop := fun a b R => (∃ i j, a = .int i ∧ b = .int j ∧ R (.bool (decide (i = j)))) ∨ (∃ i j, a = .str i ∧ b = .str j ∧ R (.bool (decide (i = j)))) ∨ (∃ i j, a = .bool i ∧ b = .bool j ∧ R (.bool (decide (i = j)))) ∨
  (SeqAt.shaped a = true ∧ SeqAt.shaped b = true ∧ R (.bool (PyData.eqv a b)))
def oNe : Dat → Dat → (Dat → Prop) → Prop := fun a b R => (∃ i j, a = .int i ∧ b = .int j ∧ R (.bool (!decide (i = j)))) ∨ (∃ i j, a = .str i ∧ b = .str j ∧ R (.bool (!decide (i = j)))) ∨ (∃ i j, a = .bool i ∧ b = .bool j ∧ R (.bool (!decide (i = j)))) ∨
  (SeqAt.shaped a = true ∧ SeqAt.shaped b = true ∧ R (.bool (!PyData.eqv a b)))
theorem dec_iff {p q : Prop} [Decidable p] [Decidable q] (h : p ↔ q) : decide p = decide q := by
  by_cases x : p
  · rw [decide_eq_true x, decide_eq_true (h.mp x)]
  · rw [decide_eq_false x, decide_eq_false fun z => x (h.mpr z)]
theorem dI (i j : Int) : decide (V.int i = V.int j) = decide (i = j) := dec_iff ⟨V.int.inj, congrArg _⟩
theorem dS (i j : Str) : decide (V.str i = V.str j) = decide (i = j) := dec_iff ⟨V.str.inj, congrArg _⟩
theorem dB (i j : Bool) : decide (V.bl i = V.bl j) = decide (i = j) := dec_iff ⟨V.bl.inj, congrArg _⟩
theorem rfo_eq : RfO (rEqU K) oEq := fun N H x y a b Q R hx hy h k => by
  rcases h with ⟨i, j, ea, eb, r⟩ | ⟨i, j, ea, eb, r⟩ | ⟨i, j, ea, eb, r⟩ | ⟨sa, sb, r⟩
  · subst ea; subst eb
    rw [hx.int, hy.int]
    exact .inl ⟨rfl, by rw [dI]; exact k _ _ H (Same.refl H) (.bl _) r⟩
  · subst ea; subst eb
    rw [hx.str, hy.str]
    exact .inl ⟨rfl, by rw [dS]; exact k _ _ H (Same.refl H) (.bl _) r⟩
  · subst ea; subst eb
    rw [hx.bool, hy.bool]
    exact .inl ⟨rfl, by rw [dB]; exact k _ _ H (Same.refl H) (.bl _) r⟩
  · exact .inr ⟨a, b, ft_dp hx sa, ft_dp hy sb, sa, sb, k _ _ H (Same.refl H) (.bl _) r⟩
theorem rfo_ne : RfO (rNeU K) oNe := fun N H x y a b Q R hx hy h k => by
  rcases h with ⟨i, j, ea, eb, r⟩ | ⟨i, j, ea, eb, r⟩ | ⟨i, j, ea, eb, r⟩ | ⟨sa, sb, r⟩
  · subst ea; subst eb
    rw [hx.int, hy.int]
    exact .inl ⟨rfl, by rw [dI]; exact k _ _ H (Same.refl H) (.bl _) r⟩
  · subst ea; subst eb
    rw [hx.str, hy.str]
    exact .inl ⟨rfl, by rw [dS]; exact k _ _ H (Same.refl H) (.bl _) r⟩
  · subst ea; subst eb
    rw [hx.bool, hy.bool]
    exact .inl ⟨rfl, by rw [dB]; exact k _ _ H (Same.refl H) (.bl _) r⟩
  · exact .inr ⟨a, b, ft_dp hx sa, ft_dp hy sb, sa, sb, k _ _ H (Same.refl H) (.bl _) r⟩
def isNo : Dat → Bool
  | .none => true
  | _ => false
theorem isn {N : Ow} {H : Hp} {v : V} {d : Dat} (f : Ft N H v d) : decide (v = V.non) = isNo d := by
  cases d with
  | none => have := f.none; subst this; rfl
  | bool b => have := f.bool; subst this; rfl
  | int b => have := f.int; subst this; rfl
  | str b => have := f.str; subst this; rfl
  | list ds => obtain ⟨a, xs, rfl, _⟩ := f.lst; rfl
  | tuple ds => obtain ⟨a, xs, rfl, _⟩ := f.tup; rfl
  | dict ds =>
    rcases f with f | ⟨a, rfl, _⟩
    · cases f <;> rfl
    · rfl
def oIsN : Dat → Dat → (Dat → Prop) → Prop := fun a b R => b = .none ∧ R (.bool (isNo a))
theorem rfo_isN : RfO (fun x y H Q => y = .non ∧ Q (.bl (decide (x = .non))) H) oIsN := fun N H x y a b Q R hx hy ⟨eb, r⟩ k => by
  subst eb
  refine ⟨hy.none, ?_⟩
  rw [isn hx]
  exact k _ _ H (Same.refl H) (.bl _) r
def oNotN : Dat → Dat → (Dat → Prop) → Prop := fun a b R => b = .none ∧ R (.bool (!isNo a))
theorem rfo_notN : RfO (fun x y H Q => y = .non ∧ Q (.bl (!decide (x = .non))) H) oNotN := fun N H x y a b Q R hx hy ⟨eb, r⟩ k => by
  subst eb
  refine ⟨hy.none, ?_⟩
  rw [isn hx]
  exact k _ _ H (Same.refl H) (.bl _) r
def oLtS : Dat → Dat → (Dat → Prop) → Prop := fun a b R => ∃ i j, a = .str i ∧ b = .str j ∧ R (.bool (decide (i.cps.toList < j.cps.toList)))
theorem rfo_ltS : RfO (fun x y H Q => ∃ i j, x = .str i ∧ y = .str j ∧ Q (.bl (decide (i.cps.toList < j.cps.toList))) H) oLtS := fun N H x y a b Q R hx hy ⟨i, j, ea, eb, r⟩ k => by
  subst ea; subst eb
  exact ⟨i, j, hx.str, hy.str, k _ _ H (Same.refl H) (.bl _) r⟩
def oCatS : Dat → Dat → (Dat → Prop) → Prop := fun a b R => ∃ i j, a = .str i ∧ b = .str j ∧ i.length + j.length ≤ sizeLine ∧ R (.str (i ++ j))
theorem rfo_catS : RfO (fun x y H Q => ∃ i j, x = .str i ∧ y = .str j ∧ i.length + j.length ≤ sizeLine ∧ Q (.str (i ++ j)) H) oCatS := fun N H x y a b Q R hx hy ⟨i, j, ea, eb, hl, r⟩ k => by
  subst ea; subst eb
  exact ⟨i, j, hx.str, hy.str, hl, k _ _ H (Same.refl H) (.str _) r⟩
def oCatT : Dat → Dat → (Dat → Prop) → Prop := fun a b R => ∃ xs ys, a = .tuple xs ∧ b = .tuple ys ∧ xs.length + ys.length ≤ sizeLine ∧ R (.tuple (xs ++ ys))
theorem rfo_catT : RfO (rCatA K) oCatT := fun N H x y a b Q R hx hy ⟨xs, ys, ea, eb, hl, r⟩ k => by
  subst ea; subst eb
  obtain ⟨p, us, rfl, hp, lp⟩ := hx.tup
  obtain ⟨q, ws, rfl, hq, lq⟩ := hy.tup
  refine ⟨p, q, us, ws, rfl, rfl, .of hp, .of hq, by rw [lp.len, lq.len]; exact hl, fun e => ?_, fun _ e => ?_, fun _ _ n nn => ?_⟩
  · subst e
    cases lp
    exact k _ _ H (Same.refl H) (.tup hq lq) r
  · subst e
    cases lq
    rw [List.append_nil] at r
    exact k _ _ H (Same.refl H) (.tup hp lp) r
  · exact k _ _ _ (same_new nn) (.tup upd_same ((lp.app lq).keep (Kp.same (same_new nn)))) r
def oCatL : Dat → Dat → (Dat → Prop) → Prop := fun a b R => ∃ xs ys, a = .list xs ∧ b = .list ys ∧ xs.length + ys.length ≤ sizeLine ∧ R (.list (xs ++ ys))
theorem rfo_catL : RfOF rCat oCatL := fun N H x y a b Q R hx hy ⟨xs, ys, ea, eb, hl, r⟩ k => by
  subst ea; subst eb
  obtain ⟨p, us, rfl, hp, lp⟩ := hx.lst
  obtain ⟨q, ws, rfl, hq, lq⟩ := hy.lst
  exact ⟨p, q, us, ws, rfl, rfl, hp, hq, by rw [lp.len, lq.len]; exact hl, fun n nn => k n _ _ _ (same_new nn) nn upd_same (lp.app lq) r⟩
def oRepL : Dat → Dat → (Dat → Prop) → Prop := fun a b R => ∃ xs i, a = .list xs ∧ b = .int i ∧ i < 2 ^ 63 ∧ -(2 ^ 63) ≤ i ∧ xs.length * i.toNat ≤ sizeLine ∧ R (.list (List.replicate i.toNat xs).flatten)
theorem rfo_repL : RfOF rRep oRepL := fun N H x y a b Q R hx hy ⟨xs, i, ea, eb, h1, h2, hl, r⟩ k => by
  subst ea; subst eb
  obtain ⟨p, us, rfl, hp, lp⟩ := hx.lst
  exact ⟨p, i, us, rfl, hy.int, hp, h2, h1, by rw [lp.len]; exact hl, fun n nn => k n _ _ _ (same_new nn) nn upd_same (lp.rep _) r⟩
def oRepT : Dat → Dat → (Dat → Prop) → Prop := fun a b R => ∃ xs i, a = .tuple xs ∧ b = .int i ∧ 0 ≤ i ∧ i ≤ 1000000 ∧ xs.length * i.toNat ≤ 1000000 ∧ R (.tuple (List.replicate i.toNat xs).flatten)
theorem rfo_repT : RfO (Um.rRepB K) oRepT := fun N H x y a b Q R hx hy ⟨xs, i, ea, eb, h1, h2, hl, r⟩ k => by
  subst ea; subst eb
  obtain ⟨p, us, rfl, hp, lp⟩ := hx.tup
  exact ⟨p, i, us, rfl, hy.int, hp, h1, h2, by rw [lp.len]; exact hl, fun n H' s hn => k _ _ H' s (.tup hn ((lp.rep _).keep (Kp.same s))) r⟩
/-! subscripts -/
theorem FzL.atI {N : Ow} {H : Hp} {xs : List V} {ds : List Dat} {i : Int} {d : Dat} (l : FzL N H xs ds) (h : L2.atI ds i = some d) : ∃ v, L2.atI xs i = some v ∧ Fz N H v d := by
  unfold L2.atI at *
  rw [l.len]
  cases e : ixN ds.length i with
  | none => rw [e] at h; cases h
  | some j =>
    rw [e] at h
    exact l.get h
def oIxL : Dat → Dat → (Dat → Prop) → Prop := fun a b R => ∃ xs i d, a = .list xs ∧ b = .int i ∧ L2.atI xs i = some d ∧ R d
theorem rfo_ixL : RfO (rIxL K) oIxL := fun N H x y a b Q R hx hy ⟨xs, i, d, ea, eb, hd, r⟩ k => by
  subst ea; subst eb
  obtain ⟨p, us, rfl, hp, lp⟩ := hx.lst
  obtain ⟨v, hv, fv⟩ := lp.atI hd
  exact ⟨p, us, i, v, rfl, hy.int, .of hp, hv, k _ _ H (Same.refl H) fv r⟩
def oIxT : Dat → Dat → (Dat → Prop) → Prop := fun a b R => ∃ xs i d, a = .tuple xs ∧ b = .int i ∧ L2.atI xs i = some d ∧ R d
theorem rfo_ixT : RfO (rIxT K) oIxT := fun N H x y a b Q R hx hy ⟨xs, i, d, ea, eb, hd, r⟩ k => by
  subst ea; subst eb
  obtain ⟨p, us, rfl, hp, lp⟩ := hx.tup
  obtain ⟨v, hv, fv⟩ := lp.atI hd
  exact ⟨p, us, i, v, rfl, hy.int, .of hp, hv, k _ _ H (Same.refl H) fv r⟩
def oIxS : Dat → Dat → (Dat → Prop) → Prop := fun a b R => ∃ (z : Str) (i : Int) (c : Nat), a = .str z ∧ b = .int i ∧ z.length ≤ sizeLine ∧ L2.atI z.cps.toList i = some c ∧ R (.str ⟨#[c]⟩)
theorem rfo_ixS : RfO rIxS oIxS := fun N H x y a b Q R hx hy ⟨z, i, c, ea, eb, hl, hd, r⟩ k => by
  subst ea; subst eb
  exact ⟨z, i, c, hx.str, hy.int, hl, hd, k _ _ H (Same.refl H) (.str _) r⟩
/-! slices -/
def cutD (xs : List Dat) (lo hi : Option Int) : List Dat := (xs.drop (HT.sIx xs.length 0 lo)).take (HT.sIx xs.length xs.length hi - HT.sIx xs.length 0 lo)
theorem FzL.cut {N : Ow} {H : Hp} {xs : List V} {ds : List Dat} (l : FzL N H xs ds) (lo hi : Option Int) : FzL N H (cutV xs lo hi) (cutD ds lo hi) := by
  unfold cutV cutD
  rw [l.len]
  exact (l.drop _).take _
def oSlT : Dat → Option Int → Option Int → (Dat → Prop) → Prop := fun a lo hi R => ∃ xs, a = .tuple xs ∧ R (.tuple (cutD xs lo hi))
theorem rfs_tup : RfS1 (rSlA K) oSlT := fun N H x a lo hi Q R hx ⟨xs, ea, r⟩ k => by
  subst ea
  obtain ⟨p, us, rfl, hp, lp⟩ := hx.tup
  have lc := lp.cut lo hi
  refine ⟨p, us, rfl, .of hp, fun e => ?_, fun _ n nn => ?_⟩
  · refine k _ _ H (Same.refl H) (.tup hp ?_) r
    have e2 : cutV us lo hi = us := by
      unfold cutV
      rw [e.1, e.2, List.drop_zero, Nat.sub_zero, List.take_length]
    rw [e2] at lc
    exact lc
  · exact k _ _ _ (same_new nn) (.tup upd_same (lc.keep (Kp.same (same_new nn)))) r
def oSlL : Dat → Option Int → Option Int → (Dat → Prop) → Prop := fun a lo hi R => ∃ xs, a = .list xs ∧ R (.list (cutD xs lo hi))
theorem rfs_lst : RfSF (rSlL K) oSlL := fun N H x a lo hi Q R hx ⟨xs, ea, r⟩ k => by
  subst ea
  obtain ⟨p, us, rfl, hp, lp⟩ := hx.lst
  exact ⟨p, us, rfl, .of hp, fun n nn => k n _ _ _ (same_new nn) nn upd_same (lp.cut lo hi) r⟩
theorem cutD_to (xs : List Dat) (n : Nat) : cutD xs none (some (n : Int)) = xs.take n := by
  unfold cutD
  rw [HT.sIx_none, show HT.sIx xs.length xs.length (some (n : Int)) = min n xs.length from HT.sIx_nat xs.length xs.length n]
  rw [List.drop_zero, Nat.sub_zero]
  by_cases h : n ≤ xs.length
  · rw [Nat.min_eq_left h]
  · rw [Nat.min_eq_right (by omega), List.take_of_length_le (Nat.le_refl _), List.take_of_length_le (by omega)]
theorem cutD_from (xs : List Dat) (n : Nat) : cutD xs (some (n : Int)) none = xs.drop n := by
  unfold cutD
  rw [HT.sIx_none, show HT.sIx xs.length 0 (some (n : Int)) = min n xs.length from HT.sIx_nat xs.length 0 n]
  by_cases h : n ≤ xs.length
  · rw [Nat.min_eq_left h, List.take_of_length_le (by rw [List.length_drop]; exact Nat.le_refl _)]
  · rw [Nat.min_eq_right (by omega), List.drop_of_length_le (Nat.le_refl _), List.drop_of_length_le (by omega), List.take_nil]
theorem cutD_both (xs : List Dat) (m n : Nat) : cutD xs (some (m : Int)) (some (n : Int)) = (xs.take n).drop m := by
  unfold cutD
  rw [show HT.sIx xs.length 0 (some (m : Int)) = min m xs.length from HT.sIx_nat xs.length 0 m, show HT.sIx xs.length xs.length (some (n : Int)) = min n xs.length from HT.sIx_nat xs.length xs.length n]
  rw [List.drop_take]
  by_cases g : n ≤ xs.length
  · rw [Nat.min_eq_left g]
    by_cases h : m ≤ xs.length
    · rw [Nat.min_eq_left h]
    · rw [Nat.min_eq_right (by omega), List.drop_of_length_le (Nat.le_refl _), List.drop_of_length_le (by omega), List.take_nil, List.take_nil]
  · rw [Nat.min_eq_right (show xs.length ≤ n by omega)]
    by_cases h : m ≤ xs.length
    · rw [Nat.min_eq_left h, List.take_of_length_le (by rw [List.length_drop]; exact Nat.le_refl _), List.take_of_length_le (by rw [List.length_drop]; omega)]
    · rw [Nat.min_eq_right (by omega), List.drop_of_length_le (Nat.le_refl _), List.drop_of_length_le (by omega), List.take_nil, List.take_nil]
/-! built-ins -/
theorem p1 {N : Ow} {H : Hp} {xs : List V} {a : Dat} (h : Paired (Ft N H) xs [a]) : ∃ v, xs = [v] ∧ Ft N H v a := by
  cases h with
  | cons r t => cases t; exact ⟨_, rfl, r⟩
theorem p2 {N : Ow} {H : Hp} {xs : List V} {a b : Dat} (h : Paired (Ft N H) xs [a, b]) : ∃ v w, xs = [v, w] ∧ Ft N H v a ∧ Ft N H w b := by
  cases h with
  | cons r t => cases t with
    | cons r2 t => cases t; exact ⟨_, _, rfl, r, r2⟩
def lenD : Dat → Option Nat
  | .str x => if x.length ≤ sizeLine then some x.length else none
  | .list xs => some xs.length
  | .tuple xs => some xs.length
  | _ => none
def oLen : List Dat → (Dat → Prop) → Prop := fun ds R => ∃ a n, ds = [a] ∧ lenD a = some n ∧ R (.int (n : Int))
theorem rfb_len : RfB (fun xs H Q => ∃ x n, xs = [x] ∧ LenV K x H n ∧ Q (.int n) H) oLen := fun N H xs ds Q R hx ⟨a, n, e, hn, r⟩ k => by
  subst e
  obtain ⟨v, rfl, f⟩ := p1 hx
  refine ⟨v, n, rfl, ?_, k _ _ H (Same.refl H) (.int _) r⟩
  cases a with
  | str x =>
    rw [f.str]
    replace hn : (if x.length ≤ sizeLine then some x.length else none) = some n := hn
    by_cases h : x.length ≤ sizeLine
    · rw [if_pos h] at hn
      exact ⟨h, (Option.some.inj hn).symm⟩
    · rw [if_neg h] at hn
      cases hn
  | list ds =>
    obtain ⟨p, us, rfl, hp, lp⟩ := f.lst
    exact .inl ⟨us, .of hp, by rw [lp.len]; exact (Option.some.inj hn).symm⟩
  | tuple ds =>
    obtain ⟨p, us, rfl, hp, lp⟩ := f.tup
    exact .inr ⟨us, .of hp, by rw [lp.len]; exact (Option.some.inj hn).symm⟩
  | _ => cases hn
def oAbs : List Dat → (Dat → Prop) → Prop := fun ds R => ∃ i : Int, ds = [.int i] ∧ R (.int (i.natAbs : Int))
theorem rfb_abs : RfB (fun xs H Q => ∃ i, xs = [.int i] ∧ Q (.int (if i < 0 then -i else i)) H) oAbs := fun N H xs ds Q R hx ⟨i, e, r⟩ k => by
  subst e
  obtain ⟨v, rfl, f⟩ := p1 hx
  refine ⟨i, by rw [f.int], ?_⟩
  have e : (if i < 0 then -i else i) = (i.natAbs : Int) := by split <;> omega
  rw [e]
  exact k _ _ H (Same.refl H) (.int _) r
def oMax2 : List Dat → (Dat → Prop) → Prop := fun ds R => ∃ i j : Int, ds = [.int i, .int j] ∧ R (.int (max i j))
theorem rfb_max : RfB (fun xs H Q => ∃ i j, xs = [.int i, .int j] ∧ Q (.int (if j > i then j else i)) H) oMax2 := fun N H xs ds Q R hx ⟨i, j, e, r⟩ k => by
  subst e
  obtain ⟨v, w, rfl, f, g⟩ := p2 hx
  refine ⟨i, j, by rw [f.int, g.int], ?_⟩
  have e : (if j > i then j else i) = max i j := by split <;> omega
  rw [e]
  exact k _ _ H (Same.refl H) (.int _) r
def oMin2 : List Dat → (Dat → Prop) → Prop := fun ds R => ∃ i j : Int, ds = [.int i, .int j] ∧ R (.int (min i j))
theorem rfb_min : RfB (fun xs H Q => ∃ i j, xs = [.int i, .int j] ∧ Q (.int (if j < i then j else i)) H) oMin2 := fun N H xs ds Q R hx ⟨i, j, e, r⟩ k => by
  subst e
  obtain ⟨v, w, rfl, f, g⟩ := p2 hx
  refine ⟨i, j, by rw [f.int, g.int], ?_⟩
  have e : (if j < i then j else i) = min i j := by split <;> omega
  rw [e]
  exact k _ _ H (Same.refl H) (.int _) r
def oInt : List Dat → (Dat → Prop) → Prop := fun ds R => (∃ i : Int, ds = [.int i] ∧ R (.int i)) ∨ ∃ k : Bool, ds = [.bool k] ∧ R (.int (if k then 1 else 0))
theorem rfb_int : RfB (fun xs H Q => (∃ i, xs = [.int i] ∧ Q (.int i) H) ∨ ∃ k, xs = [.bl k] ∧ Q (.int (if k then 1 else 0)) H) oInt := fun N H xs ds Q R hx h k => by
  rcases h with ⟨i, e, r⟩ | ⟨i, e, r⟩
  · subst e
    obtain ⟨v, rfl, f⟩ := p1 hx
    exact .inl ⟨i, by rw [f.int], k _ _ H (Same.refl H) (.int _) r⟩
  · subst e
    obtain ⟨v, rfl, f⟩ := p1 hx
    exact .inr ⟨i, by rw [f.bool], k _ _ H (Same.refl H) (.int _) r⟩
def oStr : List Dat → (Dat → Prop) → Prop := fun ds R => ∃ i : Int, ds = [.int i] ∧ i.natAbs.log2 < 1920 ∧ R (.str (toString i))
theorem rfb_str : RfB (fun xs H Q => ∃ i, xs = [.int i] ∧ i.natAbs.log2 < 1920 ∧ Q (.str (toString i)) H) oStr := fun N H xs ds Q R hx ⟨i, e, hl, r⟩ k => by
  subst e
  obtain ⟨v, rfl, f⟩ := p1 hx
  exact ⟨i, by rw [f.int], hl, k _ _ H (Same.refl H) (.str _) r⟩
def oSum : List Dat → (Dat → Prop) → Prop := fun ds R => ∃ ns : List Int, ds = [.list (ns.map .int)] ∧ R (.int ns.sum)
theorem rfb_sum : RfB (rSum K) oSum := fun N H xs ds Q R hx ⟨ns, e, r⟩ k => by
  subst e
  obtain ⟨v, rfl, f⟩ := p1 hx
  obtain ⟨p, us, rfl, hp, lp⟩ := f.lst
  exact ⟨p, ns, rfl, .of (by rw [hp, lp.ints]), k _ _ H (Same.refl H) (.int _) r⟩
def oTuple : List Dat → (Dat → Prop) → Prop := fun ds R => ∃ xs, (ds = [.list xs] ∨ ds = [.tuple xs]) ∧ R (.tuple xs)
theorem rfb_tuple : RfB (fun xs H Q => ∃ p ys, xs = [.ref p] ∧ ((SqL K H p ys ∧ ∀ l, H l = none → Q (.ref l) (upd H l (.tup ys))) ∨ (SqT K H p ys ∧ Q (.ref p) H))) oTuple := fun N H xs ds Q R hx ⟨ys, h, r⟩ k => by
  rcases h with e | e
  · subst e
    obtain ⟨v, rfl, f⟩ := p1 hx
    obtain ⟨p, us, rfl, hp, lp⟩ := f.lst
    exact ⟨p, us, rfl, .inl ⟨.of hp, fun n nn => k _ _ _ (same_new nn) (.tup upd_same (lp.keep (Kp.same (same_new nn)))) r⟩⟩
  · subst e
    obtain ⟨v, rfl, f⟩ := p1 hx
    obtain ⟨p, us, rfl, hp, lp⟩ := f.tup
    exact ⟨p, us, rfl, .inr ⟨.of hp, k _ _ _ (Same.refl H) (.tup hp lp) r⟩⟩
def oList : List Dat → (Dat → Prop) → Prop := fun ds R => ∃ xs, (ds = [.list xs] ∨ ds = [.tuple xs]) ∧ R (.list xs)
theorem rfb_list : RfBF (fun xs H Q => ∃ p ys, xs = [.ref p] ∧ (SqL K H p ys ∨ SqT K H p ys) ∧ ∀ l, H l = none → Q (.ref l) (upd H l (.lst ys))) oList := fun N H xs ds Q R hx ⟨ys, h, r⟩ k => by
  rcases h with e | e
  · subst e
    obtain ⟨v, rfl, f⟩ := p1 hx
    obtain ⟨p, us, rfl, hp, lp⟩ := f.lst
    exact ⟨p, us, rfl, .inl (.of hp), fun n nn => k n _ _ _ (same_new nn) nn upd_same lp r⟩
  · subst e
    obtain ⟨v, rfl, f⟩ := p1 hx
    obtain ⟨p, us, rfl, hp, lp⟩ := f.tup
    exact ⟨p, us, rfl, .inr (.of hp), fun n nn => k n _ _ _ (same_new nn) nn upd_same lp r⟩
/-! sorted -/
def oSortI : List Dat → (Dat → Prop) → Prop := fun ds R => ∃ ns : List Int, ds = [.list (ns.map .int)] ∧ ∀ ms : List Int, ms.Perm ns → ms.Pairwise (· ≤ ·) → R (.list (ms.map .int))
theorem rfb_sortI : RfBF (rSortedI K) oSortI := fun N H xs ds Q R hx ⟨ns, e, r⟩ k => by
  subst e
  obtain ⟨v, rfl, f⟩ := p1 hx
  obtain ⟨p, us, rfl, hp, lp⟩ := f.lst
  exact ⟨p, ns, rfl, .of (by rw [hp, lp.ints]), fun ms q h1 h2 nq => k q _ _ _ (same_new nq) nq upd_same FzL.of_ints (r ms h1 h2)⟩
/-! isinstance -/
def tyD : Dat → String
  | .none => "NoneType"
  | .bool _ => "bool"
  | .int _ => "int"
  | .str _ => "str"
  | .list _ => "list"
  | .tuple _ => "tuple"
  | .dict _ => "dict"
def isDc : Dat → Bool
  | .dict _ => true
  | _ => false
theorem ty_ft {N : Ow} {H : Hp} {v : V} {d : Dat} (f : Ft N H v d) (hd : isDc d = false) : TyX K H v (.type (tyD d)) := by
  cases d with
  | none => rw [f.none]; exact .base .non
  | bool b => rw [f.bool]; exact .base (.bl _)
  | int b => rw [f.int]; exact .base (.int _)
  | str b => rw [f.str]; exact .base (.str _)
  | list ds => obtain ⟨a, xs, rfl, h, _⟩ := f.lst; exact .base (.lst h)
  | tuple ds => obtain ⟨a, xs, rfl, h, _⟩ := f.tup; exact .base (.tup h)
  | dict ds =>
    exact absurd hd (by intro z; cases z)
def dIsi (n : String) (da : DE) : DE := fun E R => da E fun x E1 => ∃ b, isDc x = false ∧ kitB (tyD x) n = some b ∧ R (.bool b) E1
theorem rf_isi {C : Ct} {ta : TE} {da : DE} {n : String} (ha : RfE C ta da) : RfE C (tCB (rIsi K) (tCons ta (tCons (tC (.ty n)) tNil))) (dIsi n da) := fun W H σ E Q R Re r k =>
  ha W H σ E _ _ Re r fun x dx H1 E1 R1 g1 f1 ⟨b, hd, hb, r1⟩ => ⟨x, .ty n, _, .type n, b, rfl, .ty n, ty_ft (.inl f1) hd, kit_ty hb, k _ _ H1 E1 R1 g1 (.bl b) r1⟩
end
end Dl
namespace Dl
open PySem PySem.Spec PyProof.Rows L2 Ss
/-! ### statements -/
structure DEnds where
  nx : DEnv → Prop
  rt : Dat → DEnv → Prop
  bk : DEnv → Prop
  ct : DEnv → Prop
abbrev DS := DEnds → DEnv → Prop
abbrev DG := Dat → DEnv → (DEnv → Prop) → Prop
abbrev DGs := List Dat → DEnv → (DEnv → Prop) → Prop
def RtOk (C : Ct) (W : Ow) (H : Hp) (v : V) (d : Dat) : Prop := if C.fr = true then ∃ a, v = .ref a ∧ W a ∧ C.H0 a = none ∧ OwnC (Nn C W) H a d else Fz C.N0 H v d
structure Cn (C : Ct) (W : Ow) (H : Hp) (DD : DEnds) (B : Ends) : Prop where
  nx : ∀ W' H' σ E, Rep C W' H' σ E → Gr W H W' H' → DD.nx E → B.nx σ H'
  rt : ∀ W' H' σ E v d, Rep C W' H' σ E → Gr W H W' H' → RtOk C W' H' v d → DD.rt d E → B.rt v H'
  bk : ∀ W' H' σ E, Rep C W' H' σ E → Gr W H W' H' → DD.bk E → B.bk σ H'
  ct : ∀ W' H' σ E, Rep C W' H' σ E → Gr W H W' H' → DD.ct E → B.ct σ H'
theorem Cn.gr {C : Ct} {W W1 : Ow} {H H1 : Hp} {DD : DEnds} {B : Ends} (c : Cn C W H DD B) (g : Gr W H W1 H1) : Cn C W1 H1 DD B :=
  ⟨fun W' H' σ E R g' n => c.nx W' H' σ E R (g.trans g') n, fun W' H' σ E v d R g' o n => c.rt W' H' σ E v d R (g.trans g') o n, fun W' H' σ E R g' n => c.bk W' H' σ E R (g.trans g') n, fun W' H' σ E R g' n => c.ct W' H' σ E R (g.trans g') n⟩
def RfS (C : Ct) (ts : TS) (ds : DS) : Prop := (∀ b, C.N0 b → C.H0 b ≠ none) → ∀ (W : Ow) (H : Hp) (σ : L2.St) (E : DEnv) (B : Ends) (DD : DEnds), Rep C W H σ E → ds DD E → Cn C W H DD B → ts B σ H
def RfG (C : Ct) (g : TG) (dg : DG) : Prop := ∀ (W : Ow) (H : Hp) (σ : L2.St) (E : DEnv) (v : V) (d : Dat) (Q : L2.St → Hp → Prop) (R : DEnv → Prop), Rep C W H σ E → Fz (Nn C W) H v d → dg d E R → (∀ W' H' σ' E', Rep C W' H' σ' E' → Gr W H W' H' → R E' → Q σ' H') → g v σ H Q
def RfGs (C : Ct) (g : TGs) (dg : DGs) : Prop := ∀ (W : Ow) (H : Hp) (σ : L2.St) (E : DEnv) (vs : List V) (ds : List Dat) (Q : L2.St → Hp → Prop) (R : DEnv → Prop), Rep C W H σ E → FzL (Nn C W) H vs ds → dg ds E R → (∀ W' H' σ' E', Rep C W' H' σ' E' → Gr W H W' H' → R E' → Q σ' H') → g vs σ H Q
theorem gr_put {W : Ow} {H : Hp} {a : Addr} {o : HO} (wa : W a) : Gr W H W (upd H a o) := ⟨fun b u nw e => (upd_ne fun z => nw (by rw [z]; exact wa)).trans e, th_upd, fun _ w => .inl w⟩
section
variable {C : Ct} {K : PySem.W.Frag}
def dNext : DS := fun DD E => DD.nx E
theorem rf_next : RfS C tNext dNext := fun _ W H σ E B DD R h c => c.nx W H σ E R (Gr.refl W H) h
def dSeq (a b : DS) : DS := fun DD E => a { DD with nx := b DD } E
theorem rf_seq {t u : TS} {a b : DS} (ha : RfS C t a) (hb : RfS C u b) : RfS C (tSeq t u) (dSeq a b) := fun n0 W H σ E B DD R h c =>
  ha n0 W H σ E _ { DD with nx := b DD } R h ⟨fun W' H' σ' E' R' g n => hb n0 W' H' σ' E' B DD R' n (c.gr g), c.rt, c.bk, c.ct⟩
def dBreak : DS := fun DD E => DD.bk E
theorem rf_break : RfS C tBreak dBreak := fun _ W H σ E B DD R h c => c.bk W H σ E R (Gr.refl W H) h
def dCont : DS := fun DD E => DD.ct E
theorem rf_cont : RfS C tCont dCont := fun _ W H σ E B DD R h c => c.ct W H σ E R (Gr.refl W H) h
def dNever : DS := fun _ _ => False
theorem rf_never : RfS C tNever dNever := fun _ W H σ E B DD R h c => h.elim
def dDrop (da : DE) : DS := fun DD E => da E fun _ E1 => DD.nx E1
theorem rf_drop {ta : TE} {da : DE} (ha : RfE C ta da) : RfS C (tDrop ta) (dDrop da) := fun _ W H σ E B DD R h c => ha W H σ E _ _ R h fun v d H' E' R' g f n => c.nx W H' σ E' R' g n
def dRet (da : DE) : DS := fun DD E => da E DD.rt
theorem sub0 {W : Ow} : ∀ b, C.N0 b → Nn C W b := fun b n => .inl n
theorem rf_ret {ta : TE} {da : DE} (hf : C.fr = false) (ha : RfE C ta da) : RfS C (tRet ta) (dRet da) := fun _ W H σ E B DD R h c => ha W H σ E _ _ R h fun v d H' E' R' g f n => c.rt W H' σ E' v d R' g (by
  unfold RtOk
  rw [if_neg (by rw [hf]; exact Bool.false_ne_true)]
  exact f.keep (Kp.sub sub0)) n
theorem rf_retF {ta : TE} {da : DE} (hf : C.fr = true) (ha : RfF C ta da) : RfS C (tRet ta) (dRet da) := fun _ W H σ E B DD R h c => ha W H σ E _ _ R h fun p d H' E' R' g hp o av n => c.rt (And1 W p) H' σ E' (.ref p) d R' ⟨g.st, g.th, fun b w => by
    rcases w with w | rfl
    · exact .inl w
    · exact .inr hp⟩ (by
  unfold RtOk
  rw [if_pos hf]
  exact ⟨p, rfl, .inr rfl, (R.free0 hp).1, o⟩) n
def dRetV (i : Nat) : DS := fun DD E => ∃ d, E[i]? = some (some d) ∧ DD.rt d E
theorem rf_retVF {i : Nat} (hf : C.fr = true) (hO : C.O i = true) (hM : C.M ≠ some i ∧ C.M2 ≠ some i) : RfS C (tRet (tVar i)) (dRetV i) := fun _ W H σ E B DD R ⟨d, h, n⟩ c => by
  obtain ⟨a, h1, wa, o, m⟩ := R.own hO h
  refine ⟨.ref a, h1, c.rt W H σ E _ d R (Gr.refl W H) ?_ n⟩
  unfold RtOk
  rw [if_pos hf]
  exact ⟨a, rfl, wa, m.1 hM.1 hM.2, o⟩
theorem rf_retV {i : Nat} (hf : C.fr = false) (hO : C.O i = true) (hM : C.M ≠ some i ∧ C.M2 ≠ some i) : RfS C (tRet (tVar i)) (dRetV i) := fun n0 W H σ E B DD R ⟨d, h, n⟩ c => by
  obtain ⟨a, h1, wa, o, m⟩ := R.own hO h
  refine ⟨.ref a, h1, c.rt W H σ E _ d R (Gr.refl W H) ?_ n⟩
  unfold RtOk
  rw [if_neg (by rw [hf]; exact Bool.false_ne_true)]
  have na : ¬ C.N0 a := fun z => n0 a z (m.1 hM.1 hM.2)
  rcases o with ⟨xs, ds, rfl, ha, l⟩ | ⟨xs, ds, rfl, ha, l⟩
  · exact .lst ha na (l.keep (Kp.sub sub0))
  · exact .dic (.inl ha) na (l.keep (Kp.sub sub0))
def dRetN : DS := fun DD E => DD.rt .none E
theorem rf_retN (hf : C.fr = false) : RfS C tRetN dRetN := fun _ W H σ E B DD R h c => c.rt W H σ E .non .none R (Gr.refl W H) (by
  unfold RtOk
  rw [if_neg (by rw [hf]; exact Bool.false_ne_true)]
  exact .non) h
def dIfS (dt : DT) (a b : DS) : DS := fun DD E => dt E fun k E1 => if k = true then a DD E1 else b DD E1
theorem rf_ifS {tt : TT} {t u : TS} {dt : DT} {a b : DS} (ht : RfT C tt dt) (ha : RfS C t a) (hb : RfS C u b) : RfS C (tIfS tt t u) (dIfS dt a b) := fun n0 W H σ E B DD R h c => ht W H σ E _ _ R h fun k H1 E1 R1 g1 r1 => by
  cases k with
  | true => exact ha n0 W H1 σ E1 B DD R1 r1 (c.gr g1)
  | false => exact hb n0 W H1 σ E1 B DD R1 r1 (c.gr g1)
def dSet (i : Nat) (da : DE) : DS := fun DD E => da E fun d E1 => DD.nx (E1.set i (some d))
theorem rf_set {i : Nat} {ta : TE} {da : DE} (hO : C.O i = false) (ha : RfE C ta da) : RfS C (tAsg ta (gName i)) (dSet i da) := fun _ W H σ E B DD R h c => ha W H σ E _ _ R h fun v d H' E' R' g f n => c.nx W H' _ _ (R'.set hO f) g n
theorem rf_setF {i : Nat} {ta : TE} {da : DE} (hO : C.O i = true) (hM : C.M ≠ some i ∧ C.M2 ≠ some i) (ha : RfF C ta da) : RfS C (tAsg ta (gName i)) (dSet i da) := fun _ W H σ E B DD R h c => ha W H σ E _ _ R h fun p d H' E' R' g hp o av n =>
  c.nx (And1 W p) H' _ _ (R'.setO hO hM o (R.free0 hp).1 av) ⟨g.st, g.th, fun b w => by
    rcases w with w | rfl
    · exact .inl w
    · exact .inr hp⟩ n
def dAsg (da : DE) (dg : DG) : DS := fun DD E => da E fun d E1 => dg d E1 DD.nx
theorem rf_asg {ta : TE} {da : DE} {g : TG} {dg : DG} (ha : RfE C ta da) (hg : RfG C g dg) : RfS C (tAsg ta g) (dAsg da dg) := fun _ W H σ E B DD R h c => ha W H σ E _ _ R h fun v d H' E' R' g1 f n =>
  hg W H' σ E' v d _ _ R' f n fun W2 H2 σ2 E2 R2 g2 n2 => c.nx W2 H2 σ2 E2 R2 (g1.trans g2) n2
/-! targets -/
def dgName (i : Nat) : DG := fun d E R => R (E.set i (some d))
theorem rg_name {i : Nat} (hO : C.O i = false) : RfG C (gName i) (dgName i) := fun W H σ E v d Q R Re f r k => k W H _ _ (Re.set hO f) (Gr.refl W H) r
def dgNil : DGs := fun ds E R => ds = [] ∧ R E
theorem rg_nil : RfGs C gNil dgNil := fun W H σ E vs ds Q R Re f ⟨e, r⟩ k => by
  subst e
  cases f
  exact ⟨rfl, k W H σ E Re (Gr.refl W H) r⟩
def dgCons (dg : DG) (dr : DGs) : DGs := fun ds E R => ∃ d r, ds = d :: r ∧ dg d E fun E1 => dr r E1 R
theorem rg_cons {g : TG} {u : TGs} {dg : DG} {dr : DGs} (hg : RfG C g dg) (hu : RfGs C u dr) : RfGs C (gCons g u) (dgCons dg dr) := fun W H σ E vs ds Q R Re f ⟨d, r, e, h⟩ k => by
  subst e
  cases f with
  | cons f0 fl => exact ⟨_, _, rfl, hg W H σ E _ _ _ _ Re f0 h fun W1 H1 σ1 E1 R1 g1 r1 => hu W1 H1 σ1 E1 _ _ _ _ R1 (fl.gr Re g1) r1 fun W2 H2 σ2 E2 R2 g2 r2 => k W2 H2 σ2 E2 R2 (g1.trans g2) r2⟩
def dgTup (n : Nat) (dr : DGs) : DG := fun d E R => ∃ ds, d = .tuple ds ∧ ds.length = n ∧ dr ds E R
theorem rg_tup {n : Nat} {u : TGs} {dr : DGs} (hu : RfGs C u dr) : RfG C (gTup K n u) (dgTup n dr) := fun W H σ E v d Q R Re f ⟨ds, e, hl, h⟩ k => by
  subst e
  obtain ⟨a, xs, rfl, ha, l⟩ := Ft.tup (.inl f)
  exact ⟨a, xs, rfl, .of ha, by rw [l.len]; exact hl, hu W H σ E _ _ _ _ Re l h k⟩
/-- found[k] = v, found a written list -/
def dgSub (i : Nat) (di : DE) : DG := fun d E R => ∃ ds0, E[i]? = some (some (.list ds0)) ∧ di E fun x E1 => ∃ ds j n, E1[i]? = some (some (.list ds)) ∧ x = .int j ∧ ixN ds.length j = some n ∧ R (E1.set i (some (.list (ds.set n d))))
theorem rg_sub {i : Nat} {ti : TE} {di : DE} (hO : C.O i = true) (hi : RfE C ti di) : RfG C (gSub (tVar i) ti rSetL) (dgSub i di) := fun W H σ E v d Q R Re f ⟨ds0, h0, h⟩ k => by
  obtain ⟨a, h1, _⟩ := Re.own hO h0
  refine ⟨.ref a, h1, hi W H σ E _ _ Re h fun x dx H1 E1 R1 g1 f1 ⟨ds, j, n, h2, ex, hn, r⟩ => ?_⟩
  subst ex
  cases f1
  obtain ⟨b, h3, wb, o, m⟩ := R1.own hO h2
  rw [h1] at h3
  cases h3
  rcases o with ⟨xs, es, e, ha, l⟩ | ⟨xs, es, e, ha, l⟩
  · cases e
    refine ⟨a, xs, j, n, rfl, rfl, ha, by rw [l.len]; exact hn, ?_⟩
    have g2 : Gr W H1 W (upd H1 a (.lst (xs.set n v))) := gr_put wb
    have l2 := ((l.set (f.gr Re g1) n).gr R1 g2)
    obtain ⟨R2, _⟩ := R1.put (d' := .list (ds.set n d)) hO h2 h1 wb m (fun b nb o e => (upd_ne nb).trans e) (.inl ⟨_, _, rfl, upd_same, l2⟩)
    exact k W _ σ _ R2 (g1.trans g2) r
  · cases e
/-- found.append(e) -/
def dApp (i : Nat) (da : DE) : DS := fun DD E => ∃ ds0, E[i]? = some (some (.list ds0)) ∧ da E fun d E1 => ∃ ds, E1[i]? = some (some (.list ds)) ∧ ds.length < sizeLine ∧ DD.nx (E1.set i (some (.list (ds ++ [d]))))
theorem rf_app {i : Nat} {ta : TE} {da : DE} (hO : C.O i = true) (ha : RfE C ta da) : RfS C (tDrop (tBM K "list" rAppend (tVar i) (tCons ta tNil))) (dApp i da) := fun _ W H σ E B DD R ⟨ds0, h0, h⟩ c => by
  obtain ⟨a, h1, _, o0, _⟩ := R.own hO h0
  refine ⟨.ref a, h1, ?_, ha W H σ E _ _ R h fun v d H1 E1 R1 g1 f1 ⟨ds, h2, hl, n⟩ => ?_⟩
  · rcases o0 with ⟨xs, es, e, ha, l⟩ | ⟨xs, es, e, ha, l⟩
    · exact .inl ⟨rfl, _, .of ha⟩
    · cases e
  · obtain ⟨b, h3, wb, o, m⟩ := R1.own hO h2
    rw [h1] at h3
    cases h3
    rcases o with ⟨xs, es, e, ha, l⟩ | ⟨xs, es, e, ha, l⟩
    · cases e
      refine ⟨a, xs, v, rfl, rfl, ha, by rw [l.len]; exact hl, ?_⟩
      have g2 : Gr W H1 W (upd H1 a (.lst (xs ++ [v]))) := gr_put wb
      have l2 := ((l.app (.cons f1 .nil)).gr R1 g2)
      obtain ⟨R2, _⟩ := R1.put (d' := .list (ds ++ [d])) hO h2 h1 wb m (fun b nb o e => (upd_ne nb).trans e) (.inl ⟨_, _, rfl, upd_same, l2⟩)
      exact c.nx W _ σ _ R2 (g1.trans g2) n
    · cases e
/-- found.extend(a list | a tuple) -/
def dExt (i : Nat) (da : DE) : DS := fun DD E => ∃ ds0, E[i]? = some (some (.list ds0)) ∧ da E fun d E1 => ∃ ds es, E1[i]? = some (some (.list ds)) ∧ d = .list es ∧ ds.length + es.length ≤ sizeLine ∧ DD.nx (E1.set i (some (.list (ds ++ es))))
def dExtT (i : Nat) (da : DE) : DS := fun DD E => ∃ ds0, E[i]? = some (some (.list ds0)) ∧ da E fun d E1 => ∃ ds es, E1[i]? = some (some (.list ds)) ∧ d = .tuple es ∧ ds.length + es.length ≤ sizeLine ∧ DD.nx (E1.set i (some (.list (ds ++ es))))
theorem rf_ext {i : Nat} {ta : TE} {da : DE} (hO : C.O i = true) (ha : RfE C ta da) : RfS C (tDrop (tBM K "list" rExtend (tVar i) (tCons ta tNil))) (dExt i da) := fun _ W H σ E B DD R ⟨ds0, h0, h⟩ c => by
  obtain ⟨a, h1, _, o0, _⟩ := R.own hO h0
  refine ⟨.ref a, h1, ?_, ha W H σ E _ _ R h fun v d H1 E1 R1 g1 f1 ⟨ds, es, h2, ed, hl, n⟩ => ?_⟩
  · rcases o0 with ⟨xs, es, e, ha, l⟩ | ⟨xs, es, e, ha, l⟩
    · exact .inl ⟨rfl, _, .of ha⟩
    · cases e
  · subst ed
    obtain ⟨q, us, rfl, hq, lq⟩ := Ft.lst (.inl f1)
    obtain ⟨b, h3, wb, o, m⟩ := R1.own hO h2
    rw [h1] at h3
    cases h3
    rcases o with ⟨xs, es, e, ha, l⟩ | ⟨xs, es, e, ha, l⟩
    · cases e
      refine ⟨a, q, xs, us, rfl, rfl, ha, hq, by rw [l.len, lq.len]; exact hl, ?_⟩
      have g2 : Gr W H1 W (upd H1 a (.lst (xs ++ us))) := gr_put wb
      have l2 := ((l.app lq).gr R1 g2)
      obtain ⟨R2, _⟩ := R1.put (d' := .list (ds ++ _)) hO h2 h1 wb m (fun b nb o e => (upd_ne nb).trans e) (.inl ⟨_, _, rfl, upd_same, l2⟩)
      exact c.nx W _ σ _ R2 (g1.trans g2) n
    · cases e
theorem rf_extT {i : Nat} {ta : TE} {da : DE} (hO : C.O i = true) (ha : RfE C ta da) : RfS C (tDrop (tBM K "list" (Em.rExtendT K) (tVar i) (tCons ta tNil))) (dExtT i da) := fun _ W H σ E B DD R ⟨ds0, h0, h⟩ c => by
  obtain ⟨a, h1, _, o0, _⟩ := R.own hO h0
  refine ⟨.ref a, h1, ?_, ha W H σ E _ _ R h fun v d H1 E1 R1 g1 f1 ⟨ds, es, h2, ed, hl, n⟩ => ?_⟩
  · rcases o0 with ⟨xs, es, e, ha, l⟩ | ⟨xs, es, e, ha, l⟩
    · exact .inl ⟨rfl, _, .of ha⟩
    · cases e
  · subst ed
    obtain ⟨q, us, rfl, hq, lq⟩ := Ft.tup (.inl f1)
    obtain ⟨b, h3, wb, o, m⟩ := R1.own hO h2
    rw [h1] at h3
    cases h3
    rcases o with ⟨xs, es, e, ha, l⟩ | ⟨xs, es, e, ha, l⟩
    · cases e
      refine ⟨a, q, xs, us, rfl, rfl, ha, .of hq, by rw [l.len, lq.len]; exact hl, ?_⟩
      have g2 : Gr W H1 W (upd H1 a (.lst (xs ++ us))) := gr_put wb
      have l2 := ((l.app lq).gr R1 g2)
      obtain ⟨R2, _⟩ := R1.put (d' := .list (ds ++ _)) hO h2 h1 wb m (fun b nb o e => (upd_ne nb).trans e) (.inl ⟨_, _, rfl, upd_same, l2⟩)
      exact c.nx W _ σ _ R2 (g1.trans g2) n
    · cases e
def dPar (i j : Nat) (da : DA) : DS := fun DD E => da E fun ds E1 => ∃ x y, ds = [x, y] ∧ DD.nx ((E1.set i (some x)).set j (some y))
theorem rf_par {i j : Nat} {ta : TA} {da : DA} (hi : C.O i = false) (hj : C.O j = false) (ha : RfA C ta da) : RfS C (tPar i j ta) (dPar i j da) := fun _ W H σ E B DD R h c => ha W H σ E _ _ R h fun vs ds H' E' R' g f ⟨x, y, e, n⟩ => by
  subst e
  cases f with
  | cons f1 f => cases f with
    | cons f2 f =>
      cases f
      exact ⟨_, _, rfl, c.nx W H' _ _ ((R'.set hi f1).set hj f2) g n⟩
def dAug (i : Nat) (da : DE) (f : Int → Int → Int) : DS := fun DD E => ∃ x, E[i]? = some (some (.int x)) ∧ da E fun d E1 => ∃ y, d = .int y ∧ DD.nx (E1.set i (some (.int (f x y))))
theorem rf_aug {i : Nat} {ta : TE} {da : DE} {f : Int → Int → Int} (hO : C.O i = false) (ha : RfE C ta da) : RfS C (tAug i ta (ipI f)) (dAug i da f) := fun _ W H σ E B DD R ⟨x, hx, h⟩ c => by
  obtain ⟨v, h1, fv⟩ := R.get hO hx
  cases fv
  exact ⟨.int x, h1, ha W H σ E _ _ R h fun u d H1 E1 R1 g1 f1 ⟨y, e, n⟩ => by
    subst e
    cases f1
    exact ⟨x, y, rfl, rfl, c.nx W H1 _ _ (R1.set hO (.int _)) g1 n⟩⟩
/-! ### loops -/
structure DIt where
  n : Nat
  item : Nat → Dat → Prop
/-- what is only read stays -/
def Kx (N : Ow) (H H' : Hp) : Prop := ∀ b o, H b = some o → ((∃ xs, o = .tup xs) ∨ ¬ N b) → H' b = some o
theorem Gr.kx {C : Ct} {W W' : Ow} {H H' : Hp} (g : Gr W H W' H') (ld : ∀ b, Nn C W b → LD H b) : Kx (Nn C W) H H' := fun b o e h => by
  refine g.st b o (fun w => ?_) e
  rcases h with ⟨xs, rfl⟩ | h
  · exact ld_tup (ld b (.inr w)) e
  · exact h (.inr w)
def WalkOk (C : Ct) (W : Ow) (H : Hp) (J : It) (I : DIt) : Prop := ∃ (Gh : Hp → Prop) (Y : Nat → Hp → V → Hp → Prop), Walk J I.n Gh Y ∧
  (∀ H', Kx (Nn C W) H H' → Gh H') ∧ (∀ N' H' k x H'', Kp (Nn C W) N' H H' → k < I.n → Y k H' x H'' → Same H' H'' ∧ ∃ d, I.item k d ∧ Fz N' H'' x d)
abbrev DI := DEnv → (DIt → DEnv → Prop) → Prop
def RfI (C : Ct) (wi : TI) (di : DI) : Prop := ∀ (W : Ow) (H : Hp) (σ : L2.St) (E : DEnv) (Q : It → Hp → Prop) (R : DIt → DEnv → Prop), Rep C W H σ E → di E R →
  (∀ J I H' E', Rep C W H' σ E' → Gr W H W H' → WalkOk C W H' J I → R I E' → Q J H') → wi σ H Q
def dRng1 (da : DA) : DI := fun E R => da E fun ds E1 => ∃ j : Int, ds = [.int j] ∧ -(2 ^ 62) ≤ j ∧ j < 2 ^ 62 ∧ R ⟨j.toNat, fun k d => d = .int (k : Int)⟩ E1
theorem ri_rng1 {ta : TA} {da : DA} (ha : RfA C ta da) : RfI C (iRng1 ta) (dRng1 da) := fun W H σ E Q R Re h k => ha W H σ E _ _ Re h fun vs ds H1 E1 R1 g1 f1 ⟨j, e, h1, h2, r⟩ => by
  subst e
  cases f1 with
  | cons f0 f1 =>
    cases f1
    cases f0
    refine ⟨j, rfl, h1, h2, k _ _ H1 E1 R1 g1 ⟨_, _, walk_range, fun _ _ => trivial, fun N' H' i x H'' kp hi y => ?_⟩ r⟩
    obtain ⟨rfl, rfl⟩ := y
    exact ⟨Same.refl _, .int (i : Int), rfl, by show Fz _ _ (V.int (0 + (i : Int))) _; rw [Int.zero_add]; exact .int _⟩
def dRng2 (da : DA) : DI := fun E R => da E fun ds E1 => ∃ i j : Int, ds = [.int i, .int j] ∧ (-(2 ^ 62) ≤ i ∧ i < 2 ^ 62 ∧ -(2 ^ 62) ≤ j ∧ j < 2 ^ 62) ∧ R ⟨(j - i).toNat, fun k d => d = .int (i + (k : Int))⟩ E1
theorem ri_rng2 {ta : TA} {da : DA} (ha : RfA C ta da) : RfI C (iRng2 ta) (dRng2 da) := fun W H σ E Q R Re h k => ha W H σ E _ _ Re h fun vs ds H1 E1 R1 g1 f1 ⟨i, j, e, h1, r⟩ => by
  subst e
  cases f1 with
  | cons f0 f1 =>
    cases f1 with
    | cons f2 f1 =>
    cases f1
    cases f0
    cases f2
    refine ⟨i, j, rfl, h1, k _ _ H1 E1 R1 g1 ⟨_, _, walk_range, fun _ _ => trivial, fun N' H' m x H'' kp hi y => ?_⟩ r⟩
    obtain ⟨rfl, rfl⟩ := y
    exact ⟨Same.refl _, .int _, rfl, .int _⟩
/-- over a list, a tuple that is not written -/
def dItL (da : DE) : DI := fun E R => da E fun d E1 => ∃ ds, d = .list ds ∧ R ⟨ds.length, fun k x => ds[k]? = some x⟩ E1
theorem ri_list {ta : TE} {da : DE} (ha : RfE C ta da) : RfI C (iList K ta) (dItL da) := fun W H σ E Q R Re h k => ha W H σ E _ _ Re h fun v d H1 E1 R1 g1 f1 ⟨ds, e, r⟩ => by
  subst e
  cases f1 with
  | @lst a xs _ hp np l =>
    have hl := l.len
    refine ⟨a, rfl, ⟨xs, .of hp⟩, k _ _ H1 E1 R1 g1 ⟨_, _, hl ▸ walk_list (xs := xs), fun H' g => SqL.of (g _ _ hp (.inr np)), fun N' H' m x H'' kp hm y => ?_⟩ r⟩
    obtain ⟨rfl, hx⟩ := y
    obtain ⟨d, hd, fd⟩ := (l.keep kp).at hx
    exact ⟨Same.refl _, d, hd, fd⟩
def dItT (da : DE) : DI := fun E R => da E fun d E1 => ∃ ds, d = .tuple ds ∧ R ⟨ds.length, fun k x => ds[k]? = some x⟩ E1
theorem ri_tup {ta : TE} {da : DE} (ha : RfE C ta da) : RfI C (iTup K ta) (dItT da) := fun W H σ E Q R Re h k => ha W H σ E _ _ Re h fun v d H1 E1 R1 g1 f1 ⟨ds, e, r⟩ => by
  subst e
  cases f1 with
  | @tup a xs _ hp l =>
    have hl := l.len
    refine ⟨a, rfl, ⟨xs, .of hp⟩, k _ _ H1 E1 R1 g1 ⟨_, _, hl ▸ walk_tup (xs := xs), fun H' g => .of (g _ _ hp (.inl ⟨_, rfl⟩)), fun N' H' m x H'' kp hm y => ?_⟩ r⟩
    obtain ⟨rfl, hx⟩ := y
    obtain ⟨d, hd, fd⟩ := (l.keep kp).at hx
    exact ⟨Same.refl _, d, hd, fd⟩
/-- reversed(a list) -/
def dItR (da : DA) : DI := fun E R => da E fun ds E1 => ∃ es, ds = [.list es] ∧ R ⟨es.length, fun k x => es[es.length - 1 - k]? = some x⟩ E1
theorem ri_rev {ta : TA} {da : DA} (ha : RfA C ta da) : RfI C (iRev K ta) (dItR da) := fun W H σ E Q R Re h k => ha W H σ E _ _ Re h fun vs ds H1 E1 R1 g1 f1 ⟨es, e, r⟩ => by
  subst e
  cases f1 with
  | cons f0 f1 =>
    cases f1
    cases f0 with
    | @lst a xs _ hp np l =>
      have hl := l.len
      have wk : Walk (Itv K a xs.length) es.length (fun H => SqL K H a xs) (fun i H x H' => H' = H ∧ xs[xs.length - 1 - i]? = some x) := by
        rw [← hl]
        exact walk_rev
      refine ⟨a, xs, rfl, .of hp, k _ _ H1 E1 R1 g1 ⟨_, _, wk, fun H' g => SqL.of (g _ _ hp (.inr np)), fun N' H' m x H'' kp hm y => ?_⟩ r⟩
      obtain ⟨rfl, hx⟩ := y
      rw [hl] at hx
      obtain ⟨d, hd, fd⟩ := (l.keep kp).at hx
      exact ⟨Same.refl _, d, hd, fd⟩
def dItS (da : DE) : DI := fun E R => da E fun d E1 => ∃ z, d = .str z ∧ R ⟨z.cps.size, fun k x => ∃ c, z.cps[k]? = some c ∧ x = .str ⟨#[c]⟩⟩ E1
theorem ri_str {ta : TE} {da : DE} (ha : RfE C ta da) : RfI C (iStr ta) (dItS da) := fun W H σ E Q R Re h k => ha W H σ E _ _ Re h fun v d H1 E1 R1 g1 f1 ⟨z, e, r⟩ => by
  subst e
  cases f1
  refine ⟨z, rfl, k _ _ H1 E1 R1 g1 ⟨_, _, walk_str, fun _ _ => trivial, fun N' H' m x H'' kp hm y => ?_⟩ r⟩
  obtain ⟨rfl, c, hc, rfl⟩ := y
  exact ⟨Same.refl _, _, ⟨c, hc, rfl⟩, .str _⟩
/-- the pairs of enumerate, zip -/
theorem pair_ok {N' : Ow} {H' H'' : Hp} {x : V} {k : Nat} {f g : Nat → Option V} {a b : Dat} {v w : V} (y : YPair f g k H' x H'') (hf : f k = some v) (hg : g k = some w) (fa : Fz N' H' v a) (fb : Fz N' H' w b) : Same H' H'' ∧ Fz N' H'' x (.tuple [a, b]) := by
  obtain ⟨T, x1, x2, rfl, hT, rfl, h1, h2⟩ := y
  rw [hf] at h1
  rw [hg] at h2
  cases h1
  cases h2
  have s := same_new (o := .tup [v, w]) hT
  exact ⟨s, .tup upd_same (.cons (fa.keep (Kp.same s)) (.cons (fb.keep (Kp.same s)) .nil))⟩
def dEnum (da : DA) : DI := fun E R => da E fun ds E1 => ∃ es, ds = [.list es] ∧ R ⟨es.length, fun k x => ∃ d, es[k]? = some d ∧ x = .tuple [.int (k : Int), d]⟩ E1
theorem ri_enum {ta : TA} {da : DA} (ha : RfA C ta da) : RfI C (iEnum K ta) (dEnum da) := fun W H σ E Q R Re h k => ha W H σ E _ _ Re h fun vs ds H1 E1 R1 g1 f1 ⟨es, e, r⟩ => by
  subst e
  cases f1 with
  | cons f0 f1 =>
    cases f1
    cases f0 with
    | @lst a xs _ hp np l =>
      have hl := l.len
      refine ⟨a, xs, rfl, .of hp, k _ _ H1 E1 R1 g1 ⟨_, _, hl ▸ walk_enum (xs := xs), fun H' g => SqL.of (g _ _ hp (.inr np)), fun N' H' m x H'' kp hm y => ?_⟩ r⟩
      obtain ⟨v, hv, fv⟩ := (l.keep kp).get (List.getElem?_eq_getElem hm)
      obtain ⟨s, fp⟩ := pair_ok y rfl hv (.int (m : Int)) fv
      exact ⟨s, _, ⟨_, List.getElem?_eq_getElem hm, rfl⟩, fp⟩
def dZip (da : DA) : DI := fun E R => da E fun ds E1 => ∃ as bs, ds = [.list as, .list bs] ∧ R ⟨min as.length bs.length, fun k x => ∃ a b, as[k]? = some a ∧ bs[k]? = some b ∧ x = .tuple [a, b]⟩ E1
theorem ri_zip {ta : TA} {da : DA} (ha : RfA C ta da) : RfI C (iZip K ta) (dZip da) := fun W H σ E Q R Re h k => ha W H σ E _ _ Re h fun vs ds H1 E1 R1 g1 f1 ⟨as, bs, e, r⟩ => by
  subst e
  cases f1 with
  | cons f0 f1 =>
    cases f1 with
    | cons f2 f1 =>
    cases f1
    cases f0 with
    | @lst a xs _ hp np l =>
      cases f2 with
      | @lst b ys _ hq nq l2 =>
      have hl := l.len
      have hl2 := l2.len
      refine ⟨a, b, xs, ys, rfl, .of hp, .of hq, k _ _ H1 E1 R1 g1 ⟨_, _, walk_zip (xs := xs) (ys := ys) (n := min as.length bs.length) (by rw [hl, hl2]), fun H' g => ⟨SqL.of (g _ _ hp (.inr np)), SqL.of (g _ _ hq (.inr nq))⟩, fun N' H' m x H'' kp hm y => ?_⟩ r⟩
      have hm1 : m < as.length := Nat.lt_of_lt_of_le hm (Nat.min_le_left _ _)
      have hm2 : m < bs.length := Nat.lt_of_lt_of_le hm (Nat.min_le_right _ _)
      obtain ⟨v, hv, fv⟩ := (l.keep kp).get (List.getElem?_eq_getElem hm1)
      obtain ⟨w, hw, fw⟩ := (l2.keep kp).get (List.getElem?_eq_getElem hm2)
      obtain ⟨s, fp⟩ := pair_ok y hv hw fv fw
      exact ⟨s, _, ⟨_, _, List.getElem?_eq_getElem hm1, List.getElem?_eq_getElem hm2, rfl⟩, fp⟩
def dFor (di : DI) (dg : DG) (db : DS) : DS := fun DD E => di E fun I E1 => ∃ Wd : Nat → DEnv → Prop, Wd 0 E1 ∧ (∀ k x E, k < I.n → I.item k x → Wd k E → dg x E fun E2 => db { DD with nx := Wd (k + 1), ct := Wd (k + 1), bk := DD.nx } E2) ∧ ∀ E, Wd I.n E → DD.nx E
theorem for_run {C : Ct} {g : TG} {tb : TS} {dg : DG} {db : DS} (hg : RfG C g dg) (hb : RfS C tb db) (n0 : ∀ b, C.N0 b → C.H0 b ≠ none) {W : Ow} {H1 : Hp} {σ : L2.St} {E1 : DEnv} {J : It} {I : DIt} {B : Ends} {DD : DEnds} (R1 : Rep C W H1 σ E1) (wo : WalkOk C W H1 J I)
    (hw : ∃ Wd : Nat → DEnv → Prop, Wd 0 E1 ∧ (∀ k x E, k < I.n → I.item k x → Wd k E → dg x E fun E2 => db { DD with nx := Wd (k + 1), ct := Wd (k + 1), bk := DD.nx } E2) ∧ ∀ E, Wd I.n E → DD.nx E) (c : Cn C W H1 DD B) :
    ∃ W : Nat → Nat → L2.St → Hp → Prop, (∃ m, W 0 m σ H1) ∧ ∀ i m σ H, W i m σ H → (J.stop i H ∧ B.nx σ H) ∨ (J.go i H ∧ ∃ N : L2.St → Hp → Prop, (∀ σ' H', N σ' H' → ∃ m', m' < m ∧ W (i + 1) m' σ' H') ∧ ∀ x H', J.yld i H x H' → g x σ H' fun σ2 H2 => tb { B with nx := N, ct := N, bk := B.nx } σ2 H2) := by
  obtain ⟨Gh, Y, wk, w1, w2⟩ := wo
  obtain ⟨Wd, h0, hs, hd⟩ := hw
  refine for_it wk (fun k σ' H' => ∃ W' E', Rep C W' H' σ' E' ∧ Gr W H1 W' H' ∧ Wd k E') ⟨W, E1, R1, Gr.refl W H1, h0⟩ (fun k σ' H' _ ⟨W', E', R', g', _⟩ => w1 H' (g'.kx R1.ld)) (fun k x σ' H' H'' hk ⟨W', E', R', g', hw⟩ y => ?_) (fun σ' H' ⟨W', E', R', g', hw⟩ => c.nx W' H' σ' E' R' g' (hd E' hw))
  obtain ⟨s, d, hd', fd⟩ := w2 _ H' k x H'' (g'.kp R1.ld) hk y
  have R2 := R'.same s
  have g2 := g'.trans (Gr.same s)
  refine hg W' H'' σ' E' x d _ _ R2 fd (hs k d E' hk hd' hw) fun W3 H3 σ3 E3 R3 g3 r3 => hb n0 W3 H3 σ3 E3 _ _ R3 r3 ⟨fun W4 H4 σ4 E4 R4 g4 n => ⟨W4, E4, R4, (g2.trans g3).trans g4, n⟩, fun W4 H4 σ4 E4 v d R4 g4 o n => c.rt W4 H4 σ4 E4 v d R4 ((g2.trans g3).trans g4) o n, fun W4 H4 σ4 E4 R4 g4 n => c.nx W4 H4 σ4 E4 R4 ((g2.trans g3).trans g4) n, fun W4 H4 σ4 E4 R4 g4 n => ⟨W4, E4, R4, (g2.trans g3).trans g4, n⟩⟩
theorem rf_for {wi : TI} {g : TG} {tb : TS} {di : DI} {dg : DG} {db : DS} (hi : RfI C wi di) (hg : RfG C g dg) (hb : RfS C tb db) : RfS C (tFor wi g tb) (dFor di dg db) := fun n0 W H σ E B DD R h c => hi W H σ E _ _ R h fun J I H1 E1 R1 g1 wo hw =>
  for_run hg hb n0 R1 wo hw (c.gr g1)
def dWhile (dt : DT) (db : DS) : DS := fun DD E => ∃ Wd : Nat → DEnv → Prop, (∃ m, Wd m E) ∧ ∀ m E, Wd m E → dt E fun b E1 => if b = true then db { DD with nx := fun E' => ∃ m', m' < m ∧ Wd m' E', ct := fun E' => ∃ m', m' < m ∧ Wd m' E', bk := DD.nx } E1 else DD.nx E1
theorem rf_while {tt : TT} {tb : TS} {dt : DT} {db : DS} (ht : RfT C tt dt) (hb : RfS C tb db) : RfS C (tWhile tt tb) (dWhile dt db) := fun n0 W H σ E B DD R ⟨Wd, ⟨m0, h0⟩, hs⟩ c => by
  refine ⟨fun m σ' H' => ∃ W' E', Rep C W' H' σ' E' ∧ Gr W H W' H' ∧ Wd m E', ⟨m0, W, E, R, Gr.refl W H, h0⟩, ?_⟩
  rintro m σ' H' ⟨W', E', R', g', hw⟩
  refine ht W' H' σ' E' _ _ R' (hs m E' hw) fun b H2 E2 R2 g2 r2 => ?_
  cases b with
  | true =>
    refine ⟨fun σ'' H'' => ∃ m', m' < m ∧ ∃ W' E', Rep C W' H'' σ'' E' ∧ Gr W H W' H'' ∧ Wd m' E', fun σ'' H'' h => h, ?_⟩
    exact hb n0 W' H2 σ' E2 _ _ R2 r2 ⟨fun W4 H4 σ4 E4 R4 g4 ⟨m', hm, n⟩ => ⟨m', hm, W4, E4, R4, (g'.trans g2).trans g4, n⟩, fun W4 H4 σ4 E4 v d R4 g4 o n => c.rt W4 H4 σ4 E4 v d R4 ((g'.trans g2).trans g4) o n, fun W4 H4 σ4 E4 R4 g4 n => c.nx W4 H4 σ4 E4 R4 ((g'.trans g2).trans g4) n, fun W4 H4 σ4 E4 R4 g4 ⟨m', hm, n⟩ => ⟨m', hm, W4, E4, R4, (g'.trans g2).trans g4, n⟩⟩
  | false => exact c.nx W' H2 σ' E2 R2 (g'.trans g2) r2
end
end Dl
namespace Dl
open PySem PySem.Spec PyProof.Rows L2 Ss
/-! ### comprehensions -/
def wipeE (E : DEnv) : List Nat → DEnv
  | [] => E
  | v :: vs => (wipeE E vs).set v none
theorem wipe_ne {σ : L2.St} {j : Nat} : ∀ {vs : List Nat}, j ∉ vs → (wipe σ vs)[j]? = σ[j]?
  | [], _ => rfl
  | v :: vs, h => by
    unfold wipe
    rw [List.getElem?_set_ne (fun z => h (by rw [z]; exact List.mem_cons_self))]
    exact wipe_ne fun z => h (List.mem_cons_of_mem _ z)
theorem wipe_out {σ : L2.St} {v : Nat} {x : Option V} : ∀ {vs : List Nat}, v ∉ vs → wipe (σ.set v x) vs = (wipe σ vs).set v x
  | [], _ => rfl
  | u :: vs, h => by
    unfold wipe
    rw [wipe_out fun z => h (List.mem_cons_of_mem _ z), List.set_comm]
    intro e
    exact h (by rw [e]; exact List.mem_cons_self)
theorem wipe_in {σ : L2.St} {v : Nat} {x : Option V} : ∀ {vs : List Nat}, v ∈ vs → wipe (σ.set v x) vs = wipe σ vs
  | u :: vs, h => by
    unfold wipe
    by_cases h2 : v ∈ vs
    · rw [wipe_in h2]
    · rcases List.mem_cons.mp h with rfl | h
      · rw [wipe_out h2, List.set_set]
      · exact absurd h h2
theorem Rep.wipe1 {C : Ct} {W : Ow} {H : Hp} {σ : L2.St} {E : DEnv} (R : Rep C W H σ E) (v : Nat) : Rep C W H (σ.set v none) (E.set v none) := by
  have key : ∀ {j : Nat} {e : Dat}, (E.set v none)[j]? = some (some e) → j ≠ v ∧ E[j]? = some (some e) ∧ (σ.set v none)[j]? = σ[j]? := fun {j e} h => by
    by_cases q : j = v
    · subst q
      have hl : j < E.length := by
        rw [← List.length_set (as := E) (i := j) (a := none)]
        exact (List.getElem?_eq_some_iff.mp h).1
      rw [List.getElem?_set_self hl] at h
      cases h
    · rw [List.getElem?_set_ne (fun z => q z.symm)] at h
      exact ⟨q, h, List.getElem?_set_ne (fun z => q z.symm)⟩
  refine ⟨R.out, R.w, R.ld, fun j e h => ?_, fun a b d1 d2 u oa ob n h1 h2 h3 => ?_, by rw [List.length_set, List.length_set]; exact R.len, R.gb⟩
  · obtain ⟨_, k1, k2⟩ := key h
    obtain ⟨u, h1, h2⟩ := R.slot j e k1
    exact ⟨u, k2.trans h1, h2⟩
  · obtain ⟨_, k1, k2⟩ := key h1
    obtain ⟨_, k3, k4⟩ := key h2
    rw [k2] at h3
    rw [k4]
    exact R.inj a b d1 d2 u oa ob n k1 k3 h3
theorem Rep.wipe {C : Ct} {W : Ow} {H : Hp} {σ : L2.St} {E : DEnv} (R : Rep C W H σ E) : ∀ vs : List Nat, Rep C W H (L2.wipe σ vs) (wipeE E vs)
  | [] => R
  | v :: vs => (R.wipe vs).wipe1 v
/-- no data in the block's own slots -/
def NoD (E : DEnv) (vs : List Nat) : Prop := ∀ v ∈ vs, ∀ d, E[v]? ≠ some (some d)
theorem nod_wipe {E : DEnv} : ∀ {vs : List Nat}, NoD (wipeE E vs) vs
  | [], v, h, _ => absurd h List.not_mem_nil
  | u :: vs, v, h, d => by
    unfold wipeE
    intro z
    by_cases q : v = u
    · subst q
      have hl : v < (wipeE E vs).length := by
        rw [← List.length_set (as := wipeE E vs) (i := v) (a := none)]
        exact (List.getElem?_eq_some_iff.mp z).1
      rw [List.getElem?_set_self hl] at z
      cases z
    · rw [List.getElem?_set_ne (fun e => q e.symm)] at z
      rcases List.mem_cons.mp h with e | h
      · exact q e
      · exact nod_wipe v h d z
theorem Rep.unwipe {C : Ct} {W : Ow} {H : Hp} {σ : L2.St} {E : DEnv} {vs : List Nat} (R : Rep C W H (L2.wipe σ vs) E) (n : NoD E vs) : Rep C W H σ E := by
  have key : ∀ {j : Nat} {e : Dat}, E[j]? = some (some e) → (L2.wipe σ vs)[j]? = σ[j]? := fun {j e} h => wipe_ne fun z => n j z e h
  refine ⟨R.out, R.w, R.ld, fun j e h => ?_, fun a b d1 d2 u oa ob n h1 h2 h3 => ?_, by rw [← R.len, wipe_length], R.gb⟩
  · obtain ⟨u, h1, h2⟩ := R.slot j e h
    exact ⟨u, (key h).symm.trans h1, h2⟩
  · rw [← key h1] at h3
    rw [← key h2]
    exact R.inj a b d1 d2 u oa ob n h1 h2 h3
/-- one more address that no data may hold -/
def Ct.more (C : Ct) (p : Addr) : Ct := { C with N0 := fun b => C.N0 b ∨ b = p, pn := fun b h => .inl (C.pn b h) }
theorem kp_more {C : Ct} {W : Ow} {H H' : Hp} {σ : L2.St} {E : DEnv} {p : Addr} (R : Rep C W H σ E) (g : Gr W H W H') (h : H p = none) : Kp (Nn C W) (Nn (C.more p) W) H H' := fun b o e n => by
  have k := g.kp R.ld b o e n
  refine ⟨k.1, fun m m' => ?_⟩
  rcases m' with (m' | rfl) | m'
  · exact m (.inl m')
  · rw [h] at e; cases e
  · exact m (.inr m')
theorem Rep.more {C : Ct} {W : Ow} {H H' : Hp} {σ : L2.St} {E : DEnv} {p : Addr} (R : Rep C W H σ E) (s : Same H H') (h : H p = none) (l : LD H' p) : Rep (C.more p) W H' σ E := by
  have R' := R.same s
  refine ⟨R'.out, R'.w, fun b n => ?_, fun i d e => ?_, R.inj, R.len, R'.gb⟩
  · rcases n with (n | rfl) | n
    · exact R'.ld b (.inl n)
    · exact l
    · exact R'.ld b (.inr n)
  · obtain ⟨v, h1, h2⟩ := R.slot i d e
    have k := kp_more R (Gr.same s) h
    refine ⟨v, h1, ?_⟩
    unfold SlotOk at *
    show if C.O i = true then _ else _
    split
    · next hh =>
      rw [if_pos hh] at h2
      obtain ⟨a, rfl, wa, oc, m⟩ := h2
      refine ⟨a, rfl, wa, ?_, m⟩
      rcases oc with ⟨xs, ds, e, ha, l⟩ | ⟨xs, ds, e, ha, l⟩
      · exact .inl ⟨xs, ds, e, s _ _ ha, l.keep k⟩
      · exact .inr ⟨xs, ds, e, s _ _ ha, l.keep k⟩
    · next hh =>
      rw [if_neg hh] at h2
      exact h2.keep k
/-- what stands at such an address is changed -/
theorem kp_put {N : Ow} {H : Hp} {p : Addr} {xs ys : List V} (np : N p) (h : H p = some (.lst xs)) : Kp N N H (upd H p (.lst ys)) := .ex fun b o e n => by
  have nb : b ≠ p := fun z => by
    subst z
    rcases n with ⟨zs, rfl⟩ | n
    · rw [h] at e; cases e
    · exact n np
  exact ⟨(upd_ne nb).trans e, id⟩
theorem Rep.putN {C : Ct} {W : Ow} {H : Hp} {σ : L2.St} {E : DEnv} {p : Addr} {xs ys : List V} (R : Rep C W H σ E) (n0 : C.N0 p) (nw : ¬ W p) (h0 : C.H0 p = none) (hb : C.Hb p = none) (h : H p = some (.lst xs)) : Rep C W (upd H p (.lst ys)) σ E := by
  have k := kp_put (ys := ys) (N := Nn C W) (.inl n0) h
  refine ⟨fun b o np e => ?_, R.w, fun b n => ?_, fun i d e => ?_, R.inj, R.len, ⟨fun b o w e => (upd_ne (ne_of_none e hb)).trans (R.gb.st b o w e), fun b n => th_upd b (R.gb.th b n), R.gb.nw⟩⟩
  · have nb : b ≠ p := fun z => by
      subst z
      rw [h0] at e; cases e
    rw [upd_ne nb]
    exact R.out b o np e
  · by_cases q : b = p
    · subst q
      exact .inl ⟨ys, upd_same⟩
    · rcases R.ld b n with ⟨zs, z⟩ | ⟨zs, z⟩
      · exact .inl ⟨zs, (upd_ne q).trans z⟩
      · exact .inr ⟨zs, (upd_ne q).trans z⟩
  · obtain ⟨v, h1, h2⟩ := R.slot i d e
    refine ⟨v, h1, ?_⟩
    unfold SlotOk at *
    split
    · next hh =>
      rw [if_pos hh] at h2
      obtain ⟨a, rfl, wa, oc, m⟩ := h2
      have na : a ≠ p := fun z => nw (z ▸ wa)
      exact ⟨a, rfl, wa, oc.keep k (upd_ne na), m⟩
    · next hh =>
      rw [if_neg hh] at h2
      exact h2.keep k
def RfGc (C : Ct) (vs : List Nat) (g : TG) (dg : DG) : Prop := ∀ (W : Ow) (H : Hp) (σ : L2.St) (E : DEnv) (v : V) (d : Dat) (Q : L2.St → Hp → Prop) (R : DEnv → Prop), Rep C W H σ E → Fz (Nn C W) H v d → dg d E R → (∀ σ' E', Rep C W H σ' E' → wipe σ' vs = wipe σ vs → R E' → Q σ' H) → g v σ H Q
def RfGcs (C : Ct) (vs : List Nat) (g : TGs) (dg : DGs) : Prop := ∀ (W : Ow) (H : Hp) (σ : L2.St) (E : DEnv) (us : List V) (ds : List Dat) (Q : L2.St → Hp → Prop) (R : DEnv → Prop), Rep C W H σ E → FzL (Nn C W) H us ds → dg ds E R → (∀ σ' E', Rep C W H σ' E' → wipe σ' vs = wipe σ vs → R E' → Q σ' H) → g us σ H Q
section
variable {C : Ct} {K : PySem.W.Frag} {vs : List Nat}
theorem gc_name {i : Nat} (hO : C.O i = false) (hm : i ∈ vs) : RfGc C vs (gName i) (dgName i) := fun W H σ E v d Q R Re f r k => k _ _ (Re.set hO f) (wipe_in hm) r
theorem gc_nil : RfGcs C vs gNil dgNil := fun W H σ E us ds Q R Re f ⟨e, r⟩ k => by
  subst e
  cases f
  exact ⟨rfl, k σ E Re rfl r⟩
theorem gc_cons {g : TG} {u : TGs} {dg : DG} {dr : DGs} (hg : RfGc C vs g dg) (hu : RfGcs C vs u dr) : RfGcs C vs (gCons g u) (dgCons dg dr) := fun W H σ E us ds Q R Re f ⟨d, r, e, h⟩ k => by
  subst e
  cases f with
  | cons f0 fl => exact ⟨_, _, rfl, hg W H σ E _ _ _ _ Re f0 h fun σ1 E1 R1 e1 r1 => hu W H σ1 E1 _ _ _ _ R1 fl r1 fun σ2 E2 R2 e2 r2 => k σ2 E2 R2 (e2.trans e1) r2⟩
theorem gc_tup {n : Nat} {u : TGs} {dr : DGs} (hu : RfGcs C vs u dr) : RfGc C vs (gTup K n u) (dgTup n dr) := fun W H σ E v d Q R Re f ⟨ds, e, hl, h⟩ k => by
  subst e
  obtain ⟨a, xs, rfl, ha, l⟩ := Ft.tup (.inl f)
  exact ⟨a, xs, rfl, .of ha, by rw [l.len]; exact hl, hu W H σ E _ _ _ _ Re l h k⟩
def dYes : DT := fun E R => R true E
theorem rf_yes : RfT C tYes dYes := fun W H σ E Q R Re r k => k true H E Re (Gr.refl W H) r
def dLc (vs : List Nat) (di : DI) (dg : DG) (dt : DT) (de : DE) : DE := fun E R => di E fun I E1 => ∃ Wd : Nat → List Dat → DEnv → Prop, Wd 0 [] (wipeE E1 vs) ∧
  (∀ k x acc E, k < I.n → I.item k x → Wd k acc E → dg x E fun E2 => dt E2 fun b E3 => if b = true then de E3 fun y E4 => acc.length < sizeLine ∧ Wd (k + 1) (acc ++ [y]) (wipeE E4 vs) else Wd (k + 1) acc (wipeE E3 vs)) ∧ ∀ acc E, Wd I.n acc E → R (.list acc) E
end
theorem wipe_sub {σ : L2.St} {vs : List Nat} : ∀ {ws : List Nat}, (∀ w ∈ ws, w ∈ vs) → wipe (wipe σ ws) vs = wipe σ vs
  | [], _ => rfl
  | w :: ws, h => by
    show wipe ((wipe σ ws).set w none) vs = _
    rw [wipe_in (h w List.mem_cons_self), wipe_sub fun u hu => h u (List.mem_cons_of_mem _ hu)]
theorem wipe_wipe {σ : L2.St} {vs : List Nat} : wipe (wipe σ vs) vs = wipe σ vs := wipe_sub fun _ h => h
theorem gr_new {W : Ow} {H H1 H5 : Hp} {p : Addr} {o : HO} (g : Gr W H W H1) (g5 : Gr W H1 W H5) (np : H p = none) : Gr W H W (upd H5 p o) := by
  refine ⟨fun b u n e => ?_, fun b n => th_upd b ((g.trans g5).th b n), fun _ w => .inl w⟩
  rw [upd_ne (ne_of_none e np)]
  exact (g.trans g5).st b u n e
theorem lc_run {S : Sx} {dy : Dy} {vs : List Nat} {g : TG} {tt : TT} {te : TE} {dg : DG} {dt : DT} {de : DE} (hg : ∀ dy, RfGc ⟨dy, S⟩ vs g dg) (ht : ∀ dy, RfT ⟨dy, S⟩ tt dt) (he : ∀ dy, RfE ⟨dy, S⟩ te de) {W : Ow} {H1 : Hp} {σ : L2.St} {E1 : DEnv} {J : It} {I : DIt} {Q : VK} {R : Dat → DEnv → Prop} (R1 : Rep ⟨dy, S⟩ W H1 σ E1) (wo : WalkOk ⟨dy, S⟩ W H1 J I)
    (hw : ∃ Wd : Nat → List Dat → DEnv → Prop, Wd 0 [] (wipeE E1 vs) ∧ (∀ k x acc E, k < I.n → I.item k x → Wd k acc E → dg x E fun E2 => dt E2 fun b E3 => if b = true then de E3 fun y E4 => acc.length < sizeLine ∧ Wd (k + 1) (acc ++ [y]) (wipeE E4 vs) else Wd (k + 1) acc (wipeE E3 vs)) ∧ ∀ acc E, Wd I.n acc E → R (.list acc) E)
    (k : ∀ p d H' E', Rep ⟨dy, S⟩ (And1 W p) H' σ E' → Gr W H1 W H' → H1 p = none → OwnC (Nn ⟨dy, S⟩ (And1 W p)) H' p d → (∀ j e, S.O j = true → E'[j]? = some (some e) → σ[j]? ≠ some (some (.ref p))) → R d E' → Q (.ref p) H') :
    ∀ D, H1 D = none → ∃ W : Nat → Nat → Hp → Prop, (∃ m, W 0 m (upd H1 D (.lst []))) ∧ ∀ i m H, W i m H →
      (J.stop i H ∧ Q (.ref D) H) ∨ (J.go i H ∧ ∃ Nx : Hp → Prop, (∀ H', Nx H' → ∃ m', m' < m ∧ W (i + 1) m' H') ∧ ∀ x H', J.yld i H x H' → g x (wipe σ vs) H' fun σ2 H2 => wipe σ2 vs = wipe σ vs ∧ tt σ2 H2 fun b H3 =>
        if b = true then te σ2 H3 fun y H4 => ∃ acc, H4 D = some (.lst acc) ∧ acc.length < sizeLine ∧ Nx (upd H4 D (.lst (acc ++ [y]))) else Nx H3) := by
  obtain ⟨Gh, Y, wk, w1, w2⟩ := wo
  obtain ⟨Wd, h0, hs, hd⟩ := hw
  intro p np
  have fr := R1.free0 np
  have fb := R1.freeb np
  have nwp : ¬ W p := fun w => fr.2 (.inr w)
  refine lc_it wk (fun i H' => ∃ E' acc xs, Rep (Ct.more ⟨dy, S⟩ p) W H' (wipe σ vs) E' ∧ Gr W H1 W H' ∧ H' p = some (.lst xs) ∧ FzL (Nn (Ct.more ⟨dy, S⟩ p) W) H' xs acc ∧ NoD E' vs ∧ Wd i acc E')
    ⟨_, [], [], (R1.more (same_new np) np (.inl ⟨[], upd_same⟩)).wipe vs, Gr.same (same_new np), upd_same, .nil, nod_wipe, h0⟩ (fun i H' _ ⟨E', acc, xs, R', g', _⟩ => w1 H' (g'.kx R1.ld)) (fun i x H' H'' hi ⟨E', acc, xs, R', g', hp, la, nd, hw⟩ y => ?_) (fun H' ⟨E', acc, xs, R', g', hp, la, nd, hw⟩ => ?_)
  · obtain ⟨s, d, hd', fd⟩ := w2 _ H' i x H'' (kp_more R1 g' np) hi y
    have R2 := R'.same s
    have la2 := la.keep (Kp.same s)
    have gs := Gr.same (W := W) s
    refine hg _ W H'' _ E' x d _ _ R2 fd (hs i d acc E' hi hd' hw) fun σ3 E3 R3 e3 r3 => ⟨e3.trans wipe_wipe, ht _ W H'' σ3 E3 _ _ R3 r3 fun b H4 E4 R4 g4 r4 => ?_⟩
    have e3' := e3.trans wipe_wipe
    have hp4 := g4.st p _ nwp (s _ _ hp)
    have la4 := la2.gr R3 g4
    cases b with
    | true =>
      refine he _ W H4 σ3 E4 _ _ R4 r4 fun v d2 H5 E5 R5 g5 f5 ⟨hl, r5⟩ => ?_
      have hp5 := g5.st p _ nwp hp4
      have la5 := (la4.gr R4 g5).app (.cons f5 .nil)
      refine ⟨xs, hp5, by rw [la.len]; exact hl, _, acc ++ [d2], xs ++ [v], ?_, gr_new g' ((gs.trans g4).trans g5) np, upd_same, la5.keep (kp_put (.inl (.inr rfl)) hp5), nod_wipe, r5⟩
      have := (R5.wipe vs).putN (ys := xs ++ [v]) (.inr rfl) nwp fr.1 fb hp5
      rw [e3'] at this
      exact this
    | false =>
      refine ⟨_, acc, xs, ?_, (g'.trans gs).trans g4, hp4, la4, nod_wipe, r4⟩
      have := R4.wipe vs
      rw [e3'] at this
      exact this
  · have sub : ∀ b, Nn ⟨dy, S⟩ (And1 W p) b → Nn (Ct.more ⟨dy, S⟩ p) W b := fun b n => by
      rcases n with n | n | n
      · exact .inl (.inl n)
      · exact .inr n
      · exact .inl (.inr n)
    have R2 := R'.unwipe nd
    refine k p (.list acc) H' E' ⟨R2.out, fun b w => ?_, fun b n => R2.ld b (sub b n), fun j e hj => ?_, R2.inj, R2.len, ⟨R2.gb.st, R2.gb.th, fun b w => by
      rcases w with w | rfl
      · exact R2.gb.nw b w
      · exact .inr fb⟩⟩ g' np (.inl ⟨xs, acc, rfl, hp, la.keep (Kp.sub sub)⟩) (fun j e oj hj z => ?_) (hd acc E' hw)
    · rcases w with w | rfl
      · exact R2.w b w
      · exact .inr fr.1
    · obtain ⟨v, h1, h2⟩ := R2.slot j e hj
      refine ⟨v, h1, ?_⟩
      unfold SlotOk at *
      split
      · next hh =>
        rw [if_pos (show (Ct.more ⟨dy, S⟩ p).O j = true from hh)] at h2
        obtain ⟨a, rfl, wa, oc, m⟩ := h2
        exact ⟨a, rfl, .inl wa, oc.keep (Kp.sub sub) rfl, m⟩
      · next hh =>
        rw [if_neg (show ¬ (Ct.more ⟨dy, S⟩ p).O j = true from hh)] at h2
        exact h2.keep (Kp.sub sub)
    · obtain ⟨a, h1, wa, _⟩ := R2.own oj hj
      rw [z] at h1
      cases h1
      exact nwp wa
theorem rf_lc {S : Sx} {dy : Dy} {vs : List Nat} {wi : TI} {g : TG} {tt : TT} {te : TE} {di : DI} {dg : DG} {dt : DT} {de : DE} (hi : RfI ⟨dy, S⟩ wi di) (hg : ∀ dy, RfGc ⟨dy, S⟩ vs g dg) (ht : ∀ dy, RfT ⟨dy, S⟩ tt dt) (he : ∀ dy, RfE ⟨dy, S⟩ te de) : RfF ⟨dy, S⟩ (tLc wi g tt te vs) (dLc vs di dg dt de) := fun W H σ E Q R Re h k => hi W H σ E _ _ Re h fun J I H1 E1 R1 g1 wo hw =>
  lc_run hg ht he R1 wo hw fun p d H' E' R' g' np o av r => k p d H' E' R' (g1.trans g') (by
    cases e : H p with
    | none => rfl
    | some o =>
      by_cases w : W p
      · exact absurd np (ld_some (R1.ld p (.inr w)))
      · rw [g1.st p o w e] at np; cases np) o av r
end Dl
namespace Dl
open PySem PySem.Spec PyProof.Rows L2 Ss
/-! ### dicts -/
def valD : List (Key × Dat) → Key → Option Dat
  | [], _ => none
  | (j, d) :: r, k => if j = k then some d else valD r k
def putD (m : List (Key × Dat)) (k : Key) (d : Dat) : List (Key × Dat) := if (valD m k).isSome = true then m.map (fun p => if p.1 = k then (p.1, d) else p) else m ++ [(k, d)]
theorem FzK.val {N : Ow} {H : Hp} {k : Key} : ∀ {kvs : List (Key × V)} {m : List (Key × Dat)}, FzK N H kvs m → (valV kvs k = none ∧ valD m k = none) ∨ ∃ v d, valV kvs k = some v ∧ valD m k = some d ∧ Fz N H v d
  | _, _, .nil => .inl ⟨rfl, rfl⟩
  | _, _, .cons (k := j) (vs := r) (ds := s) a l => by
    by_cases e : j = k
    · subst e
      exact .inr ⟨_, _, valV_pos rfl, by unfold valD; rw [if_pos rfl], a⟩
    · have h1 : ∀ v : V, valV ((j, v) :: r) k = valV r k := fun v => valV_neg e
      have h2 : ∀ d : Dat, valD ((j, d) :: s) k = valD s k := fun d => by
        show (if j = k then _ else _) = _
        rw [if_neg e]
      rw [h1, h2]
      exact FzK.val l
theorem FzK.app {N : Ow} {H : Hp} : ∀ {a b : List (Key × V)} {c d : List (Key × Dat)}, FzK N H a c → FzK N H b d → FzK N H (a ++ b) (c ++ d)
  | _, _, _, _, .nil, h => h
  | _, _, _, _, .cons a l, h => .cons a (l.app h)
theorem FzK.upd {N : Ow} {H : Hp} {k : Key} {v : V} {d : Dat} (f : Fz N H v d) : ∀ {kvs : List (Key × V)} {m : List (Key × Dat)}, FzK N H kvs m → FzK N H (kvs.map fun kv => if kv.1 = k then (kv.1, v) else kv) (m.map fun p => if p.1 = k then (p.1, d) else p)
  | _, _, .nil => .nil
  | _, _, .cons (k := j) a l => by
    rw [List.map_cons, List.map_cons]
    by_cases e : j = k
    · rw [if_pos (show (j, _).1 = k from e), if_pos (show (j, _).1 = k from e)]
      exact .cons f (FzK.upd f l)
    · rw [if_neg (show ¬ (j, _).1 = k from e), if_neg (show ¬ (j, _).1 = k from e)]
      exact .cons a (FzK.upd f l)
theorem FzK.put {N : Ow} {H : Hp} {kvs : List (Key × V)} {m : List (Key × Dat)} {k : Key} {v : V} {d : Dat} (l : FzK N H kvs m) (f : Fz N H v d) : FzK N H (putK kvs k v) (putD m k d) := by
  unfold putK putD
  rw [valV_any]
  rcases l.val (k := k) with ⟨h1, h2⟩ | ⟨_, _, h1, h2, _⟩
  · rw [h1, h2]
    rw [if_neg (by decide), if_neg (by decide)]
    exact l.app (.cons f .nil)
  · rw [h1, h2]
    exact FzK.upd f l
theorem FzK.keys {N : Ow} {H : Hp} : ∀ {kvs : List (Key × V)} {m : List (Key × Dat)}, FzK N H kvs m → FzL N H (kvs.map fun kv => kV kv.1) (m.map fun p => kD p.1)
  | _, _, .nil => .nil
  | _, _, .cons (k := j) a l => .cons (by cases j <;> first | exact .int _ | exact .str _) l.keys
theorem kV_fz {N : Ow} {H : Hp} {v : V} {k : Key} (f : Fz N H v (kD k)) : v = kV k := by
  cases k with
  | inl i => cases f; rfl
  | inr x => cases f; rfl
theorem OwnC.dic {N : Ow} {H : Hp} {a : Addr} {m : List (Key × Dat)} (o : OwnC N H a (dicD m)) : ∃ kvs, H a = some (.dK kvs) ∧ FzK N H kvs m := by
  rcases o with ⟨xs, ds, e, _⟩ | ⟨kvs, ds, e, ha, l⟩
  · cases e
  · have := dicD_inj e
    subst this
    exact ⟨kvs, ha, l⟩
section
variable {C : Ct} {K : PySem.W.Frag}
def dDIn (dy dd : DE) : DE := fun E R => dy E fun y E1 => dd E1 fun x E2 => ∃ k m, y = kD k ∧ x = dicD m ∧ R (.bool (valD m k).isSome) E2
theorem din_ok {N : Ow} {H : Hp} {v : V} {m : List (Key × Dat)} {k : Key} (f : Ft N H v (dicD m)) : ∃ a o, v = .ref a ∧ DGet H a (kV k) o ∧ o.isSome = (valD m k).isSome := by
  obtain ⟨a, kvs, rfl, ha, l⟩ := f.dic
  refine ⟨a, _, rfl, .inl ⟨kvs, k, ha, rfl, rfl⟩, ?_⟩
  rcases l.val (k := k) with ⟨h1, h2⟩ | ⟨_, _, h1, h2, _⟩ <;> rw [h1, h2] <;> rfl
theorem rf_din {ty td : TE} {dy dd : DE} (hy : RfE C ty dy) (hd : RfE C td dd) : RfE C (tDIn ty td) (dDIn dy dd) := fun W H σ E Q R Re r k =>
  hy W H σ E _ _ Re r fun y ky H1 E1 R1 g1 f1 r1 => hd W H1 σ E1 _ _ R1 r1 fun x dx H2 E2 R2 g2 f2 ⟨kk, m, e1, e2, r2⟩ => by
    subst e1; subst e2
    obtain rfl := kV_fz f1
    obtain ⟨a, o, rfl, g, e⟩ := din_ok (k := kk) (.inl f2)
    exact ⟨a, o, rfl, g, k _ _ H2 E2 R2 (g1.trans g2) (.bl _) (by rw [e]; exact r2)⟩
def dDInV (dy : DE) (i : Nat) : DE := fun E R => dy E fun y E1 => ∃ k m, y = kD k ∧ E1[i]? = some (some (dicD m)) ∧ R (.bool (valD m k).isSome) E1
theorem rf_dinV {ty : TE} {dy : DE} {i : Nat} (hO : C.O i = true) (hy : RfE C ty dy) : RfE C (tDIn ty (tVar i)) (dDInV dy i) := fun W H σ E Q R Re r k =>
  hy W H σ E _ _ Re r fun y ky H1 E1 R1 g1 f1 ⟨kk, m, e1, e2, r2⟩ => by
    subst e1
    obtain rfl := kV_fz f1
    obtain ⟨c, h1, _⟩ := R1.own hO e2
    obtain ⟨a, o, ea, g, e⟩ := din_ok (k := kk) (R1.ft hO e2 h1)
    exact ⟨.ref c, h1, a, o, ea, g, k _ _ H1 E1 R1 g1 (.bl _) (by rw [e]; exact r2)⟩
def dDNotIn (dy dd : DE) : DE := fun E R => dy E fun y E1 => dd E1 fun x E2 => ∃ k m, y = kD k ∧ x = dicD m ∧ R (.bool (!(valD m k).isSome)) E2
theorem rf_dnotin {ty td : TE} {dy dd : DE} (hy : RfE C ty dy) (hd : RfE C td dd) : RfE C (tDNotIn ty td) (dDNotIn dy dd) := fun W H σ E Q R Re r k =>
  hy W H σ E _ _ Re r fun y ky H1 E1 R1 g1 f1 r1 => hd W H1 σ E1 _ _ R1 r1 fun x dx H2 E2 R2 g2 f2 ⟨kk, m, e1, e2, r2⟩ => by
    subst e1; subst e2
    obtain rfl := kV_fz f1
    obtain ⟨a, o, rfl, g, e⟩ := din_ok (k := kk) (.inl f2)
    exact ⟨a, o, rfl, g, k _ _ H2 E2 R2 (g1.trans g2) (.bl _) (by rw [e]; exact r2)⟩
def dDNotInV (dy : DE) (i : Nat) : DE := fun E R => dy E fun y E1 => ∃ k m, y = kD k ∧ E1[i]? = some (some (dicD m)) ∧ R (.bool (!(valD m k).isSome)) E1
theorem rf_dnotinV {ty : TE} {dy : DE} {i : Nat} (hO : C.O i = true) (hy : RfE C ty dy) : RfE C (tDNotIn ty (tVar i)) (dDNotInV dy i) := fun W H σ E Q R Re r k =>
  hy W H σ E _ _ Re r fun y ky H1 E1 R1 g1 f1 ⟨kk, m, e1, e2, r2⟩ => by
    subst e1
    obtain rfl := kV_fz f1
    obtain ⟨c, h1, _⟩ := R1.own hO e2
    obtain ⟨a, o, ea, g, e⟩ := din_ok (k := kk) (R1.ft hO e2 h1)
    exact ⟨.ref c, h1, a, o, ea, g, k _ _ H1 E1 R1 g1 (.bl _) (by rw [e]; exact r2)⟩
/-- d[k] -/
def dDGet (dd dy : DE) : DE := fun E R => dd E fun x E1 => dy E1 fun y E2 => ∃ k m d, y = kD k ∧ x = dicD m ∧ valD m k = some d ∧ R d E2
theorem dget_ok {N : Ow} {H : Hp} {v : V} {m : List (Key × Dat)} {k : Key} {d : Dat} (f : Ft N H v (dicD m)) (h : valD m k = some d) : ∃ a w, v = .ref a ∧ DGet H a (kV k) (some w) ∧ Fz N H w d := by
  obtain ⟨a, kvs, rfl, ha, l⟩ := f.dic
  rcases l.val (k := k) with ⟨h1, h2⟩ | ⟨w, e, h1, h2, fw⟩
  · rw [h] at h2; cases h2
  · rw [h] at h2
    cases h2
    exact ⟨a, w, rfl, .inl ⟨kvs, k, ha, rfl, h1.symm⟩, fw⟩
theorem rf_dget {ty td : TE} {dy dd : DE} (hd : RfE C td dd) (hy : RfE C ty dy) : RfE C (tDGet td ty) (dDGet dd dy) := fun W H σ E Q R Re r k =>
  hd W H σ E _ _ Re r fun x dx H1 E1 R1 g1 f1 r1 => hy W H1 σ E1 _ _ R1 r1 fun y ky H2 E2 R2 g2 f2 ⟨kk, m, d, e1, e2, hv, r2⟩ => by
    subst e1; subst e2
    obtain rfl := kV_fz f2
    obtain ⟨a, w, rfl, g, fw⟩ := dget_ok (.inl (f1.gr R1 g2)) hv
    exact ⟨a, w, rfl, g, k w d H2 E2 R2 (g1.trans g2) fw r2⟩
def dDGetV (i : Nat) (dy : DE) : DE := fun E R => (∃ x, E[i]? = some (some x)) ∧ dy E fun y E1 => ∃ k m d, y = kD k ∧ E1[i]? = some (some (dicD m)) ∧ valD m k = some d ∧ R d E1
theorem rf_dgetV {ty : TE} {dy : DE} {i : Nat} (hO : C.O i = true) (hy : RfE C ty dy) : RfE C (tDGet (tVar i) ty) (dDGetV i dy) := fun W H σ E Q R Re ⟨⟨x, hx⟩, r⟩ k => by
  obtain ⟨c, h1, _⟩ := Re.own hO hx
  refine ⟨.ref c, h1, hy W H σ E _ _ Re r fun y ky H2 E2 R2 g2 f2 ⟨kk, m, d, e1, e2, hv, r2⟩ => ?_⟩
  subst e1
  obtain rfl := kV_fz f2
  obtain ⟨a, w, ea, g, fw⟩ := dget_ok (R2.ft hO e2 h1) hv
  exact ⟨a, w, ea, g, k w d H2 E2 R2 g2 fw r2⟩
/-- d.get(k, x) -/
def dDGet2 (dd dy dx : DE) : DE := fun E R => dd E fun x E1 => ∃ m0, x = dicD m0 ∧ dy E1 fun y E2 => dx E2 fun z E3 => ∃ k, y = kD k ∧ R ((valD m0 k).getD z) E3
theorem rf_dget2 {ty td tx : TE} {dy dd dx : DE} (hd : RfE C td dd) (hy : RfE C ty dy) (hx : RfE C tx dx) : RfE C (tDGet2 td ty tx) (dDGet2 dd dy dx) := fun W H σ E Q R Re r k =>
  hd W H σ E _ _ Re r fun x dx0 H1 E1 R1 g1 f1 ⟨m, e2, r1⟩ => by
    subst e2
    obtain ⟨a, kvs, rfl, ha, _⟩ := Ft.dic (.inl f1)
    refine ⟨a, rfl, .inl ⟨kvs, ha⟩, hy W H1 σ E1 _ _ R1 r1 fun y ky H2 E2 R2 g2 f2 r2 => hx W H2 σ E2 _ _ R2 r2 fun z dz H3 E3 R3 g3 f3 ⟨kk, e1, r3⟩ => ?_⟩
    subst e1
    obtain rfl := kV_fz f2
    obtain ⟨b, kvs2, eb, hb, l⟩ := Ft.dic (.inl ((f1.gr R1 g2).gr R2 g3))
    cases eb
    refine ⟨_, .inl ⟨_, kk, hb, rfl, rfl⟩, ?_⟩
    rcases l.val (k := kk) with ⟨h1, h2⟩ | ⟨w, e, h1, h2, fw⟩
    · rw [h1]
      rw [h2] at r3
      exact k _ _ H3 E3 R3 ((g1.trans g2).trans g3) f3 r3
    · rw [h1]
      rw [h2] at r3
      exact k _ _ H3 E3 R3 ((g1.trans g2).trans g3) fw r3
/-- d[k] = v, d a written dict -/
def dDPut (i : Nat) (dy dv : DE) : DS := fun DD E => dv E fun v E1 => (∃ x, E1[i]? = some (some x)) ∧ dy E1 fun y E2 => ∃ k m, y = kD k ∧ E2[i]? = some (some (dicD m)) ∧ m.length < sizeLine ∧ DD.nx (E2.set i (some (dicD (putD m k v))))
theorem rf_dput {ty tv : TE} {dy dv : DE} {i : Nat} (hO : C.O i = true) (hy : RfE C ty dy) (hv : RfE C tv dv) : RfS C (sDPut (tVar i) ty tv) (dDPut i dy dv) := fun _ W H σ E B DD R h c =>
  hv W H σ E _ _ R h fun v d H1 E1 R1 g1 f1 ⟨⟨x, hx⟩, r1⟩ => by
    obtain ⟨a, h1, _⟩ := R1.own hO hx
    refine ⟨.ref a, h1, hy W H1 σ E1 _ _ R1 r1 fun y ky H2 E2 R2 g2 f2 ⟨kk, m, e1, e2, hl, n⟩ => ?_⟩
    subst e1
    obtain rfl := kV_fz f2
    obtain ⟨b, h3, wb, o, mo⟩ := R2.own hO e2
    rw [h1] at h3
    cases h3
    obtain ⟨kvs, hb, l⟩ := o.dic
    refine ⟨a, _, rfl, .k hb (by rw [l.len]; exact hl), ?_⟩
    have g3 : Gr W H2 W (upd H2 a (.dK (putK kvs kk v))) := gr_put wb
    have l2 := (l.put (k := kk) (f1.gr R1 g2)).keep (g3.kp R2.ld)
    obtain ⟨R3, _⟩ := R2.put (d' := dicD (putD m kk d)) hO e2 h1 wb mo (fun b nb o e => (upd_ne nb).trans e) (.inr ⟨_, _, rfl, upd_same, l2⟩)
    exact c.nx W _ σ _ R3 ((g1.trans g2).trans g3) n
end
/-- list(..) of a list, a tuple, a dict -/
def rListU (K : PySem.W.Frag) : List V → Hp → VK → Prop := fun xs H Q => (∃ p ys, xs = [.ref p] ∧ (SqL K H p ys ∨ SqT K H p ys) ∧ ∀ l, H l = none → Q (.ref l) (upd H l (.lst ys))) ∨
  ∃ (a : Addr) (kvs : List (Key × V)), xs = [.ref a] ∧ Rd H a (.dK kvs) ∧ ∀ p, H p = none → Q (.ref p) (upd H p (.lst (kvs.map fun kv => kV kv.1)))
theorem call_listU {X : Cx} (hc : X.calm = true) : CallR X (.type "list") (rListU X.K) := fun pins s σ H xs us Q I r h => by
  rcases h with h | h
  · exact call_list_of pins s σ H xs us Q I r h
  · exact call_listD hc pins s σ H xs us Q I r h
def oListU : List Dat → (Dat → Prop) → Prop := fun ds R => (∃ xs, (ds = [.list xs] ∨ ds = [.tuple xs]) ∧ R (.list xs)) ∨ ∃ m, ds = [dicD m] ∧ R (.list (m.map fun p => kD p.1))
theorem rfb_listU {K : PySem.W.Frag} : RfBF (rListU K) oListU := fun N H xs ds Q R hx h k => by
  rcases h with h | ⟨m, e, r⟩
  · exact .inl (rfb_list N H xs ds Q R hx h k)
  · subst e
    obtain ⟨v, rfl, f⟩ := p1 hx
    obtain ⟨a, kvs, rfl, ha, l⟩ := f.dic
    exact .inr ⟨a, kvs, rfl, ha, fun p np => k p _ _ _ (same_new np) np upd_same l.keys r⟩
/-! ### calls of defs -/
abbrev DSp := List Dat → (Dat → Dat → Prop) → Prop
def ArgsOk (m : Option Nat) (N0 P : Ow) (H : Hp) (vs : List V) (ds : List Dat) : Prop := vs.length = ds.length ∧ (∀ i v d, vs[i]? = some v → ds[i]? = some d → if m = some i then ∃ a, v = .ref a ∧ P a ∧ OwnC N0 H a d else Fz N0 H v d) ∧ ∀ b, P b → ∃ j, m = some j ∧ vs[j]? = some (.ref b)
def Nr (fr : Bool) (N0 : Ow) (v : V) : Ow := fun b => N0 b ∨ (fr = true ∧ v = .ref b)
/-- the promise of a def over data: m the place of the argument that it writes, fr: its answer is a new list or dict -/
def spOf (n : Nat) (m : Option Nat) (fr : Bool) (sp : DSp) : Sp := fun vs H Q _ => vs.length = n ∧ ∃ (ds : List Dat) (N0 P : Ow), (∀ b, N0 b → LD H b) ∧ (∀ b, P b → N0 b) ∧ ArgsOk m N0 P H vs ds ∧
  ∃ Qd : Dat → Dat → Prop, sp ds Qd ∧ ∀ r o, Qd r o → ∀ v H', (∀ b x, ¬ P b → H b = some x → H' b = some x) → (∀ b, N0 b → LD H' b) → (∀ j, m = some j → ∃ a, vs[j]? = some (.ref a) ∧ OwnC (Nr fr N0 v) H' a o) →
    (if fr = true then ∃ p, v = .ref p ∧ H p = none ∧ OwnC (Nr fr N0 v) H' p r else Fz N0 H' v r) → Q v H'
section
variable {C : Ct} {n : Nat} {sp : DSp} {XE : XK}
theorem args0 {N : Ow} {H : Hp} {vs : List V} {ds : List Dat} (l : FzL N H vs ds) : ArgsOk none N (fun _ => False) H vs ds := ⟨l.len, fun i v d h1 h2 => by
  rw [if_neg (by intro z; cases z)]
  obtain ⟨e, h3, f⟩ := l.at h1
  rw [h2] at h3
  cases h3
  exact f, fun _ z => z.elim⟩
def dCall0 (n : Nat) (sp : DSp) (da : DA) : DE := fun E R => da E fun ds E1 => ds.length = n ∧ sp ds fun r _ => R r E1
theorem rf_call0 {ta : TA} {da : DA} (ha : RfA C ta da) : RfE C (tCall (spOf n none false sp) [] XE ta) (dCall0 n sp da) := fun W H σ E Q R Re r k => ha W H σ E _ _ Re r fun vs ds H1 E1 R1 g1 f1 ⟨hn, r1⟩ => by
  rw [List.append_nil]
  refine ⟨f1.len.trans hn, ds, Nn C W, fun _ => False, R1.ld, fun _ z => z.elim, args0 f1, _, r1, fun r o q v H' st ld mo ro => ?_⟩
  have s : Same H1 H' := fun b x e => st b x id e
  rw [if_neg Bool.false_ne_true] at ro
  exact k v r H' E1 (R1.same s) (g1.trans (Gr.same s)) ro q
theorem rf_call0F {ta : TA} {da : DA} (ha : RfA C ta da) : RfF C (tCall (spOf n none true sp) [] XE ta) (dCall0 n sp da) := fun W H σ E Q R Re r k => ha W H σ E _ _ Re r fun vs ds H1 E1 R1 g1 f1 ⟨hn, r1⟩ => by
  rw [List.append_nil]
  refine ⟨f1.len.trans hn, ds, Nn C W, fun _ => False, R1.ld, fun _ z => z.elim, args0 f1, _, r1, fun r o q v H' st ld mo ro => ?_⟩
  have s : Same H1 H' := fun b x e => st b x id e
  rw [if_pos rfl] at ro
  obtain ⟨p, rfl, hp, oc⟩ := ro
  obtain ⟨R2, av⟩ := R1.grow s hp oc.ld
  have h0 : H p = none := by
    cases e : H p with
    | none => rfl
    | some o =>
      by_cases w : W p
      · exact absurd hp (ld_some (R1.ld p (.inr w)))
      · rw [g1.st p o w e] at hp; cases hp
  have sub : ∀ b, Nn C (And1 W p) b → Nr true (Nn C W) (.ref p) b := fun b z => by
    rcases z with z | z | rfl
    · exact .inl (.inl z)
    · exact .inl (.inr z)
    · exact .inr ⟨rfl, rfl⟩
  exact k p r H' E1 R2 (g1.trans (Gr.same s)) h0 (oc.keep (Kp.sub sub) rfl) av q
/-- the first argument is a written slot -/
def dCallM (n : Nat) (sp : DSp) (i : Nat) (dr : DA) : DE := fun E R => (∃ d, E[i]? = some (some d)) ∧ dr E fun ds E1 => ds.length + 1 = n ∧ ∃ d, E1[i]? = some (some d) ∧ sp (d :: ds) fun r o => R r (E1.set i (some o))
theorem argsM {N P : Ow} {H : Hp} {vs : List V} {ds : List Dat} {a : Addr} {d : Dat} (l : FzL N H vs ds) (o : OwnC N H a d) (hP : ∀ b, P b ↔ b = a) : ArgsOk (some 0) N P H (.ref a :: vs) (d :: ds) := ⟨congrArg (· + 1) l.len, fun i v e h1 h2 => by
  cases i with
  | zero =>
    rw [if_pos rfl]
    cases h1
    cases h2
    exact ⟨a, rfl, (hP a).mpr rfl, o⟩
  | succ i =>
    rw [if_neg (by intro z; cases z)]
    obtain ⟨e, h3, f⟩ := l.at (show vs[i]? = some v by simpa using h1)
    rw [show ds[i]? = some _ by simpa using h2] at h3
    cases h3
    exact f, fun b hb => ⟨0, rfl, by rw [(hP b).mp hb]; rfl⟩⟩
theorem rf_callM {tr : TA} {dr : DA} {i : Nat} (hO : C.O i = true) (ha : RfA C tr dr) : RfE C (tCall (spOf n (some 0) false sp) [] XE (tCons (tVar i) tr)) (dCallM n sp i dr) := fun W H σ E Q R Re ⟨⟨d0, h0⟩, r⟩ k => by
  obtain ⟨a, h1, _⟩ := Re.own hO h0
  refine ⟨.ref a, h1, ha W H σ E _ _ Re r fun vs ds H1 E1 R1 g1 f1 ⟨hn, d, hd, r1⟩ => ?_⟩
  show spOf n _ _ sp ((V.ref a :: vs) ++ []) H1 Q XE
  rw [List.append_nil]
  obtain ⟨c, h2, wa, oc, mo⟩ := R1.own hO hd
  rw [h1] at h2
  cases h2
  refine ⟨(congrArg (· + 1) f1.len).trans hn, d :: ds, Nn C W, fun b => b = a, R1.ld, fun b z => z ▸ .inr wa, argsM f1 oc fun b => Iff.rfl, _, r1, fun r o q v H' st ld mo' ro => ?_⟩
  obtain ⟨c, ec, oc'⟩ := mo' 0 rfl
  cases ec
  rw [if_neg Bool.false_ne_true] at ro
  have sub : ∀ b, Nn C W b → Nr false (Nn C W) v b := fun b z => .inl z
  obtain ⟨R2, g2⟩ := R1.put hO hd h1 wa mo (fun b nb o e => st b o nb e) (oc'.keep (Kp.sub sub) rfl)
  exact k v r H' _ R2 (g1.trans g2) ro q
theorem rf_callMF {tr : TA} {dr : DA} {i : Nat} (hO : C.O i = true) (ha : RfA C tr dr) : RfF C (tCall (spOf n (some 0) true sp) [] XE (tCons (tVar i) tr)) (dCallM n sp i dr) := fun W H σ E Q R Re ⟨⟨d0, h0⟩, r⟩ k => by
  obtain ⟨a, h1, _⟩ := Re.own hO h0
  refine ⟨.ref a, h1, ha W H σ E _ _ Re r fun vs ds H1 E1 R1 g1 f1 ⟨hn, d, hd, r1⟩ => ?_⟩
  show spOf n _ _ sp ((V.ref a :: vs) ++ []) H1 Q XE
  rw [List.append_nil]
  obtain ⟨c, h2, wa, oc, mo⟩ := R1.own hO hd
  rw [h1] at h2
  cases h2
  refine ⟨(congrArg (· + 1) f1.len).trans hn, d :: ds, Nn C W, fun b => b = a, R1.ld, fun b z => z ▸ .inr wa, argsM f1 oc fun b => Iff.rfl, _, r1, fun r o q v H' st ld mo' ro => ?_⟩
  obtain ⟨c, ec, oc'⟩ := mo' 0 rfl
  cases ec
  rw [if_pos rfl] at ro
  obtain ⟨p, rfl, hp, op⟩ := ro
  -- the written argument changed, a new object beside it
  have pa : p ≠ a := fun z => by
    subst z
    exact ld_some oc.ld hp
  have g2 : Gr W H1 W H' := ⟨fun b x nw e => st b x (fun z => nw (by rw [z]; exact wa)) e, fun b n z => (by
    by_cases q : b = a
    · rw [q] at z
      exact ld_some (ld a (.inr wa)) z
    · cases e : H1 b with
      | none => exact n e
      | some x =>
        rw [st b x q e] at z
        cases z), fun _ w => .inl w⟩
  have h0p : H p = none := by
    cases e : H p with
    | none => rfl
    | some o =>
      by_cases w : W p
      · exact absurd hp (ld_some (R1.ld p (.inr w)))
      · rw [g1.st p o w e] at hp; cases hp
  have subN : ∀ b, Nn C W b → Nr true (Nn C W) (.ref p) b := fun b z => .inl z
  obtain ⟨R2, _⟩ := R1.put hO hd h1 wa mo (fun b nb o e => st b o nb e) (oc'.keep (Kp.sub subN) rfl)
  have fr := R1.free0 hp
  have sub : ∀ b, Nn C (And1 W p) b → Nr true (Nn C W) (.ref p) b := fun b z => by
    rcases z with z | z | rfl
    · exact .inl (.inl z)
    · exact .inl (.inr z)
    · exact .inr ⟨rfl, rfl⟩
  have kpn : Kp (Nn C W) (Nn C (And1 W p)) H1 H' := fun b x e n => by
    have kk := g2.kp R1.ld b x e n
    refine ⟨kk.1, fun m m' => ?_⟩
    rcases m' with m' | m' | rfl
    · exact m (.inl m')
    · exact m (.inr m')
    · rw [hp] at e; cases e
  refine k p r H' _ ⟨R2.out, fun b w => ?_, fun b n => ?_, fun j e hj => ?_, R2.inj, R2.len, ⟨R2.gb.st, R2.gb.th, fun b w => by
    rcases w with w | rfl
    · exact R2.gb.nw b w
    · exact .inr (R1.freeb hp)⟩⟩ (g1.trans g2) h0p (op.keep (Kp.sub sub) rfl) (fun j e oj hj z => ?_) q
  · rcases w with w | rfl
    · exact R2.w b w
    · exact .inr fr.1
  · rcases n with n | n | rfl
    · exact R2.ld b (.inl n)
    · exact R2.ld b (.inr n)
    · exact op.ld
  · by_cases q : j = i
    · subst q
      have hl : j < E1.length := (List.getElem?_eq_some_iff.mp hd).1
      rw [List.getElem?_set_self hl] at hj
      cases hj
      refine ⟨.ref a, h1, ?_⟩
      unfold SlotOk
      rw [if_pos hO]
      exact ⟨a, rfl, .inl wa, oc'.keep (Kp.sub sub) rfl, mo⟩
    · rw [List.getElem?_set_ne (fun z => q z.symm)] at hj
      obtain ⟨u, k1, k2⟩ := R1.slot j e hj
      refine ⟨u, k1, ?_⟩
      unfold SlotOk at *
      split
      · next hh =>
        rw [if_pos hh] at k2
        obtain ⟨c, rfl, wc, ocj, mj⟩ := k2
        have nca : c ≠ a := fun z => by
          subst z
          exact R1.inj j i _ _ _ hh hO q hj hd k1 h1
        refine ⟨c, rfl, .inl wc, ?_, mj⟩
        rcases ocj with ⟨xs, ds, e, ha, l⟩ | ⟨xs, ds, e, ha, l⟩
        · exact .inl ⟨xs, ds, e, st c _ nca ha, l.keep kpn⟩
        · exact .inr ⟨xs, ds, e, st c _ nca ha, l.keep kpn⟩
      · next hh =>
        rw [if_neg hh] at k2
        exact k2.keep kpn
  · have key : ∃ e', E1[j]? = some (some e') := by
      by_cases q : j = i
      · subst q
        exact ⟨d, hd⟩
      · rw [List.getElem?_set_ne (fun z => q z.symm)] at hj
        exact ⟨e, hj⟩
    obtain ⟨e', hj'⟩ := key
    obtain ⟨b, hb, wb, _⟩ := R1.own oj hj'
    rw [z] at hb
    cases hb
    exact fr.2 (.inr wb)
end
/-! ### the body of a def -/
def endsOf (m : Option Nat) (Qd : Dat → Dat → Prop) : DEnds where
  nx := fun E => match m with
    | none => Qd .none .none
    | some j => ∃ o, E[j]? = some (some o) ∧ Qd .none o
  rt := fun r E => match m with
    | none => Qd r .none
    | some j => ∃ o, E[j]? = some (some o) ∧ Qd r o
  bk := fun _ => False
  ct := fun _ => False
theorem start_get {N : List Str} {vs : List V} {i : Nat} (h : i < vs.length) : (L2.start N vs)[i]? = (vs[i]?).map some := by
  unfold L2.start
  rw [List.getElem?_append_left (by rw [List.length_map]; exact h), List.getElem?_map]
def envOf (k : Nat) (ds : List Dat) : DEnv := ds.map some ++ List.replicate (k - ds.length) none
theorem env_get {k : Nat} {ds : List Dat} {i : Nat} {d : Dat} (h : (envOf k ds)[i]? = some (some d)) : i < ds.length ∧ ds[i]? = some d := by
  unfold envOf at h
  by_cases q : i < ds.length
  · rw [List.getElem?_append_left (by rw [List.length_map]; exact q), List.getElem?_map] at h
    refine ⟨q, ?_⟩
    rw [List.getElem?_eq_getElem q] at h ⊢
    simpa using h
  · rw [List.getElem?_append_right (by rw [List.length_map]; omega)] at h
    rw [List.getElem?_replicate] at h
    split at h <;> cases h
/-- from a def's reading to its promise over data -/
theorem entry {S : Sx} {n : Nat} {sp : DSp} {t : TS} {d : DS} {N : List Str} {vs : List V} {H : Hp} {Q : VK} {E : XK} (h : spOf n S.M S.fr sp vs H Q E) (ht : ∀ dy, RfS ⟨dy, S⟩ t d) (hO : ∀ i, i < n → (S.O i = true ↔ S.M = some i)) (h2 : S.M2 = none) (hM : S.M = none ∨ ∃ j, S.M = some j ∧ j < n)
    (hd : ∀ ds Qd, ds.length = n → sp ds Qd → d ⟨fun E => S.fr = false ∧ (endsOf S.M Qd).nx E, (endsOf S.M Qd).rt, fun _ => False, fun _ => False⟩ (envOf N.length ds)) : t { nx := fun _ H' => Q .non H', rt := Q } (L2.start N vs) H := by
  obtain ⟨hn, ds, N0, P, ld, pn, ⟨al, ag, aP⟩, Qd, hsp, k⟩ := h
  have dl : ds.length = n := al.symm.trans hn
  have o0 : ∀ {j : Nat} {v : V} {e : Dat}, S.O j = true → vs[j]? = some v → ds[j]? = some e → ∃ a, v = .ref a ∧ P a ∧ OwnC N0 H a e := fun {j v e} oj hv he => by
    have hj : j < n := by rw [← dl]; exact (List.getElem?_eq_some_iff.mp he).1
    have := ag j v e hv he
    rw [if_pos ((hO j hj).mp oj)] at this
    exact this
  have unN : ∀ b, Nn ⟨⟨H, P, N0, pn, P, H, P, fun _ => False⟩, S⟩ P b → N0 b := fun b z => by
    rcases z with z | z
    · exact z
    · exact pn b z
  have R0 : Rep ⟨⟨H, P, N0, pn, P, H, P, fun _ => False⟩, S⟩ P H (L2.start N vs) (envOf N.length ds) := by
    refine ⟨fun b o _ e => e, fun b w => .inl w, fun b z => ld b (unN b z), fun i e he => ?_, fun i j d1 d2 v oi oj nij h1 h2 h3 => ?_, ?_, Gr.refl P H⟩
    · obtain ⟨hi, hde⟩ := env_get he
      have hv : i < vs.length := by rw [al]; exact hi
      refine ⟨vs[i], by rw [start_get hv, List.getElem?_eq_getElem hv]; rfl, ?_⟩
      have hvi : vs[i]? = some vs[i] := List.getElem?_eq_getElem hv
      have a := ag i _ e hvi hde
      unfold SlotOk
      by_cases oi : S.O i = true
      · rw [if_pos (show S.O i = true from oi)]
        have mi := (hO i (by omega)).mp oi
        rw [if_pos mi] at a
        obtain ⟨p, ep, hp, oc⟩ := a
        exact ⟨p, ep, hp, oc.keep (Kp.sub unN) rfl, fun z => absurd mi z, fun _ => hp, fun z => by rw [show S.M2 = none from h2] at z; cases z⟩
      · rw [if_neg (show ¬ S.O i = true from oi)]
        rw [if_neg (fun z => oi ((hO i (by omega)).mpr z))] at a
        exact a.keep (Kp.sub unN)
    · obtain ⟨hi, _⟩ := env_get h1
      obtain ⟨hj, _⟩ := env_get h2
      have a := (hO i (by omega)).mp oi
      have b := (hO j (by omega)).mp oj
      rw [a] at b
      exact absurd (Option.some.inj b) nij
    · unfold L2.start envOf
      simp only [List.length_append, List.length_map, List.length_replicate, al]
  have fin : ∀ W' H' σ E v r, Rep ⟨⟨H, P, N0, pn, P, H, P, fun _ => False⟩, S⟩ W' H' σ E → RtOk ⟨⟨H, P, N0, pn, P, H, P, fun _ => False⟩, S⟩ W' H' v r → (endsOf S.M Qd).rt r E → Q v H' := fun W' H' σ E v r R ro q => by
    have post : ∀ o, (∀ j, S.M = some j → E[j]? = some (some o)) → Qd r o → Q v H' := fun o ho q => by
      refine k r o q v H' (fun b x nb e => R.out b x nb e) (fun b z => R.ld b (.inl z)) (fun j mj => ?_) ?_
      · have hj : j < n := by
          rcases hM with z | ⟨j', z, hz⟩
          · rw [z] at mj; cases mj
          · rw [z] at mj; cases mj; exact hz
        have oj := (hO j hj).mpr mj
        obtain ⟨a, h1, wa, oc, mo⟩ := R.own oj (ho j mj)
        obtain ⟨j', mj', hv⟩ := aP a (mo.2.1 mj)
        rw [mj] at mj'
        cases mj'
        refine ⟨a, hv, oc.keep (Kp.sub fun b z => ?_) rfl⟩
        rcases z with z | ⟨z, rfl⟩
        · exact .inl z
        · unfold RtOk at ro
          rw [if_pos (show S.fr = true from z)] at ro
          obtain ⟨c, ec, wc, _⟩ := ro
          cases ec
          exact .inr wc
      · unfold RtOk at ro
        by_cases f : S.fr = true
        · rw [if_pos f]
          rw [if_pos (show S.fr = true from f)] at ro
          obtain ⟨c, rfl, wc, hc, oc⟩ := ro
          refine ⟨c, rfl, hc, oc.keep (Kp.sub fun b z => ?_) rfl⟩
          rcases z with z | ⟨z, e⟩
          · exact .inl z
          · cases e
            exact .inr wc
        · rw [if_neg f]
          rw [if_neg (show ¬ S.fr = true from f)] at ro
          exact ro
    cases hm : S.M with
    | none =>
      refine post .none (fun j mj => by rw [hm] at mj; cases mj) ?_
      unfold endsOf at q
      rw [hm] at q
      exact q
    | some j =>
      unfold endsOf at q
      rw [hm] at q
      obtain ⟨o, ho, q⟩ := q
      exact post o (fun j' mj => by rw [hm] at mj; cases mj; exact ho) q
  refine ht ⟨H, P, N0, pn, P, H, P, fun _ => False⟩ (fun b z => ld_some (ld b z)) P H _ _ _ _ R0 (hd ds Qd dl hsp) ⟨fun W' H' σ E R g q => ?_, fun W' H' σ E v r R g ro q => fin W' H' σ E v r R ro q, fun W' H' σ E R g q => q.elim, fun W' H' σ E R g q => q.elim⟩
  obtain ⟨ff, q⟩ := q
  refine fin W' H' σ E .non .none R ?_ ?_
  · unfold RtOk
    rw [if_neg (show ¬ S.fr = true by rw [ff]; exact Bool.false_ne_true)]
    exact .non
  · unfold endsOf at q ⊢
    exact q
end Dl
namespace Dl
open PySem PySem.Spec PyProof.Rows L2 Ss
theorem ne_of_b {m m2 : Option Nat} {i : Nat} (h : (m == some i || m2 == some i) = false) : m ≠ some i ∧ m2 ≠ some i := by
  rw [Bool.or_eq_false_iff] at h
  exact ⟨fun e => by rw [e] at h; simp at h, fun e => by rw [e] at h; simp at h⟩
theorem ne_of_b0 {m : Option Nat} {i : Nat} (h : (m == some i) = false) : m ≠ some i := fun e => by
  rw [e] at h
  simp at h
theorem szlt2 {n : Nat} (h : n ≤ 1000000) : n < sizeLine := Nat.lt_of_le_of_lt h (by decide)
theorem szle2 {n : Nat} (h : n ≤ 1000000) : n ≤ sizeLine := Nat.le_of_lt (szlt2 h)
theorem snoc_cases {α : Type} (l : List α) : l = [] ∨ ∃ l0 x, l = l0 ++ [x] := by
  rcases List.eq_nil_or_concat l with h | ⟨l0, x, h⟩
  · exact .inl h
  · exact .inr ⟨l0, x, by rw [h, List.concat_eq_append]⟩
/-! ### steps over data -/
section
variable {E : DEnv} {R : Dat → DEnv → Prop} {RB : Bool → DEnv → Prop} {RL : List Dat → DEnv → Prop} {RO : Option Int → DEnv → Prop} {RE : DEnv → Prop} {Q : Dat → Prop} {DD : DEnds} {a b : DS} {da db dc : DE} {dt du : DT} {dl dr : DA} {dg : DG} {dgs : DGs} {di : DI} {o : Dat → Dat → (Dat → Prop) → Prop} {ou : Dat → (Dat → Prop) → Prop} {ob : List Dat → (Dat → Prop) → Prop} {d x y : Dat} {ds es : List Dat} {i j : Nat} {u v : Int}
theorem z_seq (h : a { DD with nx := b DD } E) : dSeq a b DD E := h
theorem z_next (h : DD.nx E) : dNext DD E := h
theorem z_break (h : DD.bk E) : dBreak DD E := h
theorem z_cont (h : DD.ct E) : dCont DD E := h
theorem z_drop (h : da E fun _ E1 => DD.nx E1) : dDrop da DD E := h
theorem z_ret (h : da E DD.rt) : dRet da DD E := h
theorem z_retV (hv : E[i]? = some (some d)) (h : DD.rt d E) : dRetV i DD E := ⟨d, hv, h⟩
theorem z_retN (h : DD.rt .none E) : dRetN DD E := h
theorem z_ifS (h : dt E fun k E1 => if k = true then a DD E1 else b DD E1) : dIfS dt a b DD E := h
theorem z_ifK (Rj : DEnv → Prop) (h2 : ∀ E, Rj E → DD.nx E) (h : ∀ nx : DEnv → Prop, (∀ E, Rj E → nx E) → dIfS dt a b { DD with nx := nx } E) : dIfS dt a b DD E := h DD.nx h2
theorem z_set (h : da E fun d E1 => DD.nx (E1.set i (some d))) : dSet i da DD E := h
theorem z_asg (h : da E fun d E1 => dg d E1 DD.nx) : dAsg da dg DD E := h
theorem z_gname (h : RE (E.set i (some d))) : dgName i d E RE := h
theorem z_gnil (h : RE E) : dgNil [] E RE := ⟨rfl, h⟩
theorem z_gcons (h : dg d E fun E1 => dgs ds E1 RE) : dgCons dg dgs (d :: ds) E RE := ⟨d, ds, rfl, h⟩
theorem z_gtup (hl : ds.length = i) (h : dgs ds E RE) : dgTup i dgs (.tuple ds) E RE := ⟨ds, rfl, hl, h⟩
theorem z_gsub (h0 : E[i]? = some (some (.list ds))) (h : da E fun x E1 => ∃ ds j n, E1[i]? = some (some (.list ds)) ∧ x = .int j ∧ ixN ds.length j = some n ∧ RE (E1.set i (some (.list (ds.set n d))))) : dgSub i da d E RE := ⟨ds, h0, h⟩
theorem z_app (h0 : E[i]? = some (some (.list es))) (h : da E fun d E1 => ∃ ds, E1[i]? = some (some (.list ds)) ∧ ds.length < sizeLine ∧ DD.nx (E1.set i (some (.list (ds ++ [d]))))) : dApp i da DD E := ⟨es, h0, h⟩
theorem z_par (h : dl E fun ds E1 => ∃ x y, ds = [x, y] ∧ DD.nx ((E1.set i (some x)).set j (some y))) : dPar i j dl DD E := h
theorem z_par2 {R : Dat → Dat → Prop} (h : R x y) : ∃ x' y', [x, y] = [x', y'] ∧ R x' y' := ⟨x, y, rfl, h⟩
theorem z_aug {f : Int → Int → Int} (h0 : E[i]? = some (some (.int u))) (h : da E fun d E1 => ∃ y, d = .int y ∧ DD.nx (E1.set i (some (.int (f u y))))) : dAug i da f DD E := ⟨u, h0, h⟩
theorem z_var (hv : E[i]? = some (some d)) (h : R d E) : dVar i E R := ⟨d, hv, h⟩
theorem z_c (h : R d E) : dC d E R := h
theorem z_op (h : da E fun x E1 => db E1 fun y E2 => o x y fun z => R z E2) : dOp o da db E R := h
theorem z_opV (hv : E[i]? = some (some x)) (h : db E fun y E2 => E2[i]? = some (some x) ∧ o x y fun z => R z E2) : dOpV o i db E R := ⟨x, hv, h⟩
theorem z_opW (h : da E fun x E1 => ∃ y, E1[i]? = some (some y) ∧ o x y fun z => R z E1) : dOpW o da i E R := h
theorem z_un (h : da E fun x E1 => ou x fun z => R z E1) : dUn ou da E R := h
theorem z_nil (h : RL [] E) : dNil E RL := h
theorem z_cons (h : da E fun x E1 => dl E1 fun xs E2 => RL (x :: xs) E2) : dCons da dl E RL := h
theorem z_cb (h : dl E fun xs E1 => ob xs fun z => R z E1) : dCB ob dl E R := h
theorem z_cbV (hv : E[i]? = some (some x)) (h : ob [x] fun z => R z E) : dCBV ob i E R := ⟨x, hv, h⟩
theorem z_tup (h : dl E fun ds E1 => ds.length ≤ sizeLine ∧ R (.tuple ds) E1) : dTup dl E R := h
theorem z_lst (h : dl E fun ds E1 => ds.length ≤ sizeLine ∧ R (.list ds) E1) : dLst dl E R := h
theorem z_dnew (h : R (dicD []) E) : dDNew E R := h
theorem z_test (h : da E fun x E1 => ∃ k, x = .bool k ∧ RB k E1) : dTest da E RB := h
theorem z_tb {k : Bool} {RB : Bool → Prop} (h : RB k) : ∃ k', PyData.bool k = .bool k' ∧ RB k' := ⟨k, rfl, h⟩
theorem z_ti {RB : Int → Prop} (h : RB u) : ∃ k', PyData.int u = .int k' ∧ RB k' := ⟨u, rfl, h⟩
theorem z_tru (h : da E fun x E1 => ∃ k, trD x k ∧ RB k E1) : dTru da E RB := h
theorem z_truV (hv : E[i]? = some (some x)) (h : ∃ k, trD x k ∧ RB k E) : dTruV i E RB := ⟨x, hv, h⟩
theorem z_not (h : dt E fun b E1 => RB (!b) E1) : dNot dt E RB := h
theorem z_and (h : dt E fun b E1 => if b = true then du E1 RB else RB false E1) : dAnd dt du E RB := h
theorem z_or (h : dt E fun b E1 => if b = true then RB true E1 else du E1 RB) : dOr dt du E RB := h
theorem z_andV (h : da E fun x E1 => ∃ c, x = .bool c ∧ if c = true then db E1 R else R (.bool false) E1) : dAndV da db E R := h
theorem z_orV (h : da E fun x E1 => ∃ c, x = .bool c ∧ if c = true then R (.bool true) E1 else db E1 R) : dOrV da db E R := h
theorem z_notV (h : da E fun x E1 => ∃ c, x = .bool c ∧ R (.bool (!c)) E1) : dNotV da E R := h
theorem z_if (h : dt E fun b E1 => if b = true then da E1 R else db E1 R) : dIf dt da db E R := h
theorem z_yes (h : RB true E) : dYes E RB := h
theorem z_part (h : da E fun x E1 => ∃ i, x = .int i ∧ RO (some i) E1) : dPart da E RO := h
theorem z_nopart (h : RO none E) : dNoPart E RO := h
theorem z_sl {os : Dat → Option Int → Option Int → (Dat → Prop) → Prop} {p q : DO} (h : da E fun x E1 => p E1 fun l E2 => q E2 fun u E3 => os x l u fun z => R z E3) : dSl os da p q E R := h
theorem z_slV {os : Dat → Option Int → Option Int → (Dat → Prop) → Prop} {p q : DO} (hv : E[i]? = some (some x)) (h : p E fun l E2 => q E2 fun u E3 => E3[i]? = some (some x) ∧ os x l u fun z => R z E3) : dSlV os i p q E R := ⟨x, hv, h⟩
theorem z_slT {lo hi : Option Int} (h : Q (.tuple (cutD ds lo hi))) : oSlT (.tuple ds) lo hi Q := ⟨ds, rfl, h⟩
theorem z_slL {lo hi : Option Int} (h : Q (.list (cutD ds lo hi))) : oSlL (.list ds) lo hi Q := ⟨ds, rfl, h⟩
theorem z_oI {f : Int → Int → Dat} (h : Q (f u v)) : oI f (.int u) (.int v) Q := ⟨u, v, rfl, rfl, h⟩
theorem z_oC {c : Int → Int → Prop} {f : Int → Int → Dat} (hc : c u v) (h : Q (f u v)) : oC c f (.int u) (.int v) Q := ⟨u, v, rfl, rfl, hc, h⟩
theorem z_oU {f : Int → Dat} (h : Q (f u)) : oU f (.int u) Q := ⟨u, rfl, h⟩
theorem z_eqI (h : Q (.bool (decide (u = v)))) : oEq (.int u) (.int v) Q := .inl ⟨u, v, rfl, rfl, h⟩
theorem z_eqS {s t : Str} (h : Q (.bool (decide (s = t)))) : oEq (.str s) (.str t) Q := .inr (.inl ⟨s, t, rfl, rfl, h⟩)
theorem z_eqB {s t : Bool} (h : Q (.bool (decide (s = t)))) : oEq (.bool s) (.bool t) Q := .inr (.inr (.inl ⟨s, t, rfl, rfl, h⟩))
theorem z_eqD (sa : SeqAt.shaped x = true) (sb : SeqAt.shaped y = true) (h : Q (.bool (PyData.eqv x y))) : oEq x y Q := .inr (.inr (.inr ⟨sa, sb, h⟩))
theorem z_neI (h : Q (.bool (!decide (u = v)))) : oNe (.int u) (.int v) Q := .inl ⟨u, v, rfl, rfl, h⟩
theorem z_neS {s t : Str} (h : Q (.bool (!decide (s = t)))) : oNe (.str s) (.str t) Q := .inr (.inl ⟨s, t, rfl, rfl, h⟩)
theorem z_neB {s t : Bool} (h : Q (.bool (!decide (s = t)))) : oNe (.bool s) (.bool t) Q := .inr (.inr (.inl ⟨s, t, rfl, rfl, h⟩))
theorem z_neD (sa : SeqAt.shaped x = true) (sb : SeqAt.shaped y = true) (h : Q (.bool (!PyData.eqv x y))) : oNe x y Q := .inr (.inr (.inr ⟨sa, sb, h⟩))
theorem z_isN (h : Q (.bool (isNo x))) : oIsN x .none Q := ⟨rfl, h⟩
theorem z_notN (h : Q (.bool (!isNo x))) : oNotN x .none Q := ⟨rfl, h⟩
theorem z_ltS {s t : Str} (h : Q (.bool (decide (s.cps.toList < t.cps.toList)))) : oLtS (.str s) (.str t) Q := ⟨s, t, rfl, rfl, h⟩
theorem z_catS {s t : Str} (hl : s.length + t.length ≤ sizeLine) (h : Q (.str (s ++ t))) : oCatS (.str s) (.str t) Q := ⟨s, t, rfl, rfl, hl, h⟩
theorem z_catT (hl : ds.length + es.length ≤ sizeLine) (h : Q (.tuple (ds ++ es))) : oCatT (.tuple ds) (.tuple es) Q := ⟨ds, es, rfl, rfl, hl, h⟩
theorem z_catL (hl : ds.length + es.length ≤ sizeLine) (h : Q (.list (ds ++ es))) : oCatL (.list ds) (.list es) Q := ⟨ds, es, rfl, rfl, hl, h⟩
theorem z_ixL (hd : L2.atI ds u = some d) (h : Q d) : oIxL (.list ds) (.int u) Q := ⟨ds, u, d, rfl, rfl, hd, h⟩
theorem z_ixT (hd : L2.atI ds u = some d) (h : Q d) : oIxT (.tuple ds) (.int u) Q := ⟨ds, u, d, rfl, rfl, hd, h⟩
theorem z_len {n : Nat} (hn : lenD x = some n) (h : Q (.int (n : Int))) : oLen [x] Q := ⟨x, n, rfl, hn, h⟩
theorem z_abs (h : Q (.int (u.natAbs : Int))) : oAbs [.int u] Q := ⟨u, rfl, h⟩
theorem z_max (h : Q (.int (max u v))) : oMax2 [.int u, .int v] Q := ⟨u, v, rfl, h⟩
theorem z_min (h : Q (.int (min u v))) : oMin2 [.int u, .int v] Q := ⟨u, v, rfl, h⟩
theorem z_intI (h : Q (.int u)) : oInt [.int u] Q := .inl ⟨u, rfl, h⟩
theorem z_intB {k : Bool} (h : Q (.int (if k then 1 else 0))) : oInt [.bool k] Q := .inr ⟨k, rfl, h⟩
theorem z_sum {ns : List Int} (h : Q (.int ns.sum)) : oSum [.list (ns.map .int)] Q := ⟨ns, rfl, h⟩
theorem z_tupL (h : Q (.tuple ds)) : oTuple [.list ds] Q := ⟨ds, .inl rfl, h⟩
theorem z_tupT (h : Q (.tuple ds)) : oTuple [.tuple ds] Q := ⟨ds, .inr rfl, h⟩
theorem z_lstL (h : Q (.list ds)) : oListU [.list ds] Q := .inl ⟨ds, .inl rfl, h⟩
theorem z_lstT (h : Q (.list ds)) : oListU [.tuple ds] Q := .inl ⟨ds, .inr rfl, h⟩
theorem z_lstD {m : List (Key × Dat)} (h : Q (.list (m.map fun p => kD p.1))) : oListU [dicD m] Q := .inr ⟨m, rfl, h⟩
theorem z_isi {n : String} (h : da E fun x E1 => ∃ b, isDc x = false ∧ kitB (tyD x) n = some b ∧ R (.bool b) E1) : dIsi n da E R := h
theorem z_call0 {n : Nat} {sp : DSp} (h : dl E fun ds E1 => ds.length = n ∧ sp ds fun r _ => R r E1) : dCall0 n sp dl E R := h
theorem z_callM {n : Nat} {sp : DSp} (hv : E[i]? = some (some d)) (h : dl E fun ds E1 => ds.length + 1 = n ∧ ∃ d, E1[i]? = some (some d) ∧ sp (d :: ds) fun r o => R r (E1.set i (some o))) : dCallM n sp i dl E R := ⟨⟨d, hv⟩, h⟩
theorem z_rng1 {RI : DIt → DEnv → Prop} (h : dl E fun ds E1 => ∃ j : Int, ds = [.int j] ∧ -(2 ^ 62) ≤ j ∧ j < 2 ^ 62 ∧ RI ⟨j.toNat, fun k d => d = .int (k : Int)⟩ E1) : dRng1 dl E RI := h
theorem z_rng2 {RI : DIt → DEnv → Prop} (h : dl E fun ds E1 => ∃ i j : Int, ds = [.int i, .int j] ∧ (-(2 ^ 62) ≤ i ∧ i < 2 ^ 62 ∧ -(2 ^ 62) ≤ j ∧ j < 2 ^ 62) ∧ RI ⟨(j - i).toNat, fun k d => d = .int (i + (k : Int))⟩ E1) : dRng2 dl E RI := h
theorem z_itL {RI : DIt → DEnv → Prop} (h : da E fun d E1 => ∃ ds, d = .list ds ∧ RI ⟨ds.length, fun k x => ds[k]? = some x⟩ E1) : dItL da E RI := h
theorem z_itT {RI : DIt → DEnv → Prop} (h : da E fun d E1 => ∃ ds, d = .tuple ds ∧ RI ⟨ds.length, fun k x => ds[k]? = some x⟩ E1) : dItT da E RI := h
theorem z_itR {RI : DIt → DEnv → Prop} (h : dl E fun ds E1 => ∃ es, ds = [.list es] ∧ RI ⟨es.length, fun k x => es[es.length - 1 - k]? = some x⟩ E1) : dItR dl E RI := h
theorem z_itS {RI : DIt → DEnv → Prop} (h : da E fun d E1 => ∃ z, d = .str z ∧ RI ⟨z.cps.size, fun k x => ∃ c, z.cps[k]? = some c ∧ x = .str ⟨#[c]⟩⟩ E1) : dItS da E RI := h
theorem z_enum {RI : DIt → DEnv → Prop} (h : dl E fun ds E1 => ∃ es, ds = [.list es] ∧ RI ⟨es.length, fun k x => ∃ d, es[k]? = some d ∧ x = .tuple [.int (k : Int), d]⟩ E1) : dEnum dl E RI := h
/-- a for over data, by an invariant of the turn and the slots -/
theorem z_for (Wd : DIt → Nat → DEnv → Prop) (h : di E fun I E1 => Wd I 0 E1 ∧ (∀ k x E, k < I.n → I.item k x → Wd I k E → dg x E fun E2 => a { DD with nx := Wd I (k + 1), ct := Wd I (k + 1), bk := DD.nx } E2) ∧ ∀ E, Wd I I.n E → DD.nx E) (mono : ∀ R R' : DIt → DEnv → Prop, (∀ I E, R I E → R' I E) → di E R → di E R') : dFor di dg a DD E := mono _ _ (fun I E1 h => ⟨Wd I, h⟩) h
theorem z_for0 (h : di E fun I E1 => ∃ Wd : Nat → DEnv → Prop, Wd 0 E1 ∧ (∀ k x E, k < I.n → I.item k x → Wd k E → dg x E fun E2 => a { DD with nx := Wd (k + 1), ct := Wd (k + 1), bk := DD.nx } E2) ∧ ∀ E, Wd I.n E → DD.nx E) : dFor di dg a DD E := h
theorem z_lc0 {vs : List Nat} (h : di E fun I E1 => ∃ Wd : Nat → List Dat → DEnv → Prop, Wd 0 [] (wipeE E1 vs) ∧
  (∀ k x acc E, k < I.n → I.item k x → Wd k acc E → dg x E fun E2 => dt E2 fun b E3 => if b = true then da E3 fun y E4 => acc.length < sizeLine ∧ Wd (k + 1) (acc ++ [y]) (wipeE E4 vs) else Wd (k + 1) acc (wipeE E3 vs)) ∧ ∀ acc E, Wd I.n acc E → R (.list acc) E) : dLc vs di dg dt da E R := h
theorem z_while (h : ∃ Wd : Nat → DEnv → Prop, (∃ m, Wd m E) ∧ ∀ m E, Wd m E → dt E fun b E1 => if b = true then a { DD with nx := fun E' => ∃ m', m' < m ∧ Wd m' E', ct := fun E' => ∃ m', m' < m ∧ Wd m' E', bk := DD.nx } E1 else DD.nx E1) : dWhile dt a DD E := h
theorem z_din (h : da E fun y E1 => db E1 fun x E2 => ∃ k m, y = kD k ∧ x = dicD m ∧ R (.bool (valD m k).isSome) E2) : dDIn da db E R := h
theorem z_dnotin (h : da E fun y E1 => db E1 fun x E2 => ∃ k m, y = kD k ∧ x = dicD m ∧ R (.bool (!(valD m k).isSome)) E2) : dDNotIn da db E R := h
theorem z_dinV (h : da E fun y E1 => ∃ k m, y = kD k ∧ E1[i]? = some (some (dicD m)) ∧ R (.bool (valD m k).isSome) E1) : dDInV da i E R := h
theorem z_dput (h : db E fun v E1 => (∃ x, E1[i]? = some (some x)) ∧ da E1 fun y E2 => ∃ k m, y = kD k ∧ E2[i]? = some (some (dicD m)) ∧ m.length < sizeLine ∧ DD.nx (E2.set i (some (dicD (putD m k v))))) : dDPut i da db DD E := h
end
/-! ### the tape -/
def TapeD (d : Dat) : Prop := ∃ (ns : List Int) (p n s : Int), d = .list [.list (ns.map .int), .int p, .int n, .int s] ∧ 0 ≤ p ∧ 0 ≤ n ∧ 0 ≤ s
theorem tape_of {N0 : Ow} {H : Hp} {t : Addr} {td : Dat} (o : OwnC N0 H t td) (h : TapeD td) (n : N0 t) : ∃ l, Tape H t l ∧ ¬ N0 l := by
  obtain ⟨ns, p, m, s, rfl, h1, h2, h3⟩ := h
  rcases o with ⟨xs, ds, e, ha, l⟩ | ⟨xs, ds, e, ha, l⟩
  · cases e
    cases l with
    | cons f1 l => cases l with
      | cons f2 l => cases l with
        | cons f3 l => cases l with
          | cons f4 l =>
            cases l
            cases f2
            cases f3
            cases f4
            cases f1 with
            | lst hl nl fl =>
              refine ⟨_, ⟨ns, p, m, s, ha, by rw [hl, fl.ints], fun e => nl (by rw [e]; exact n), h1, h2, h3⟩, nl⟩
  · cases e
theorem own_of {N0 : Ow} {H : Hp} {t l : Addr} (T : Tape H t l) (nl : ¬ N0 l) : ∃ td, TapeD td ∧ OwnC N0 H t td := by
  obtain ⟨ns, p, m, s, h1, h2, h3, h4, h5, h6⟩ := T.ex
  exact ⟨_, ⟨ns, p, m, s, rfl, h4, h5, h6⟩, .inl ⟨_, _, rfl, h1, .cons (.lst h2 nl FzL.of_ints) (.cons (.int _) (.cons (.int _) (.cons (.int _) .nil)))⟩⟩
/-- what a call of an older promise with the tape ahead asks, and what it brings -/
theorem tape_call {n : Nat} {sp : DSp} {vs : List V} {H : Hp} {Q : VK} {E : XK} (h : spOf (n + 1) (some 0) false sp vs H Q E) : ∃ (t : Addr) (us : List V) (td : Dat) (ds : List Dat) (N0 : Ow) (Qd : Dat → Dat → Prop), vs = .ref t :: us ∧ us.length = n ∧ N0 t ∧ OwnC N0 H t td ∧ FzL N0 H us ds ∧ sp (td :: ds) Qd ∧
    ∀ l r v H', Tape H t l → ¬ N0 l → Go t l H H' → Fz N0 H' v r → (∀ td', TapeD td' → Qd r td') → Q v H' := by
  obtain ⟨hn, ds, N0, P, ld, pn, ⟨al, ag, aP⟩, Qd, hsp, k⟩ := h
  cases vs with
  | nil => cases hn
  | cons v us =>
    cases ds with
    | nil => cases al
    | cons td ds =>
      have a0 := ag 0 v td rfl rfl
      rw [if_pos rfl] at a0
      obtain ⟨t, rfl, pt, oc⟩ := a0
      have fl : FzL N0 H us ds := by
        have : ∀ (us : List V) (ds : List Dat), us.length = ds.length → (∀ i v d, us[i]? = some v → ds[i]? = some d → Fz N0 H v d) → FzL N0 H us ds := fun us => by
          induction us with
          | nil => intro ds h _; cases ds with | nil => exact .nil | cons _ _ => cases h
          | cons u us ih => intro ds h g; cases ds with | nil => cases h | cons d ds => exact .cons (g 0 u d rfl rfl) (ih ds (Nat.succ.inj h) fun i v e h1 h2 => g (i + 1) v e (by simpa using h1) (by simpa using h2))
        exact this us ds (Nat.succ.inj al) fun i v d h1 h2 => by
          have := ag (i + 1) v d (by simpa using h1) (by simpa using h2)
          rw [if_neg (by intro z; cases z)] at this
          exact this
      refine ⟨t, us, td, ds, N0, Qd, rfl, Nat.succ.inj hn, pn t pt, oc, fl, hsp, fun l r v H' T nl G f q => ?_⟩
      obtain ⟨td2, t2, oc2⟩ := own_of G.T nl
      refine k r td2 (q td2 t2) v H' (fun b x nb e => G.e b x (fun z => nb (z ▸ pt)) e) (fun b nb => ?_) (fun j hj => ?_) ?_
      · by_cases bt : b = t
        · subst bt
          exact oc2.ld
        · rcases ld b nb with ⟨xs, e⟩ | ⟨xs, e⟩
          · exact .inl ⟨xs, G.e b _ bt e⟩
          · exact .inr ⟨xs, G.e b _ bt e⟩
      · cases hj
        exact ⟨t, rfl, oc2.keep (Kp.sub fun b z => by
          rcases z with z | ⟨z, _⟩
          · exact z
          · cases z) rfl⟩
      · rw [if_neg Bool.false_ne_true]
        exact f
end Dl
namespace Dl
open PySem PySem.Spec PyProof.Rows L2 Ss
/-! ### rules with their readings named -/
def rLen (K : PySem.W.Frag) : List V → Hp → VK → Prop := fun xs H Q => ∃ x n, xs = [x] ∧ LenV K x H n ∧ Q (.int n) H
theorem cr_len {X : Cx} : CallR X (.builtin "len") (rLen X.K) := call_len
theorem rfb_len' {K : PySem.W.Frag} : RfB (rLen K) oLen := rfb_len
def rTupleOf (K : PySem.W.Frag) : List V → Hp → VK → Prop := fun xs H Q => ∃ p ys, xs = [.ref p] ∧ ((SqL K H p ys ∧ ∀ l, H l = none → Q (.ref l) (upd H l (.tup ys))) ∨ (SqT K H p ys ∧ Q (.ref p) H))
theorem cr_tupleOf {X : Cx} : CallR X (.type "tuple") (rTupleOf X.K) := call_tuple_of
theorem rfb_tuple' {K : PySem.W.Frag} : RfB (rTupleOf K) oTuple := rfb_tuple
def tTru (K : PySem.W.Frag) (ta : TE) : TT := fun σ H Q => ta σ H fun x H' => ∃ k, TruV K x H' k ∧ Q k H'
theorem pt_tru {X : Cx} {a : Expr} {ta : TE} (ha : PE X a ta) (he : ∀ whole, isTrue a X.env whole = (do let v ← whole; standAt a.pos; holding [v] (truthy v))) : PT X a (tTru X.K ta) := pt_truth ha he
theorem rf_tru' {C : Ct} {K : PySem.W.Frag} {ta : TE} {da : DE} (ha : RfE C ta da) : RfT C (tTru K ta) (dTru da) := rf_tru ha
theorem rf_truV' {C : Ct} {K : PySem.W.Frag} {i : Nat} (hO : C.O i = true) : RfT C (tTru K (tVar i)) (dTruV i) := rf_truV hO
end Dl
namespace Dl
open PySem PySem.Spec PyProof.Rows L2 Ss
theorem z_k_none_tuple  {R : Bool → Prop} (h : R false) : ∃ k, isDc (.none) = false ∧ kitB (tyD (.none)) "tuple" = some k ∧ R k := ⟨false, rfl, (by decide +kernel : kitB "NoneType" "tuple" = some false), h⟩
theorem z_k_none_str  {R : Bool → Prop} (h : R false) : ∃ k, isDc (.none) = false ∧ kitB (tyD (.none)) "str" = some k ∧ R k := ⟨false, rfl, (by decide +kernel : kitB "NoneType" "str" = some false), h⟩
theorem z_k_none_int  {R : Bool → Prop} (h : R false) : ∃ k, isDc (.none) = false ∧ kitB (tyD (.none)) "int" = some k ∧ R k := ⟨false, rfl, (by decide +kernel : kitB "NoneType" "int" = some false), h⟩
theorem z_k_none_bool  {R : Bool → Prop} (h : R false) : ∃ k, isDc (.none) = false ∧ kitB (tyD (.none)) "bool" = some k ∧ R k := ⟨false, rfl, (by decide +kernel : kitB "NoneType" "bool" = some false), h⟩
theorem z_k_none_list  {R : Bool → Prop} (h : R false) : ∃ k, isDc (.none) = false ∧ kitB (tyD (.none)) "list" = some k ∧ R k := ⟨false, rfl, (by decide +kernel : kitB "NoneType" "list" = some false), h⟩
theorem z_k_bool_tuple {u : Bool} {R : Bool → Prop} (h : R false) : ∃ k, isDc (.bool u) = false ∧ kitB (tyD (.bool u)) "tuple" = some k ∧ R k := ⟨false, rfl, (by decide +kernel : kitB "bool" "tuple" = some false), h⟩
theorem z_k_bool_str {u : Bool} {R : Bool → Prop} (h : R false) : ∃ k, isDc (.bool u) = false ∧ kitB (tyD (.bool u)) "str" = some k ∧ R k := ⟨false, rfl, (by decide +kernel : kitB "bool" "str" = some false), h⟩
theorem z_k_bool_int {u : Bool} {R : Bool → Prop} (h : R true) : ∃ k, isDc (.bool u) = false ∧ kitB (tyD (.bool u)) "int" = some k ∧ R k := ⟨true, rfl, (by decide +kernel : kitB "bool" "int" = some true), h⟩
theorem z_k_bool_bool {u : Bool} {R : Bool → Prop} (h : R true) : ∃ k, isDc (.bool u) = false ∧ kitB (tyD (.bool u)) "bool" = some k ∧ R k := ⟨true, rfl, (by decide +kernel : kitB "bool" "bool" = some true), h⟩
theorem z_k_bool_list {u : Bool} {R : Bool → Prop} (h : R false) : ∃ k, isDc (.bool u) = false ∧ kitB (tyD (.bool u)) "list" = some k ∧ R k := ⟨false, rfl, (by decide +kernel : kitB "bool" "list" = some false), h⟩
theorem z_k_int_tuple {u : Int} {R : Bool → Prop} (h : R false) : ∃ k, isDc (.int u) = false ∧ kitB (tyD (.int u)) "tuple" = some k ∧ R k := ⟨false, rfl, (by decide +kernel : kitB "int" "tuple" = some false), h⟩
theorem z_k_int_str {u : Int} {R : Bool → Prop} (h : R false) : ∃ k, isDc (.int u) = false ∧ kitB (tyD (.int u)) "str" = some k ∧ R k := ⟨false, rfl, (by decide +kernel : kitB "int" "str" = some false), h⟩
theorem z_k_int_int {u : Int} {R : Bool → Prop} (h : R true) : ∃ k, isDc (.int u) = false ∧ kitB (tyD (.int u)) "int" = some k ∧ R k := ⟨true, rfl, (by decide +kernel : kitB "int" "int" = some true), h⟩
theorem z_k_int_bool {u : Int} {R : Bool → Prop} (h : R false) : ∃ k, isDc (.int u) = false ∧ kitB (tyD (.int u)) "bool" = some k ∧ R k := ⟨false, rfl, (by decide +kernel : kitB "int" "bool" = some false), h⟩
theorem z_k_int_list {u : Int} {R : Bool → Prop} (h : R false) : ∃ k, isDc (.int u) = false ∧ kitB (tyD (.int u)) "list" = some k ∧ R k := ⟨false, rfl, (by decide +kernel : kitB "int" "list" = some false), h⟩
theorem z_k_str_tuple {u : Str} {R : Bool → Prop} (h : R false) : ∃ k, isDc (.str u) = false ∧ kitB (tyD (.str u)) "tuple" = some k ∧ R k := ⟨false, rfl, (by decide +kernel : kitB "str" "tuple" = some false), h⟩
theorem z_k_str_str {u : Str} {R : Bool → Prop} (h : R true) : ∃ k, isDc (.str u) = false ∧ kitB (tyD (.str u)) "str" = some k ∧ R k := ⟨true, rfl, (by decide +kernel : kitB "str" "str" = some true), h⟩
theorem z_k_str_int {u : Str} {R : Bool → Prop} (h : R false) : ∃ k, isDc (.str u) = false ∧ kitB (tyD (.str u)) "int" = some k ∧ R k := ⟨false, rfl, (by decide +kernel : kitB "str" "int" = some false), h⟩
theorem z_k_str_bool {u : Str} {R : Bool → Prop} (h : R false) : ∃ k, isDc (.str u) = false ∧ kitB (tyD (.str u)) "bool" = some k ∧ R k := ⟨false, rfl, (by decide +kernel : kitB "str" "bool" = some false), h⟩
theorem z_k_str_list {u : Str} {R : Bool → Prop} (h : R false) : ∃ k, isDc (.str u) = false ∧ kitB (tyD (.str u)) "list" = some k ∧ R k := ⟨false, rfl, (by decide +kernel : kitB "str" "list" = some false), h⟩
theorem z_k_tuple_tuple {u : List Dat} {R : Bool → Prop} (h : R true) : ∃ k, isDc (.tuple u) = false ∧ kitB (tyD (.tuple u)) "tuple" = some k ∧ R k := ⟨true, rfl, (by decide +kernel : kitB "tuple" "tuple" = some true), h⟩
theorem z_k_tuple_str {u : List Dat} {R : Bool → Prop} (h : R false) : ∃ k, isDc (.tuple u) = false ∧ kitB (tyD (.tuple u)) "str" = some k ∧ R k := ⟨false, rfl, (by decide +kernel : kitB "tuple" "str" = some false), h⟩
theorem z_k_tuple_int {u : List Dat} {R : Bool → Prop} (h : R false) : ∃ k, isDc (.tuple u) = false ∧ kitB (tyD (.tuple u)) "int" = some k ∧ R k := ⟨false, rfl, (by decide +kernel : kitB "tuple" "int" = some false), h⟩
theorem z_k_tuple_bool {u : List Dat} {R : Bool → Prop} (h : R false) : ∃ k, isDc (.tuple u) = false ∧ kitB (tyD (.tuple u)) "bool" = some k ∧ R k := ⟨false, rfl, (by decide +kernel : kitB "tuple" "bool" = some false), h⟩
theorem z_k_tuple_list {u : List Dat} {R : Bool → Prop} (h : R false) : ∃ k, isDc (.tuple u) = false ∧ kitB (tyD (.tuple u)) "list" = some k ∧ R k := ⟨false, rfl, (by decide +kernel : kitB "tuple" "list" = some false), h⟩
theorem z_k_list_tuple {u : List Dat} {R : Bool → Prop} (h : R false) : ∃ k, isDc (.list u) = false ∧ kitB (tyD (.list u)) "tuple" = some k ∧ R k := ⟨false, rfl, (by decide +kernel : kitB "list" "tuple" = some false), h⟩
theorem z_k_list_str {u : List Dat} {R : Bool → Prop} (h : R false) : ∃ k, isDc (.list u) = false ∧ kitB (tyD (.list u)) "str" = some k ∧ R k := ⟨false, rfl, (by decide +kernel : kitB "list" "str" = some false), h⟩
theorem z_k_list_int {u : List Dat} {R : Bool → Prop} (h : R false) : ∃ k, isDc (.list u) = false ∧ kitB (tyD (.list u)) "int" = some k ∧ R k := ⟨false, rfl, (by decide +kernel : kitB "list" "int" = some false), h⟩
theorem z_k_list_bool {u : List Dat} {R : Bool → Prop} (h : R false) : ∃ k, isDc (.list u) = false ∧ kitB (tyD (.list u)) "bool" = some k ∧ R k := ⟨false, rfl, (by decide +kernel : kitB "list" "bool" = some false), h⟩
theorem z_k_list_list {u : List Dat} {R : Bool → Prop} (h : R true) : ∃ k, isDc (.list u) = false ∧ kitB (tyD (.list u)) "list" = some k ∧ R k := ⟨true, rfl, (by decide +kernel : kitB "list" "list" = some true), h⟩
theorem z_no_none  {Q : Dat → Prop} (h : Q (.bool true)) : oIsN (.none) .none Q := ⟨rfl, h⟩
theorem z_nn_none  {Q : Dat → Prop} (h : Q (.bool false)) : oNotN (.none) .none Q := ⟨rfl, h⟩
theorem z_no_bool {u : Bool} {Q : Dat → Prop} (h : Q (.bool false)) : oIsN (.bool u) .none Q := ⟨rfl, h⟩
theorem z_nn_bool {u : Bool} {Q : Dat → Prop} (h : Q (.bool true)) : oNotN (.bool u) .none Q := ⟨rfl, h⟩
theorem z_no_int {u : Int} {Q : Dat → Prop} (h : Q (.bool false)) : oIsN (.int u) .none Q := ⟨rfl, h⟩
theorem z_nn_int {u : Int} {Q : Dat → Prop} (h : Q (.bool true)) : oNotN (.int u) .none Q := ⟨rfl, h⟩
theorem z_no_str {u : Str} {Q : Dat → Prop} (h : Q (.bool false)) : oIsN (.str u) .none Q := ⟨rfl, h⟩
theorem z_nn_str {u : Str} {Q : Dat → Prop} (h : Q (.bool true)) : oNotN (.str u) .none Q := ⟨rfl, h⟩
theorem z_no_tuple {u : List Dat} {Q : Dat → Prop} (h : Q (.bool false)) : oIsN (.tuple u) .none Q := ⟨rfl, h⟩
theorem z_nn_tuple {u : List Dat} {Q : Dat → Prop} (h : Q (.bool true)) : oNotN (.tuple u) .none Q := ⟨rfl, h⟩
theorem z_no_list {u : List Dat} {Q : Dat → Prop} (h : Q (.bool false)) : oIsN (.list u) .none Q := ⟨rfl, h⟩
theorem z_nn_list {u : List Dat} {Q : Dat → Prop} (h : Q (.bool true)) : oNotN (.list u) .none Q := ⟨rfl, h⟩
theorem z_tr_int {u : Int} {R : Bool → Prop} (h : R (u != 0)) : ∃ k, trD (.int u) k ∧ R k := ⟨_, rfl, h⟩
theorem z_tr_bool {u : Bool} {R : Bool → Prop} (h : R u) : ∃ k, trD (.bool u) k ∧ R k := ⟨_, rfl, h⟩
theorem z_tr_none {R : Bool → Prop} (h : R false) : ∃ k, trD .none k ∧ R k := ⟨_, rfl, h⟩
theorem z_tr_list {u : List Dat} {R : Bool → Prop} (h : R (!u.isEmpty)) : ∃ k, trD (.list u) k ∧ R k := ⟨_, rfl, h⟩
theorem z_tr_tuple {u : List Dat} {R : Bool → Prop} (h : R (!u.isEmpty)) : ∃ k, trD (.tuple u) k ∧ R k := ⟨_, rfl, h⟩
/-! ### a def's body: the four forms -/
theorem entry0 {O : Nat → Bool} {n : Nat} {sp : DSp} {t : TS} {d : DS} {N : List Str} {vs : List V} {H : Hp} {Q : VK} {E : XK} (h : spOf n none false sp vs H Q E) (ht : ∀ dy, RfS ⟨dy, ⟨O, none, false, none⟩⟩ t d) (hO : ∀ i, i < n → O i = false)
    (hd : ∀ ds Qd, ds.length = n → sp ds Qd → d ⟨fun _ => Qd .none .none, fun r _ => Qd r .none, fun _ => False, fun _ => False⟩ (envOf N.length ds)) : t { nx := fun _ H' => Q .non H', rt := Q } (L2.start N vs) H := by
  refine entry (S := ⟨O, none, false, none⟩) h ht (fun i hi => ⟨fun z => ?_, fun z => nomatch z⟩) rfl (.inl rfl) fun ds Qd hn hs => ?_
  · have := hO i hi
    rw [show O i = true from z] at this
    cases this
  · have e : (fun E => false = false ∧ (endsOf none Qd).nx E) = (fun _ => Qd .none .none : DEnv → Prop) := funext fun E => propext ⟨fun h => h.2, fun h => ⟨rfl, h⟩⟩
    have := hd ds Qd hn hs
    show d ⟨fun E => false = false ∧ (endsOf none Qd).nx E, _, _, _⟩ _
    rw [e]
    exact this
theorem entry0F {O : Nat → Bool} {n : Nat} {sp : DSp} {t : TS} {d : DS} {N : List Str} {vs : List V} {H : Hp} {Q : VK} {E : XK} (h : spOf n none true sp vs H Q E) (ht : ∀ dy, RfS ⟨dy, ⟨O, none, true, none⟩⟩ t d) (hO : ∀ i, i < n → O i = false)
    (hd : ∀ ds Qd, ds.length = n → sp ds Qd → d ⟨fun _ => False, fun r _ => Qd r .none, fun _ => False, fun _ => False⟩ (envOf N.length ds)) : t { nx := fun _ H' => Q .non H', rt := Q } (L2.start N vs) H := by
  refine entry (S := ⟨O, none, true, none⟩) h ht (fun i hi => ⟨fun z => ?_, fun z => nomatch z⟩) rfl (.inl rfl) fun ds Qd hn hs => ?_
  · have := hO i hi
    rw [show O i = true from z] at this
    cases this
  · have e : (fun E => true = false ∧ (endsOf none Qd).nx E) = (fun _ => False : DEnv → Prop) := funext fun E => propext ⟨fun h => (by cases h.1), fun h => h.elim⟩
    have := hd ds Qd hn hs
    show d ⟨fun E => true = false ∧ (endsOf none Qd).nx E, _, _, _⟩ _
    rw [e]
    exact this
theorem entryM {O : Nat → Bool} {n : Nat} {sp : DSp} {t : TS} {d : DS} {N : List Str} {vs : List V} {H : Hp} {Q : VK} {E : XK} (h : spOf (n + 1) (some 0) false sp vs H Q E) (ht : ∀ dy, RfS ⟨dy, ⟨O, some 0, false, none⟩⟩ t d) (h0 : O 0 = true) (hO : ∀ i, i < n + 1 → i ≠ 0 → O i = false)
    (hd : ∀ ds Qd, ds.length = n + 1 → sp ds Qd → d ⟨fun E => ∃ o, E[0]? = some (some o) ∧ Qd .none o, fun r E => ∃ o, E[0]? = some (some o) ∧ Qd r o, fun _ => False, fun _ => False⟩ (envOf N.length ds)) : t { nx := fun _ H' => Q .non H', rt := Q } (L2.start N vs) H := by
  refine entry (S := ⟨O, some 0, false, none⟩) h ht (fun i hi => ⟨fun z => ?_, fun z => ?_⟩) rfl (.inr ⟨0, rfl, Nat.succ_pos _⟩) fun ds Qd hn hs => ?_
  · by_cases e : i = 0
    · rw [e]
    · have := hO i hi e
      rw [show O i = true from z] at this
      cases this
  · cases z
    exact h0
  · have e : (fun E => false = false ∧ (endsOf (some 0) Qd).nx E) = (fun E => ∃ o, E[0]? = some (some o) ∧ Qd .none o : DEnv → Prop) := funext fun E => propext ⟨fun h => h.2, fun h => ⟨rfl, h⟩⟩
    have := hd ds Qd hn hs
    show d ⟨fun E => false = false ∧ (endsOf (some 0) Qd).nx E, _, _, _⟩ _
    rw [e]
    exact this
theorem entryMF {O : Nat → Bool} {n : Nat} {sp : DSp} {t : TS} {d : DS} {N : List Str} {vs : List V} {H : Hp} {Q : VK} {E : XK} (h : spOf (n + 1) (some 0) true sp vs H Q E) (ht : ∀ dy, RfS ⟨dy, ⟨O, some 0, true, none⟩⟩ t d) (h0 : O 0 = true) (hO : ∀ i, i < n + 1 → i ≠ 0 → O i = false)
    (hd : ∀ ds Qd, ds.length = n + 1 → sp ds Qd → d ⟨fun E => False, fun r E => ∃ o, E[0]? = some (some o) ∧ Qd r o, fun _ => False, fun _ => False⟩ (envOf N.length ds)) : t { nx := fun _ H' => Q .non H', rt := Q } (L2.start N vs) H := by
  refine entry (S := ⟨O, some 0, true, none⟩) h ht (fun i hi => ⟨fun z => ?_, fun z => ?_⟩) rfl (.inr ⟨0, rfl, Nat.succ_pos _⟩) fun ds Qd hn hs => ?_
  · by_cases e : i = 0
    · rw [e]
    · have := hO i hi e
      rw [show O i = true from z] at this
      cases this
  · cases z
    exact h0
  · have e : (fun E => true = false ∧ (endsOf (some 0) Qd).nx E) = (fun _ => False : DEnv → Prop) := funext fun E => propext ⟨fun h => (by cases h.1), fun h => h.elim⟩
    have := hd ds Qd hn hs
    show d ⟨fun E => true = false ∧ (endsOf (some 0) Qd).nx E, _, _, _⟩ _
    rw [e]
    exact this
theorem z_mret {E : DEnv} {o : Dat} {Q : Dat → Prop} (h : E[0]? = some (some o)) (q : Q o) : ∃ o, E[0]? = some (some o) ∧ Q o := ⟨o, h, q⟩
end Dl
namespace Dl
open PySem PySem.Spec PyProof.Rows L2 Ss
theorem pg_tupK {X : Cx} {K : PySem.W.Frag} {es : List Expr} {k n : Nat} {t : TGs} {pos : Pos} (hK : X.K = K) (hc : X.calm = true) (h : PGs X es t) (hn : (assignEach es X.env).length = n) (hst : (assignEach es X.env).findIdx? (·.1) = none) : PG X (.Tuple es k pos) (gTup K n t) := by
  subst hK
  exact pg_tup hc h hn hst
end Dl
namespace Sk
open PySem PySem.W PySem.Calls PyProof.Rows L2
/-! ### keys -/
def ScB : Bool → PyData → Prop
  | false, d => ∃ i, d = .int i
  | true, d => ∃ x, d = .str x
/-- keys that can be sorted: alike data, or pairs of a truth value and a scalar of the kind that it tells -/
def KeysOk (ds : List PyData) : Prop := (AllAlike ds ∧ Sortable ds ∧ ∀ d ∈ ds, d.depth ≤ 8) ∨ ∀ d ∈ ds, ∃ b x, d = .tuple [.bool b, x] ∧ ScB b x
theorem scb_depth {b : Bool} {x : PyData} (h : ScB b x) : x.depth = 0 := by
  cases b with
  | false => obtain ⟨i, rfl⟩ := h; simp [PyData.depth]
  | true => obtain ⟨i, rfl⟩ := h; simp [PyData.depth]
theorem scb_alike {b : Bool} {x y : PyData} (h : ScB b x) (h' : ScB b y) : alike x y = true := by
  cases b with
  | false => obtain ⟨i, rfl⟩ := h; obtain ⟨j, rfl⟩ := h'; simp [alike]
  | true => obtain ⟨i, rfl⟩ := h; obtain ⟨j, rfl⟩ := h'; simp [alike]
theorem bp_alike (b : Bool) {x y : PyData} (h : alike x y = true) : alike (.tuple [.bool b, x]) (.tuple [.bool b, y]) = true := by
  simp [alike, alikeAll, h]
theorem bp_read {h : Heap} {v : Value} {b : Bool} {x : PyData} {as : List Addr} (r : Reads h v (.tuple [.bool b, x]) as) : ∃ a o n u bs, v = .ref a ∧ h.get? a = some o ∧ o.cls = .type "tuple" ∧ o.data = .seq #[.bool b, u] n ∧ Reads h u x bs := by
  cases r with
  | @tuple a o vs n _ as' h1 h2 h3 h4 =>
    generalize e : vs.toList = l at h4
    cases h4 with
    | cons r1 r2 =>
      cases r2 with
      | cons r3 r4 =>
        cases r4
        cases r1
        refine ⟨a, o, n, _, _, rfl, h1, h2, ?_, r3⟩
        rw [h3]
        congr 1
        apply Array.toList_inj.mp
        rw [e]
theorem uniq {h : Heap} {ds : List PyData} (U : KeysOk ds) {v : Value} {d d' : PyData} {as as' : List Addr} (hd : d ∈ ds) (hd' : d' ∈ ds) (r : Reads h v d as) (r' : Reads h v d' as') : d = d' := by
  rcases U with ⟨ha, _⟩ | hb
  · exact alike_unique _ _ _ _ _ (ha d hd d' hd') r r'
  · obtain ⟨b, x, rfl, sx⟩ := hb d hd
    obtain ⟨b', x', rfl, sx'⟩ := hb d' hd'
    obtain ⟨a, o, n, u, bs, rfl, h1, h2, h3, h4⟩ := bp_read r
    obtain ⟨a', o', n', u', bs', e, k1, k2, k3, k4⟩ := bp_read r'
    cases e
    rw [h1] at k1
    cases k1
    rw [h3] at k3
    injection k3 with k3 k5
    have k6 := congrArg Array.toList k3
    simp only [List.cons.injEq, Value.bool.injEq, and_true] at k6
    obtain ⟨rfl, rfl⟩ := k6
    rw [alike_unique _ _ _ _ _ (scb_alike sx sx') h4 k4]
theorem dk_some {h : Heap} {ds : List PyData} (U : KeysOk ds) {v : Value} {d : PyData} {as : List Addr} (hd : d ∈ ds) (r : Reads h v d as) : (dataKind h ds).keyOf v = some (keyToks d) := by
  have ex : ∃ z, z ∈ ds ∧ ∃ zs, Reads h v z zs := ⟨d, hd, as, r⟩
  have e : (dataKind h ds).keyOf v = some (keyToks ex.choose) := by
    unfold dataKind
    exact dif_pos ex
  obtain ⟨h1, zs, h2⟩ := ex.choose_spec
  rw [e, uniq U h1 hd h2 r]
section
variable {prog : Program} {w : World} {A : Around} {s : Shared}
theorem lt_ord {ds : List PyData} (hb : ∀ d ∈ ds, ∃ b x, d = PyData.tuple [.bool b, x] ∧ ScB b x) (hu : A.units + 8 < cLine) : PyProof.Rows.H.LtAt prog w A s (dataKind s.heap ds) (tuples' true) := by
  intro E x y a b Q ha hb' hq
  obtain ⟨d, as, hd, ra, rfl⟩ := dataKind_inv ha
  obtain ⟨d', as', hd', rb, rfl⟩ := dataKind_inv hb'
  obtain ⟨p, z, rfl, sz⟩ := hb d hd
  obtain ⟨p', z', rfl, sz'⟩ := hb d' hd'
  obtain ⟨a1, o, n, u, bs, rfl, h1, h2, h3, h4⟩ := bp_read ra
  obtain ⟨a2, o', n', u', bs', rfl, k1, k2, k3, k4⟩ := bp_read rb
  have hq' : Q (dataLt (.tuple [.bool p, z]) (.tuple [.bool p', z'])) s := hq
  rw [dataLt_tuple, dataLt_cons (by simp [alike])] at hq'
  refine kat_lt h1 h3 k1 k3 ?_
  refine kat_cons (SeqAt.EqAt.bool_bool p p' prog w _ _ ?_)
  by_cases e : p = p'
  · subst e
    have e1 : (p == p) = true := by simp
    have e2 : PyData.eqv (.bool p) (.bool p) = true := by simp [PyData.eqv]
    rw [e2, if_pos rfl, dataLt_cons (scb_alike sz sz')] at hq'
    rw [e1]
    refine kat_yes (kat_cons (eqAt_alike z z' A s u u' _ _ h4 k4 (scb_alike sz sz') (by rw [scb_depth sz, scb_depth sz']; show A.units + 0 < cLine; omega) prog w _ _ ?_))
    cases ez : PyData.eqv z z' with
    | true =>
      rw [ez, if_pos rfl] at hq'
      refine kat_yes (kat_nil ?_)
      rw [show PyProof.Rows.lexLt itemOrd (keyToksAll []) (keyToksAll []) = false from lex_irrefl _] at hq'
      simpa using hq'
    | false =>
      rw [ez, if_neg Bool.false_ne_true] at hq'
      refine kat_no (oneLt_alike (fun f => ?_) h4 k4 (scb_alike sz sz') (ne_none_of (scb_alike sz sz') ez) (by rw [scb_depth sz, scb_depth sz']; show A.units + 0 < cLine; omega) hq')
      simp at f
  · have e1 : (p == p') = false := by simpa using e
    have e2 : PyData.eqv (.bool p) (.bool p') = false := by simpa [PyData.eqv] using e
    rw [e2, if_neg Bool.false_ne_true] at hq'
    rw [e1]
    refine kat_no ?_
    rw [show (true && (0 : Nat) == 0) = true from rfl]
    rw [dataLt_bool] at hq'
    exact oneLt_bool hq'
theorem sorts_at {vs : List Value} {ds : List PyData} (U : KeysOk ds) (e : EachIs (fun v d => ∃ as, Reads s.heap v d as) vs ds) (hu : A.units + 8 < cLine) : SortsAt prog w A s (dataKind s.heap ds) vs := by
  have U' := U
  rcases U with ⟨h1, h2, h3⟩ | hb
  · exact SortsAt.data e h1 h2 fun d hd => by have := h3 d hd; omega
  · refine ⟨fun v hv => ?_, tuples' true, lt_ord hb hu, fun h2 E Q hq => ?_⟩
    · obtain ⟨d, hd, as, r⟩ := e.left v hv
      exact ⟨_, dk_some U' hd r⟩
    · obtain ⟨fs, t1, t2, t3⟩ := each_katTups e fun d hd => by
        obtain ⟨b, x, rfl, _⟩ := hb d hd
        exact ⟨_, _, rfl⟩
      refine kat_kind (T := .type "bool") t1 (by omega) (fun f hf => ?_) (beq_self_eq_true _) hq
      obtain ⟨x, r, as, m1, m2⟩ := t3 f hf
      obtain ⟨b, y, e2, _⟩ := hb _ m1
      cases e2
      exact looks_reads m2
end
/-! ### what is sorted: a list, a tuple, a dict's keys -/
section
variable {prog : Program} {w : World} {A : Around} {s : Shared}
/-- taken up, r gives values that stand for xs; all that was there stays -/
def Src (prog : Program) (w : World) (A : Around) (s : Shared) (r : Addr) (xs : List V) : Prop := ∀ (E : Value → Shared → Prop) (Q : List Value → Shared → Prop),
  (∀ vs h' tk, Vals xs vs → (∀ b o, s.heap.get? b = some o → h'.get? b = some o) → Q vs { s with heap := h', toks := tk }) → wpAny (model prog w) A (collect (.ref r)) Q E s
theorem keep_up {h : Heap} {o : Obj} {f : Obj → Obj} {b : Addr} {ob : Obj} (e : h.get? b = some ob) : ((h.push o).update h.objs.size f).get? b = some ob := by
  rw [Heap.get?_update_ne _ _ _ _ (Nat.ne_of_lt (Heap.lt_size e))]
  exact Heap.get?_push_of_some _ e
theorem src_list {r : Addr} {xs : List V} {vs : List Value} (rv : Vals xs vs) (hl : s.heap.IsList r vs.toArray) (hz : xs.length ≤ sizeLine) : Src prog w A s r xs := fun E Q h =>
  collect_list hl (h vs _ s.toks rv fun b o e => keep_up e) (by rw [← rv.length]; exact hz)
theorem src_tup {r : Addr} {xs : List V} {vs : List Value} (rv : Vals xs vs) (hl : s.heap.IsTuple r vs.toArray) (hz : xs.length ≤ sizeLine) : Src prog w A s r xs := fun E Q h => by
  obtain ⟨o, ho, hc, n, hd⟩ := id hl
  have hz' : vs.length ≤ sizeLine := by rw [← rv.length]; exact hz
  have ho' : (s.heap.push (seqObj "list" #[] 0)).get? r = some o := Heap.get?_push_of_some _ ho
  have hne : s.heap.objs.size ≠ r := Nat.ne_of_gt (Heap.lt_size ho)
  have hnew : (s.heap.push (seqObj "list" #[] 0)).get? s.heap.objs.size = some (seqObj "list" #[] 0) := Heap.get?_push_size _ rfl
  unfold collect
  refine wpAny_bind (wpAny_runValue (codeAny_builtin entry_proto_collect' ?_))
  show wpAny _ _ (newList [] >>= fun l => again (.builtin "list.__iadd__" ⟨[l, .ref r], []⟩)) _ _ s
  refine wpAny_bind (wpAny_newList ?_)
  refine wpAny_pure ⟨Code.quiet_builtin _ (by decide +kernel), codeAny_builtin entry_list_iadd' ?_⟩
  show wpAny _ _ (Builtin.List.listExtendWith (.ref s.heap.objs.size) (.ref r) (.ref s.heap.objs.size)) _ _ { s with heap := s.heap.push (seqObj "list" #[] 0) }
  unfold Builtin.List.listExtendWith
  refine wpAny_bind (wpAny_typeOf (T := "tuple") ⟨o, ho', hc⟩ ?_)
  rw [if_pos (by have : (Value.type "tuple" == Value.type "tuple") = true := by rfl
                 rw [this, Bool.or_true])]
  refine wpAny_bind (listItems_at ho' hd (wpAny_bind (listItems_at (xs := #[]) (n := 0) hnew rfl ?_)))
  rw [if_neg (by simp)]
  refine wpAny_bind (listUpdate_at (xs := #[]) (n := 0) hnew rfl ?_ (Nat.zero_le _) (by show (#[] ++ vs.toArray).size ≤ sizeLine + 1; simp only [Array.size_append, List.size_toArray, List.length_nil]; omega))
  refine wpAny_pure ?_
  show wpAny (model prog w) A (load s.heap.objs.size >>= _) Q E { s with heap := (s.heap.push (seqObj "list" #[] 0)).update s.heap.objs.size (Obj.mapSeq (· ++ vs.toArray)) }
  refine wpAny_bind (wpAny_load (get?_update_seq hnew _) ?_)
  show wpAny _ _ (pure ((#[] : Array Value) ++ vs.toArray).toList) Q E _
  rw [show ((#[] : Array Value) ++ vs.toArray).toList = vs by simp]
  exact wpAny_pure (h vs _ s.toks rv fun b o e => keep_up e)
/-- sorted(..) of such a thing is list.sort(..) of a new list -/
theorem sorted_src {r : Addr} {xs : List V} {kw : List (Str × Value)} {Q : Value → Shared → Prop} {E : Value → Shared → Prop} (S : Src prog w A.in1 s r xs) (hz : xs.length ≤ sizeLine) (ha1 : argsOk "sorted" ⟨[.ref r], kw⟩) (ha2 : ∀ x, argsOk "list.sort" ⟨[.ref x], kw⟩)
    (body : ∀ (vs : List Value) (h' : Heap) (tk : Nat), Vals xs vs → (∀ b o, s.heap.get? b = some o → h'.get? b = some o) →
      ∀ E' : Value → Shared → Prop, wpAny (model prog w) A.in1.in1 (Builtin.«list.sort» ⟨[.ref h'.objs.size], kw⟩) (fun f s' => f = .done (.ret .none) ∧ Q (.ref h'.objs.size) s') E' { s with heap := h'.push (seqObj "list" vs.toArray 0), toks := tk }) :
    wpAny (model prog w) A (call (.builtin "sorted") [.ref r] kw) Q E s := by
  refine call_function_entry_kw kind_sorted plain_sorted entry_sorted ha1 ?_
  unfold Builtin.«sorted»
  refine wpAny_bind (m := checkCount "sorted" 1 1 _) (wpAny_pure (wpAny_bind (S _ _ fun vs h' tk rv k => ?_)))
  have hz' : vs.length ≤ sizeLine := by rw [← rv.length]; exact hz
  refine wpAny_bind (wpAny_newList ?_ hz')
  have hD : (h'.push (seqObj "list" vs.toArray 0)).get? h'.objs.size = some (seqObj "list" vs.toArray 0) := Heap.get?_push_size _ rfl
  refine wpAny_bind (wpAny_holding (wpAny_call_entry_kw slot_list_sort ⟨_, hD, rfl⟩ entry_list_sort (wpAny_mono (body vs h' tk rv k _) (fun f s' hf => ?_) fun _ _ e => e) (ha2 _)))
  obtain ⟨rfl, hq⟩ := hf
  exact ⟨_, rfl, wpAny_pure ⟨_, rfl, hq⟩⟩
end
/-! ### the sort itself, over what is tracked -/
/-- the sorted row, whatever its items stand for -/
def Out (rev : Bool) (ds : List PyData) (vs out : List Value) : Prop := ∀ {β : Type} (R : Value → β → Prop) (bs : List β) (k : β → PyData), bs.map k = ds → EachIs R vs bs → EachIs R out (bs.mergeSort (dataLe rev k))
theorem out_of {rev : Bool} {h : Heap} {ds : List PyData} {ks vs : List Value} (U : KeysOk ds) (e : EachIs (fun v d => ∃ as, Reads h v d as) ks ds) : Out rev ds vs (sortVals (dataKind h ds) rev ks vs) := fun R bs k hk hR => by
  subst hk
  refine sortVals_each (κ := dataKind h (bs.map k)) (fun b => keyToks (k b)) hR ?_
  exact each_of_map (R := fun (v : Value) (d : PyData) => (dataKind h (bs.map k)).keyOf v = some (keyToks d)) k ((each_mem e).mono fun v d ⟨⟨as, r⟩, hd⟩ => dk_some U hd r)
theorem vals_each {K : PySem.W.Frag} {X : Cx} {pins : List (Addr × Obj)} {σ : L2.St} {H : Hp} {s : Shared} (I : Inv X pins σ H s) : ∀ {kv : List V} {us : List Value} {ds : List PyData}, Vals kv us → DpAll X.K H kv ds → EachIs (fun v d => ∃ as, Reads s.heap v d as) us ds
  | _, _, _, .nil, .nil => .nil
  | _, _, _, .cons r t, .cons a l => .cons (Dp.reads I _ _ _ a r) (vals_each (K := K) I t l)
theorem dp_snoc {K : PySem.W.Frag} {H : Hp} {v : V} {d : PyData} (a : Dp K H v d) : ∀ {vs : List V} {ds : List PyData}, DpAll K H vs ds → DpAll K H (vs ++ [v]) (ds ++ [d])
  | _, _, .nil => .cons a .nil
  | _, _, .cons b l => .cons b (dp_snoc a l)
theorem seqT_same {K : PySem.W.Frag} {H H' : Hp} {a : Addr} {xs : List V} (sm : Same H H') (h : SqT K H a xs) : SqT K H' a xs := by
  rcases h with (h | ⟨o, h⟩) | h
  · exact .inl (.inl (sm _ _ h))
  · exact .inl (.inr ⟨o, sm _ _ h⟩)
  · exact .inr h
mutual
theorem dp_same {K : PySem.W.Frag} {H H' : Hp} (sm : Same H H') : ∀ {v : V} {d : PyData}, Dp K H v d → Dp K H' v d
  | _, _, .non => .non
  | _, _, .bl b => .bl b
  | _, _, .int i => .int i
  | _, _, .str x => .str x
  | _, _, .lst h l => .lst (sm.seq h) (dp_sameL sm l)
  | _, _, .tup h l => .tup (seqT_same sm h) (dp_sameL sm l)
theorem dp_sameL {K : PySem.W.Frag} {H H' : Hp} (sm : Same H H') : ∀ {v : List V} {d : List PyData}, DpAll K H v d → DpAll K H' v d
  | _, _, .nil => .nil
  | _, _, .cons a l => .cons (dp_same sm a) (dp_sameL sm l)
end
theorem dp_len {K : PySem.W.Frag} {H : Hp} : ∀ {v : List V} {d : List PyData}, DpAll K H v d → v.length = d.length
  | _, _, .nil => rfl
  | _, _, .cons a l => congrArg (· + 1) (dp_len l)
theorem heap_hide (h : Heap) (k : Addr) : ∃ g : Heap, g.get? k = none ∧ ∀ b o, g.get? b = some o → h.get? b = some o ∧ b ≠ k := by
  obtain ⟨G, g1, g2⟩ := restrict h fun b => decide (b ≠ k)
  refine ⟨G, g2 k (by simp), fun b o e => ?_⟩
  by_cases hb : b = k
  · rw [hb, g2 k (by simp)] at e
    cases e
  · rw [g1 b (decide_eq_true hb)] at e
    exact ⟨e, hb⟩
theorem heap_hide2 (h : Heap) (k : Addr) : ∃ g : Heap, g.get? k = none ∧ (∀ b, b ≠ k → g.get? b = h.get? b) := by
  obtain ⟨G, g1, g2⟩ := restrict h fun b => decide (b ≠ k)
  exact ⟨G, g2 k (by simp), fun b hb => g1 b (decide_eq_true hb)⟩
section
variable {X : Cx} {pins : List (Addr × Obj)} {σ : L2.St} {H : Hp} {s : Shared} {D : Addr} {f : Value} {rev : Bool} {xs : List V} {vs : List Value} {ds : List PyData} {P : PySem.Fin → Shared → Prop} {E : Value → Shared → Prop}
theorem fpOk_of {H' : Hp} {b : Addr} (f : FpOk X pins H b) (n : H' b = none) : FpOk X pins H' b := ⟨n, f.2⟩
/-- behind the keys: the order is made, the list's own object takes its row -/
theorem run_end {A : Around} {kS : Addr} {keys : Array Value} {kv : List V} {e e1 : Nat} (I : Inv X pins σ H s) (fD : FpOk X pins H D) (fS : FpOk X pins H kS) (hne : kS ≠ D) (nk : s.heap.get? kS = some (seqObj "list" keys e)) (na : s.heap.get? D = some (seqObj "list" #[] e1))
    (rk : Vals kv keys.toList) (dk : DpAll X.K H kv ds) (U : KeysOk ds) (hu : A.units + 8 < cLine) (hl : ds.length = vs.length) (hz : vs.length ≤ sizeLine)
    (fin : ∀ h' tk out c, Inv X pins σ H { s with heap := h', toks := tk } → h'.get? D = some (seqObj "list" (List.toArray out) c) → Out rev ds vs out → P (.done (.ret .none)) { s with heap := h', toks := tk }) :
    wpAny (model X.prog X.w) A (ksk_end D rev vs.toArray e1 (.ref kS) keys) P E s := by
  have ek := vals_each (K := X.K) I rk dk
  have hsz : keys.size = vs.length := by
    rw [← hl, ← ek.length, Array.length_toList]
  obtain ⟨G, g1, g2⟩ := heap_hide2 s.heap kS
  refine keyH_end (κ := dataKind s.heap ds) (h₁ := G) (fun b o _ q => by
      by_cases hb : b = kS
      · rw [hb, g1] at q
        cases q
      · rw [g2 b hb] at q
        exact q) g1 nk na hne (sorts_at U ek hu) hsz hz fun h' tk c kp hD => ?_
  have kk : ∀ b o, b ≠ D → b ≠ kS → s.heap.get? b = some o → h'.get? b = some o := fun b o b1 b2 q => kp b o b1 ((g2 b b2).trans q)
  refine fin h' tk _ c ?_ hD (out_of U ek)
  obtain ⟨d0, d1, d2, d3, d4, d5⟩ := fD
  obtain ⟨k0, k1, k2, k3, k4, k5⟩ := fS
  have two : ∀ {b : Addr}, b ∈ [D, kS] → b = D ∨ b = kS := fun {b} hb => by simpa using hb
  have out2 : ∀ {b : Addr}, b ∉ [D, kS] → b ≠ D ∧ b ≠ kS := fun {b} hb => by simpa using hb
  refine I.step (g' := s.gens) (d' := s.drawn) (ch := [D, kS]) (fun b hb => ?_) (fun b o _ _ hc q _ => kk b o (out2 hc).1 (out2 hc).2 q) (fun b o _ _ hc q _ => ⟨o.slots, kk b o (out2 hc).1 (out2 hc).2 q⟩) (fun _ _ _ _ n => n)
    (fun b o hc q => ⟨o, kk b o (out2 hc).1 (out2 hc).2 q⟩) (fun _ _ q => q) (fun _ _ _ q => q) (fun b ps q => ⟨#[], by rw [q]; simp⟩) (fun m hm => ?_) (fun b u q => ?_) I.bare
  · rcases two hb with rfl | rfl
    · exact ⟨d3, d1, d4, d5⟩
    · exact ⟨k3, k1, k4, k5⟩
  · obtain ⟨o, es, ep, ho, r⟩ := hm
    exact ⟨o, es, ep, kk _ o d1.symm k1.symm ho, r⟩
  · have nt : ∀ {c : Addr} {w : HO}, H c = some w → c ≠ D ∧ c ≠ kS := fun {c w} q => ⟨fun z => (by rw [z, d0] at q; cases q), fun z => (by rw [z, k0] at q; cases q)⟩
    refine (I.hok b u q).stay (fun c v hc q' => ?_) (fun _ q => q) fun _ _ q => q
    rcases hc with z | z
    · rw [z] at q' ⊢
      exact kk _ _ (nt q).1 (nt q).2 q'
    · exact kk _ _ (nt z).1 (nt z).2 q'
/-- the keys, one call after the other -/
theorem run_rest {A : Around} {kS : Addr} {e1 : Nat} (I : Inv X pins σ H s) (fD : FpOk X pins H D) (fS : FpOk X pins H kS) (hne : kS ≠ D) (nk : s.heap.get? kS = some (seqObj "list" #[] 0)) (na : s.heap.get? D = some (seqObj "list" #[] e1))
    (rv : Vals xs vs) (U : KeysOk ds) (hu : A.units + 8 < cLine) (hl : ds.length = xs.length) (hz : xs.length ≤ sizeLine)
    (turn : ∀ (i : Nat) (x : V) (d : PyData) (u : Value) (pn : List (Addr × Obj)) (H' : Hp) (s' : Shared), xs[i]? = some x → ds[i]? = some d → L2.RelV x u → Inv X pn σ H' s' → Same H H' →
      wpAny (model X.prog X.w) A (call f [u]) (EP X pn σ fun y H2 => Same H' H2 ∧ Dp X.K H2 y d) (fun _ _ => False) s')
    (fin : ∀ H' s' out c, Same H H' → Inv X pins σ H' s' → FpOk X pins H' D → s'.heap.get? D = some (seqObj "list" (List.toArray out) c) → Out rev ds vs out → P (.done (.ret .none)) s') :
    wpAny (model X.prog X.w) A (ksk_rest D f rev vs.toArray e1 (.ref kS)) P E s := by
  have hl' : vs.length = xs.length := rv.length.symm
  unfold ksk_rest
  refine wpAny_bind (wpAny_rule ?_)
  first
    | rw [List.forIn_toArray]
    | rw [← Array.forIn_toList]
  refine wpAny_bind (ksk_fold (fun i s' => ∃ (H' : Hp) (kA : Array Value) (e : Nat) (kv : List V), Inv X pins σ H' s' ∧ Same H H' ∧ FpOk X pins H' D ∧ FpOk X pins H' kS ∧ s'.heap.get? kS = some (seqObj "list" kA e) ∧ s'.heap.get? D = some (seqObj "list" #[] e1) ∧ Vals kv kA.toList ∧ DpAll X.K H' kv (ds.take i)) vs 0 s
    ⟨H, #[], 0, [], I, Same.refl H, fD, fS, nk, na, .nil, .nil⟩ ?step ?done)
  case step =>
    rintro j u s' hu ⟨H', kA, e, kv, I', sm, fD', fS', nk', na', rk, dk⟩
    simp only [Nat.zero_add] at dk ⊢
    have hj : j < xs.length := by rw [← hl']; exact (List.getElem?_eq_some_iff.mp hu).1
    have hx : xs[j]? = some xs[j] := List.getElem?_eq_getElem hj
    have hd : ds[j]? = some (ds[j]'(by omega)) := List.getElem?_eq_getElem (by omega)
    obtain ⟨u', hu', ru⟩ := rv.get hx
    rw [hu] at hu'
    cases hu'
    have Ip := I'.pinned (fp := [D, kS]) (fun b hb => by
        have : b = D ∨ b = kS := by simpa using hb
        rcases this with rfl | rfl
        · exact fD'
        · exact fS') (fun b hb => by
        have : b = D ∨ b = kS := by simpa using hb
        rcases this with rfl | rfl
        · exact ⟨_, na', fun v q => by cases q⟩
        · exact ⟨_, nk', fun v q => by cases q⟩)
    refine wpAny_bind (wpAny_attempt (wpAny_mono (turn j _ _ u _ H' s' hx hd ru Ip sm) (fun v s2 hv => ?_) fun _ _ z => z.elim))
    obtain ⟨y, H2, I2, ry, sm2, dy⟩ := hv
    have pD := I2.pin (D, seqObj "list" #[] e1) (List.mem_append_right _ (List.mem_append_right _ (mem_pinsAt (by simp) na')))
    have pS := I2.pin (kS, seqObj "list" kA e) (List.mem_append_right _ (List.mem_append_right _ (mem_pinsAt (by simp) nk')))
    have nkz : kA.size ≤ sizeLine := by
      have h1 : kv.length = kA.size := rk.length.trans Array.length_toList
      have h2 := dp_len dk
      rw [List.length_take] at h2
      omega
    have I3 := I2.unpinned
    have fD3 : FpOk X pins H2 D := fpOk_of fD' pD.2.1
    have fS3 : FpOk X pins H2 kS := fpOk_of fS' pS.2.1
    try dsimp only
    have s1 := Heap.SameBut.update s2.heap kS (Obj.mapSeq (·.push v))
    obtain ⟨c2, hc2⟩ : ∃ c2, (s2.heap.update kS (Obj.mapSeq (·.push v))).get? kS = some (seqObj "list" (kA.push v) c2) := ⟨_, get?_update_seq pS.1 (·.push v)⟩
    refine wpAny_bind (listUpdate_at pS.1 rfl ?_ nkz (by rw [Array.size_push]; omega))
    have I4 : Inv X pins σ H2 { s2 with heap := s2.heap.update kS (Obj.mapSeq (·.push v)) } := I3.turned (t' := s2.toks) (fun b o hb q => (s1.2 b hb).trans q) fS3.1 fS3.2.1 fS3.2.2.2.1 fS3.2.2.2.2.1 fS3.2.2.2.2.2
    have ea : (kA.push v).toList = kA.toList ++ [v] := by simp
    have ek : ds.take (j + 1) = ds.take j ++ [ds[j]'(by omega)] := by
      rw [List.take_add_one, hd]
      rfl
    refine wpAny_pure ⟨rfl, H2, kA.push v, c2, kv ++ [y], I4, fun b o q => sm2 b o (sm b o q), fD3, fS3, hc2, (s1.2 D hne.symm).trans pD.1, ?_, ?_⟩
    · rw [ea]
      exact rk.append (.cons ry .nil)
    · rw [ek]
      exact dp_snoc dy (dp_sameL sm2 dk)
  case done =>
    rintro s' ⟨H', kA, e, kv, I', sm, fD', fS', nk', na', rk, dk⟩
    rw [show ds.take (0 + vs.length) = ds from List.take_of_length_le (by omega)] at dk
    try dsimp only
    refine wpAny_bind (listItems_at nk' rfl ?_)
    exact run_end I' fD' fS' hne nk' na' rk dk U hu (by omega) (by omega) fun h' tk out c I2 hD ho => fin H' _ out c sm I2 fD' hD ho
/-- while a row is sorted its own object is empty -/
theorem run_head {A : Around} {n : Nat} {t : Nat → Value → Sem PySem.Fin} (I : Inv X pins σ H s) (fD : FpOk X pins H D) (hD : s.heap.get? D = some (seqObj "list" vs.toArray n)) (hz : vs.length ≤ sizeLine)
    (h : ∀ (s' : Shared) (e1 : Nat) (kS : Addr), s'.heap = sortingHeap s.heap D vs → Inv X pins σ H s' → FpOk X pins H kS → kS ≠ D → s'.heap.get? kS = some (seqObj "list" #[] 0) → s'.heap.get? D = some (seqObj "list" #[] e1) → wpAny (model X.prog X.w) A (t e1 (.ref kS)) P E s') :
    wpAny (model X.prog X.w) A (do
      Builtin.List.listUpdate (.ref D) fun _ => #[]
      let before ← seqEpoch D
      let held ← newTuple vs.toArray.toList
      let keyStore ← newList []
      holding [held, keyStore] (t before keyStore)) P E s := by
  obtain ⟨e1, ho1⟩ : ∃ e1, (s.heap.update D (Obj.mapSeq fun _ => (#[] : Array Value))).get? D = some (seqObj "list" #[] e1) := ⟨_, get?_update_seq hD fun _ => #[]⟩
  have s1 := Heap.SameBut.update s.heap D (Obj.mapSeq fun _ => (#[] : Array Value))
  have I1 : Inv X pins σ H { s with heap := s.heap.update D (Obj.mapSeq fun _ => (#[] : Array Value)) } := I.turned (t' := s.toks) (fun b o hb q => (s1.2 b hb).trans q) fD.1 fD.2.1 fD.2.2.2.1 fD.2.2.2.2.1 fD.2.2.2.2.2
  refine wpAny_bind (listUpdate_at hD rfl ?_ (by rw [List.size_toArray]; exact hz) (Nat.zero_le _))
  refine wpAny_bind (seqEpoch_at ho1 rfl ?_)
  refine wpAny_bind (wpAny_newTuple ?_ (by simpa using hz))
  have I2 := I1.kept (t' := s.toks) (h' := (s.heap.update D (Obj.mapSeq fun _ => (#[] : Array Value))).push (seqObj "tuple" vs.toArray 0)) fun b o q => Heap.get?_push_of_some _ q
  refine wpAny_bind (wpAny_newList ?_ (Nat.zero_le _))
  have I3 := I2.kept (t' := s.toks) (h' := ((s.heap.update D (Obj.mapSeq fun _ => (#[] : Array Value))).push (seqObj "tuple" vs.toArray 0)).push (seqObj "list" #[] 0)) fun b o q => Heap.get?_push_of_some _ q
  have hlt : ((s.heap.update D (Obj.mapSeq fun _ => (#[] : Array Value))).push (seqObj "tuple" vs.toArray 0)).objs.size = s.heap.objs.size + 1 := by rw [size_push', Heap.size_update]
  have fS : FpOk X pins H ((s.heap.update D (Obj.mapSeq fun _ => (#[] : Array Value))).push (seqObj "tuple" vs.toArray 0)).objs.size := I2.fpOk (Nat.le_refl _) (I2.hok.fresh (Nat.le_refl _))
  refine wpAny_holding (h _ e1 _ rfl I3 fS ?_ (Heap.get?_push_size _ rfl) (Heap.get?_push_of_some _ (Heap.get?_push_of_some _ ho1)))
  rw [hlt]
  exact Nat.ne_of_gt (Nat.lt_succ_of_lt (Heap.lt_size hD))
theorem run_tree {A : Around} {n : Nat} (I : Inv X pins σ H s) (fD : FpOk X pins H D) (hD : s.heap.get? D = some (seqObj "list" vs.toArray n)) (rv : Vals xs vs) (U : KeysOk ds) (hu : A.units + 8 < cLine) (hl : ds.length = xs.length) (hz : xs.length ≤ sizeLine)
    (turn : ∀ (i : Nat) (x : V) (d : PyData) (u : Value) (pn : List (Addr × Obj)) (H' : Hp) (s' : Shared), xs[i]? = some x → ds[i]? = some d → L2.RelV x u → Inv X pn σ H' s' → Same H H' →
      wpAny (model X.prog X.w) A (call f [u]) (EP X pn σ fun y H2 => Same H' H2 ∧ Dp X.K H2 y d) (fun _ _ => False) s')
    (fin : ∀ H' s' out c, Same H H' → Inv X pins σ H' s' → FpOk X pins H' D → s'.heap.get? D = some (seqObj "list" (List.toArray out) c) → Out rev ds vs out → P (.done (.ret .none)) s') :
    wpAny (model X.prog X.w) A (ksk_tree D f rev) P E s := by
  unfold ksk_tree
  refine wpAny_bind (listItems_at hD rfl ?_)
  exact run_head (t := fun e1 kS => ksk_rest D f rev vs.toArray e1 kS) I fD hD (by rw [← rv.length]; exact hz) fun s' e1 kS _ I' fS hne nk na => run_rest I' fD fS hne nk na rv U hu hl hz turn fin
/-- the row, tracked -/
theorem track {H' : Hp} {s' : Shared} {out : List Value} {ys : List V} {c : Nat} (I : Inv X pins σ H' s') (fD : FpOk X pins H' D) (hD : s'.heap.get? D = some (seqObj "list" out.toArray c)) (ry : Vals ys out) (hz : ys.length ≤ sizeLine) : Inv X pins σ (upd H' D (.lst ys)) s' :=
  I.take (t' := s'.toks) (h' := s'.heap) (fun _ _ _ q => q) fD ⟨hz, out, c, ry, hD⟩
end
/-! ### as a reading -/
theorem rel_uniq {x y : V} {u : Value} (h : L2.RelV x u) (h' : L2.RelV y u) : x = y := by
  cases x <;> cases y <;> simp only [L2.RelV] at h h' <;> (try obtain ⟨_, h⟩ := h) <;> (try obtain ⟨_, h'⟩ := h') <;> simp_all
noncomputable def back (u : Value) : V := open Classical in if q : ∃ x, L2.RelV x u then q.choose else .non
theorem back_of {x : V} {u : Value} (h : L2.RelV x u) : back u = x := by
  have ex : ∃ z, L2.RelV z u := ⟨x, h⟩
  have e : back u = ex.choose := by
    unfold back
    exact dif_pos ex
  rw [e]
  exact rel_uniq ex.choose_spec h
def OutV (rev : Bool) (ds : List PyData) (xs ys : List V) : Prop := ∀ {β : Type} (R : V → β → Prop) (bs : List β) (k : β → PyData), bs.map k = ds → Paired R xs bs → Paired R ys (bs.mergeSort (dataLe rev k))
theorem each_rel {β : Type} {R : V → β → Prop} : ∀ {xs : List V} {vs : List Value} {bs : List β}, Vals xs vs → Paired R xs bs → EachIs (fun v b => ∃ x, L2.RelV x v ∧ R x b) vs bs
  | _, _, _, .nil, .nil => .nil
  | _, _, _, .cons r t, .cons a l => .cons ⟨_, r, a⟩ (each_rel t l)
theorem back_each {β : Type} {R : V → β → Prop} : ∀ {vs : List Value} {bs : List β}, EachIs (fun v b => ∃ x, L2.RelV x v ∧ R x b) vs bs → Paired R (vs.map back) bs
  | _, _, .nil => .nil
  | _, _, .cons ⟨x, r, a⟩ t => .cons (by rw [back_of r]; exact a) (back_each t)
theorem back_vals {β : Type} {R : V → β → Prop} : ∀ {vs : List Value} {bs : List β}, EachIs (fun v b => ∃ x, L2.RelV x v ∧ R x b) vs bs → Vals (vs.map back) vs
  | _, _, .nil => .nil
  | _, _, .cons ⟨x, r, a⟩ t => .cons (by rw [back_of r]; exact r) (back_vals t)
theorem paired_len {α β : Type} {R : α → β → Prop} : ∀ {xs : List α} {ys : List β}, Paired R xs ys → xs.length = ys.length
  | _, _, .nil => rfl
  | _, _, .cons _ t => congrArg (· + 1) (paired_len t)
theorem paired_tr {R : V → PyData → Prop} : ∀ {xs : List V} {ds : List PyData}, xs.length = ds.length → (∀ (i : Nat) (x : V) (d : PyData), xs[i]? = some x → ds[i]? = some d → R x d) → Paired R xs ds
  | [], [], _, _ => .nil
  | [], _ :: _, h, _ => nomatch h
  | _ :: _, [], h, _ => nomatch h
  | x :: xs, d :: ds, h, f => .cons (f 0 x d rfl rfl) (paired_tr (Nat.succ.inj h) fun i y e h1 h2 => f (i + 1) y e (by simpa using h1) (by simpa using h2))
theorem out_back {rev : Bool} {ds : List PyData} {xs : List V} {vs out : List Value} (rv : Vals xs vs) (hl : ds.length = xs.length) (o : Out rev ds vs out) : Vals (out.map back) out ∧ OutV rev ds xs (out.map back) ∧ (out.map back).length = xs.length := by
  have p0 : Paired (fun (_ : V) (_ : PyData) => True) xs ds := paired_tr hl.symm fun _ _ _ _ _ => trivial
  have e0 := o (fun v b => ∃ x, L2.RelV x v ∧ True) ds id (List.map_id ds) (each_rel rv p0)
  refine ⟨back_vals e0, fun R bs k hk p => back_each (o _ bs k hk (each_rel rv p)), ?_⟩
  rw [paired_len (back_each e0), List.length_mergeSort, hl]
/-- a list, a tuple, a dict's keys -/
def SrcV (K : PySem.W.Frag) (H : Hp) (a : Addr) (xs : List V) : Prop := SqL K H a xs ∨ SqT K H a xs ∨ ∃ kvs : List (Key × V), Rd H a (.dK kvs) ∧ xs = kvs.map fun p => kV p.1
def rSortK (K : PySem.W.Frag) (sp : Sp) (f : Addr) (zs0 : List V) (rev : Bool) : List V → List V → Hp → VK → Prop := fun vs zs H Q => ∃ (a : Addr) (xs : List V) (ds : List PyData), vs = [.ref a] ∧ zs = zs0 ∧ SrcV K H a xs ∧ ds.length = xs.length ∧ KeysOk ds ∧
  (∀ (i : Nat) (x : V) (d : PyData) (H' : Hp), xs[i]? = some x → ds[i]? = some d → Same H H' → sp [x] H' (fun y H2 => Same H' H2 ∧ Dp K H2 y d) E0) ∧
  ∀ ys p H', Same H H' → H p = none → H' p = some (.lst ys) → OutV rev ds xs ys → Q (.ref p) H'
def rSortP (K : PySem.W.Frag) : List V → Hp → VK → Prop := fun vs H Q => ∃ (a : Addr) (xs : List V) (ds : List PyData), vs = [.ref a] ∧ SrcV K H a xs ∧ DpAll K H xs ds ∧ KeysOk ds ∧
  ∀ ys p H', Same H H' → H p = none → H' p = some (.lst ys) → OutV false ds xs ys → Q (.ref p) H'
section
variable {X : Cx} {pins : List (Addr × Obj)} {σ : L2.St} {H : Hp} {s : Shared}
theorem src_of {a : Addr} {xs : List V} (I : Inv X pins σ H s) (hc : X.A.handled = none) (h : SrcV X.K H a xs) : Src X.prog X.w X.A.in1 s a xs ∧ xs.length ≤ sizeLine := by
  rcases h with h | h | ⟨kvs, h, rfl⟩
  · obtain ⟨its, rv, hl, hz⟩ := I.list h
    exact ⟨src_list rv hl.isList hz, hz⟩
  · obtain ⟨its, rv, hl, hz⟩ := I.tuple h
    obtain ⟨o, h1, h2, n, h3⟩ := hl
    exact ⟨src_tup rv ⟨o, h1, h2, n, h3⟩ hz, hz⟩
  · obtain ⟨z, lo, vs, rel, dd⟩ := dk_rd I.hok h
    obtain ⟨ep, hat⟩ := dd.dictAt
    have ek : (kvs.map fun p => kV p.1) = vs.map fun p => kV p.1 := by
      have e := congrArg (List.map kV) rel.keys
      rw [List.map_map, List.map_map] at e
      exact e
    refine ⟨fun E Q h => ?_, by rw [List.length_map]; exact z⟩
    refine kdu_collect (kdl_dict (knd := mixKind X.prog X.w) (kvs := vs) (ep := ep) lo) hc hat (by rw [← rel.length]; exact z) fun h' tk acc k hacc => ?_
    refine h acc.toList h' tk ?_ k
    rw [ek]
    exact keys_at (by rw [Array.length_toList]; exact hacc.1) fun j v e => hacc.2 j v (by rw [← Array.getElem?_toList]; exact e)
/-- sorted(xs, key=f) -/
theorem cr_sortX {k : Nat} {f : Addr} {fd : FuncData} {p : Str} {sp : Sp} {rev : Bool} {ks : List Str} {zs0 : List V} {kwv : List Value} (F : FnOk X.prog X.w X.K X.mg X.base CX0 k f fd [p] sp) (hr : Room (k + 2) X.A) (b : Binds X.K fd [p] [])
    (hw : ∀ ws, Vals zs0 ws → ws = kwv) (ha1 : ∀ a, argsOk "sorted" ⟨[.ref a], ks.zip kwv⟩) (ha2 : ∀ a, argsOk "list.sort" ⟨[.ref a], ks.zip kwv⟩) (ht : ∀ x, Builtin.«list.sort» ⟨[.ref x], ks.zip kwv⟩ = ksk_tree x (.ref f) rev) :
    CallRK X (.builtin "sorted") ks (rSortK X.K sp f zs0 rev) := by
  intro pins s σ H vs zs us ws Q I r rz h
  obtain ⟨a, xs, ds, rfl, rfl, hs, hl, U, turn, q⟩ := h
  obtain rfl := Vals.ref1 r
  rw [hw ws rz]
  obtain ⟨S, hz⟩ := src_of I hr.hd hs
  refine sorted_src S hz (ha1 _) ha2 fun vs' h' tk rv kp E' => ?_
  have I1 : Inv X pins σ H { s with heap := h', toks := tk } := I.kept kp
  have fD : FpOk X pins H h'.objs.size := I1.fpOk (Nat.le_refl _) (I1.hok.fresh (Nat.le_refl _))
  have I2 : Inv X pins σ H { s with heap := h'.push (seqObj "list" vs'.toArray 0), toks := tk } := I1.kept fun b o q => Heap.get?_push_of_some _ q
  rw [ht]
  refine run_tree (s := { s with heap := h'.push (seqObj "list" vs'.toArray 0), toks := tk }) I2 fD (Heap.get?_push_size _ rfl) rv U (by have := hr.un; show X.A.units + 1 + 1 + 8 < cLine; omega) hl hz (fun i x d u pn H' s' hx hd ru I' sm => ?_) fun H' s' out c sm I' fD' hD o => ⟨rfl, ?_⟩
  · have t := turn i x d H' hx hd sm
    refine wpAny_call (codeAny_mono (F.run X.A.in1.in1 X.stack s' H' ⟨[u], []⟩ ([u] ++ []) [x] _ E0 hr.in1.in1 I'.env0.in1.in1 (b s' [u] I'.kIn rfl) (.cons ru .nil) t) fun r s2 hq => ?_)
    cases r with
    | error e => exact hq.elim
    | ok fl =>
      cases fl with
      | ret v => exact I'.after hq
      | next => exact False.elim hq
      | brk => exact False.elim hq
      | cont => exact False.elim hq
  · obtain ⟨o1, o2, o3⟩ := out_back rv hl o
    refine ⟨.ref h'.objs.size, upd H' h'.objs.size (.lst (out.map back)), track I' fD' hD o1 (by omega), rfl, q _ _ _ (fun b o e => ?_) fD.1 upd_same o2⟩
    have e' := sm b o e
    rw [upd_ne (fun z => by rw [z, fD'.1] at e'; cases e')]
    exact e'
theorem cr_sortK {k : Nat} {f : Addr} {fd : FuncData} {p : Str} {sp : Sp} (F : FnOk X.prog X.w X.K X.mg X.base CX0 k f fd [p] sp) (hr : Room (k + 2) X.A) (b : Binds X.K fd [p] []) : CallRK X (.builtin "sorted") [Str.ofString "key"] (rSortK X.K sp f [.ref f] false) :=
  cr_sortX (kwv := [.ref f]) F hr b (fun ws r => Vals.ref1 r) (fun _ => ksk_s1 _ _) (fun _ => ksk_l1 _ _) fun _ => ksk_t1 _ _
theorem cr_sortKR {k : Nat} {f : Addr} {fd : FuncData} {p : Str} {sp : Sp} {rev : Bool} (F : FnOk X.prog X.w X.K X.mg X.base CX0 k f fd [p] sp) (hr : Room (k + 2) X.A) (b : Binds X.K fd [p] []) : CallRK X (.builtin "sorted") [Str.ofString "key", Str.ofString "reverse"] (rSortK X.K sp f [.ref f, .bl rev] rev) :=
  cr_sortX (kwv := [.ref f, .bool rev]) F hr b (fun ws r => by
    obtain ⟨w1, w2, rfl, e1, e2⟩ := vals2 r
    obtain rfl : w1 = Value.ref f := e1
    obtain rfl : w2 = Value.bool rev := e2
    rfl) (fun _ => ksk_s2 _ _ _) (fun _ => ksk_l2 _ _ _) fun _ => ksk_t2 _ _ _
/-- sorted(xs), xs rows of alike data -/
theorem cr_sortP {k : Nat} (hr : Room k X.A) : CallR X (.builtin "sorted") (rSortP X.K) := by
  intro pins s σ H vs us Q I r h
  obtain ⟨a, xs, ds, rfl, hs, hd, U, q⟩ := h
  obtain rfl := Vals.ref1 r
  obtain ⟨S, hz⟩ := src_of I hr.hd hs
  refine sorted_src (kw := []) S hz (args_sorted1 _) (fun _ => args_list_sort _) fun vs' h' tk rv kp E' => ?_
  have I1 : Inv X pins σ H { s with heap := h', toks := tk } := I.kept kp
  have fD : FpOk X pins H h'.objs.size := I1.fpOk (Nat.le_refl _) (I1.hok.fresh (Nat.le_refl _))
  have I2 : Inv X pins σ H { s with heap := h'.push (seqObj "list" vs'.toArray 0), toks := tk } := I1.kept fun b o q => Heap.get?_push_of_some _ q
  have hD : (h'.push (seqObj "list" vs'.toArray 0)).get? h'.objs.size = some (seqObj "list" vs'.toArray 0) := Heap.get?_push_size _ rfl
  obtain ⟨e1, ho1⟩ : ∃ e1, ((h'.push (seqObj "list" vs'.toArray 0)).update h'.objs.size (Obj.mapSeq fun _ => (#[] : Array Value))).get? h'.objs.size = some (seqObj "list" #[] e1) := ⟨_, get?_update_seq hD fun _ => #[]⟩
  have s1 := Heap.SameBut.update (h'.push (seqObj "list" vs'.toArray 0)) h'.objs.size (Obj.mapSeq fun _ => (#[] : Array Value))
  have I3 := I2.turned (t' := tk) (h' := (h'.push (seqObj "list" vs'.toArray 0)).update h'.objs.size (Obj.mapSeq fun _ => (#[] : Array Value))) (fun b o hb q => (s1.2 b hb).trans q) fD.1 fD.2.1 fD.2.2.2.1 fD.2.2.2.2.1 fD.2.2.2.2.2
  have I4 := I3.kept (t' := tk) (h' := sortingHeap (h'.push (seqObj "list" vs'.toArray 0)) h'.objs.size vs') fun b o q => Heap.get?_push_of_some _ (Heap.get?_push_of_some _ q)
  have ek := vals_each (K := X.K) I4 rv hd
  have hzv : vs'.length ≤ sizeLine := by rw [← rv.length]; exact hz
  refine list_sort_vals (s := { s with heap := h'.push (seqObj "list" vs'.toArray 0), toks := tk }) hD (sorts_at U ek (by have := hr.un; show X.A.units + 1 + 1 + 8 < cLine; omega)) hzv ⟨rfl, ?_⟩
  obtain ⟨ep, hat⟩ := sortedHeap_at (out := (sortVals (dataKind (sortingHeap (h'.push (seqObj "list" vs'.toArray 0)) h'.objs.size vs') ds) false vs' vs').toArray) hD
  have I5 : Inv X pins σ H { s with heap := sortedHeap (h'.push (seqObj "list" vs'.toArray 0)) h'.objs.size vs' (sortVals (dataKind (sortingHeap (h'.push (seqObj "list" vs'.toArray 0)) h'.objs.size vs') ds) false vs' vs').toArray, toks := tk } :=
    I2.turned (fun b o hb q => (sortedHeap_old hb (Heap.lt_size q)).trans q) fD.1 fD.2.1 fD.2.2.2.1 fD.2.2.2.2.1 fD.2.2.2.2.2
  obtain ⟨o1, o2, o3⟩ := out_back rv (dp_len hd).symm (out_of U ek)
  refine ⟨.ref h'.objs.size, upd H h'.objs.size (.lst _), track I5 fD hat o1 (by omega), rfl, q _ _ _ (fun b o e => ?_) fD.1 upd_same o2⟩
  rw [upd_ne (fun z => by rw [z, fD.1] at e; cases e)]
  exact e
end
end Sk
namespace Dl
open PySem PySem.Spec PyProof.Rows L2 Ss Sk
/-! ### sorted, by a key or by the items themselves -/
def SrcD (d : Dat) (xs : List Dat) : Prop := d = .list xs ∨ d = .tuple xs ∨ ∃ m : List (Key × Dat), d = dicD m ∧ xs = m.map fun p => kD p.1
def oSortK (sp : DSp) (rev : Bool) : Dat → (Dat → Prop) → Prop := fun d R => ∃ (xs : List Dat) (kf : Dat → Dat), SrcD d xs ∧ (∀ x ∈ xs, sp [x] (fun r _ => r = kf x) ∧ (kf x).canLay0 = true) ∧ KeysOk (xs.map kf) ∧ R (.list (xs.mergeSort (PySem.W.dataLe rev kf)))
def oSortP : List Dat → (Dat → Prop) → Prop := fun ds R => ∃ (d : Dat) (xs : List Dat), ds = [d] ∧ SrcD d xs ∧ PyData.canLayAll0 xs = true ∧ KeysOk xs ∧ R (.list (xs.mergeSort (PySem.W.dataLe false id)))
section
variable {C : Ct} {K : PySem.W.Frag} {N : Ow} {H : Hp}
theorem fzl_paired : ∀ {us : List V} {xs : List Dat}, FzL N H us xs → Paired (Fz N H) us xs
  | _, _, .nil => .nil
  | _, _, .cons a l => .cons a (fzl_paired l)
theorem paired_fzl : ∀ {us : List V} {xs : List Dat}, Paired (Fz N H) us xs → FzL N H us xs
  | _, _, .nil => .nil
  | _, _, .cons a l => .cons a (paired_fzl l)
theorem src_d {v : V} {d : Dat} {xs : List Dat} (f : Ft N H v d) (h : SrcD d xs) : ∃ a us, v = .ref a ∧ SrcV K H a us ∧ FzL N H us xs := by
  rcases h with rfl | rfl | ⟨m, rfl, rfl⟩
  · obtain ⟨a, us, rfl, ha, l⟩ := f.lst
    exact ⟨a, us, rfl, .inl (.of ha), l⟩
  · obtain ⟨a, us, rfl, ha, l⟩ := f.tup
    exact ⟨a, us, rfl, .inr (.inl (.of ha)), l⟩
  · obtain ⟨a, kvs, rfl, ha, l⟩ := f.dic
    exact ⟨a, _, rfl, .inr (.inr ⟨kvs, ha, rfl⟩), l.keys⟩
/-- without the keyword's value -/
def rSortQ (K : PySem.W.Frag) (sp : Sp) (rev : Bool) : List V → Hp → VK → Prop := fun vs H Q => ∃ (a : Addr) (xs : List V) (ds : List PyData), vs = [.ref a] ∧ SrcV K H a xs ∧ ds.length = xs.length ∧ KeysOk ds ∧
  (∀ (i : Nat) (x : V) (d : PyData) (H' : Hp), xs[i]? = some x → ds[i]? = some d → Same H H' → sp [x] H' (fun y H2 => Same H' H2 ∧ Dp K H2 y d) E0) ∧
  ∀ ys p H', Same H H' → H p = none → H' p = some (.lst ys) → OutV rev ds xs ys → Q (.ref p) H'
def tSortQ (K : PySem.W.Frag) (sp : Sp) (rev : Bool) (t : TA) : TE := tCB (rSortQ K sp rev) t
theorem pe_sortK {X : Cx} {k : Nat} {x p : Str} {sp : Sp} {t : TA} {e : Expr} {p1 p2 p3 pos : Pos} (Cf : Cl X.prog X.w X.K X.mg X.base k x [p] sp) (hr : Room (k + 2) X.A) (hgx : Gl X x) (hg : Gl X "sorted") (hm : X.mg "sorted" = none) (ha : PA X [e] t) (hdb : (x == ("__debug__" : Str)) = false := by decide)
    (he : backTo pos (starEach [e] X.env) = (false, eval e X.env) :: backTo pos (starEach [] X.env) := by rfl) (hpl : (backTo pos (starEach [e] X.env)).any (·.1) = false := by rfl) :
    PE X (.Call (.Name "sorted" p1) [e] [⟨some "key", .Name x p2, p3⟩] pos) (tSortQ X.K sp false t) := by
  obtain ⟨f, fd, F, hmf, hk, b⟩ := Cf.ex
  have h0 := pe_callBK (ks := [Str.ofString "key"]) (x := "sorted") (p := p1) (pos := pos) (kws := [⟨some "key", .Name x p2, p3⟩]) (cr_sortK F hr b) hg hm (by decide +kernel) ha (pk_cons (pe_glob hgx hmf (v := .ref f) rfl hdb) pk_nil) (by decide) (by decide) he hpl rfl rfl rfl
  refine ⟨fun pins s σ H Q I h => h0.run pins s σ H Q I ?_⟩
  have q : (fun vs H1 => rSortK X.K sp f [.ref f] false vs [.ref f] H1 Q) = fun vs H1 => rSortQ X.K sp false vs H1 Q := funext fun vs => funext fun H1 => propext
    ⟨fun ⟨a, xs, ds, e1, _, r⟩ => ⟨a, xs, ds, e1, r⟩, fun ⟨a, xs, ds, e1, r⟩ => ⟨a, xs, ds, e1, rfl, r⟩⟩
  show t σ H (fun vs H1 => rSortK X.K sp f [.ref f] false vs [.ref f] H1 Q)
  rw [q]
  exact h
theorem pe_sortKR {X : Cx} {k : Nat} {x p : Str} {sp : Sp} {t : TA} {e : Expr} {rev : Bool} {j : Nat} {p1 p2 p3 p4 p5 pos : Pos} (Cf : Cl X.prog X.w X.K X.mg X.base k x [p] sp) (hr : Room (k + 2) X.A) (hgx : Gl X x) (hg : Gl X "sorted") (hm : X.mg "sorted" = none) (ha : PA X [e] t) (hdb : (x == ("__debug__" : Str)) = false := by decide)
    (he : backTo pos (starEach [e] X.env) = (false, eval e X.env) :: backTo pos (starEach [] X.env) := by rfl) (hpl : (backTo pos (starEach [e] X.env)).any (·.1) = false := by rfl) :
    PE X (.Call (.Name "sorted" p1) [e] [⟨some "key", .Name x p2, p3⟩, ⟨some "reverse", .Constant (.bool rev) j p4, p5⟩] pos) (tSortQ X.K sp rev t) := by
  obtain ⟨f, fd, F, hmf, hk, b⟩ := Cf.ex
  have h0 := pe_callBK (ks := [Str.ofString "key", Str.ofString "reverse"]) (x := "sorted") (p := p1) (pos := pos) (kws := [⟨some "key", .Name x p2, p3⟩, ⟨some "reverse", .Constant (.bool rev) j p4, p5⟩]) (cr_sortKR (rev := rev) F hr b) hg hm (by decide +kernel) ha (pk_cons (pe_glob hgx hmf (v := .ref f) rfl hdb) (pk_cons pe_bl pk_nil)) (by decide) (by decide) he hpl rfl rfl rfl
  refine ⟨fun pins s σ H Q I h => h0.run pins s σ H Q I ?_⟩
  have q : (fun vs H1 => rSortK X.K sp f [.ref f, .bl rev] rev vs [.ref f, .bl rev] H1 Q) = fun vs H1 => rSortQ X.K sp rev vs H1 Q := funext fun vs => funext fun H1 => propext
    ⟨fun ⟨a, xs, ds, e1, _, r⟩ => ⟨a, xs, ds, e1, r⟩, fun ⟨a, xs, ds, e1, r⟩ => ⟨a, xs, ds, e1, rfl, r⟩⟩
  show t σ H (fun vs H1 => rSortK X.K sp f [.ref f, .bl rev] rev vs [.ref f, .bl rev] H1 Q)
  rw [q]
  exact h
/-- with the written part named, for comprehensions -/
theorem pe_sortKc {X : Cx} {Kn : PySem.W.Frag} {k : Nat} {x p : Str} {sp : Sp} {t : TA} {e : Expr} {p1 p2 p3 pos : Pos} (hK : X.K = Kn) (Cf : Cl X.prog X.w Kn X.mg X.base k x [p] sp) (hr : Room (k + 2) X.A) (hgx : Gl X x) (hg : Gl X "sorted") (hm : X.mg "sorted" = none) (ha : PA X [e] t) (hdb : (x == ("__debug__" : Str)) = false := by decide)
    (he : backTo pos (starEach [e] X.env) = (false, eval e X.env) :: backTo pos (starEach [] X.env) := by rfl) (hpl : (backTo pos (starEach [e] X.env)).any (·.1) = false := by rfl) :
    PE X (.Call (.Name "sorted" p1) [e] [⟨some "key", .Name x p2, p3⟩] pos) (tSortQ Kn sp false t) := by
  subst hK
  exact pe_sortK Cf hr hgx hg hm ha hdb he hpl
theorem map_key {k : Nat} {kf : Dat → Dat} {us : List V} {xs : List Dat} (l : FzL N H us xs) {u : V} {d : PyData} (hu : us[k]? = some u) (hd : (xs.map kf)[k]? = some d) : ∃ x, x ∈ xs ∧ d = kf x ∧ Fz N H u x := by
  obtain ⟨x, hx, f⟩ := l.at hu
  rw [List.getElem?_map, hx] at hd
  exact ⟨x, List.mem_of_getElem? hx, (Option.some.inj hd).symm, f⟩
theorem sortQ_run {v : V} {d : Dat} {sp : DSp} {rev : Bool} {Q : VK} {R : Dat → Prop} (hn : ∀ b, N b → LD H b) (f : Ft N H v d) (h : oSortK sp rev d R) (q : NewL N H Q R) : rSortQ K (spOf 1 none false sp) rev [v] H Q := by
  obtain ⟨xs, kf, hs, hk, U, r⟩ := h
  obtain ⟨a, us, rfl, sv, l⟩ := src_d (K := K) f hs
  refine ⟨a, us, xs.map kf, rfl, sv, by rw [List.length_map, l.len], U, fun i u e H' hu he sm => ?_, fun ys p H' sm hp hp' o => ?_⟩
  · obtain ⟨x, hx, rfl, fx⟩ := map_key l hu he
    obtain ⟨h1, h2⟩ := hk x hx
    refine ⟨rfl, [x], N, fun _ => False, fun b nb => ?_, fun _ z => z.elim, args0 (.cons (fx.keep (Kp.same sm)) .nil), fun r _ => r = kf x, h1, fun r o q v' H2 st ld mo ro => ?_⟩
    · rcases hn b nb with ⟨zs, z⟩ | ⟨zs, z⟩
      · exact .inl ⟨zs, sm _ _ z⟩
      · exact .inr ⟨zs, sm _ _ z⟩
    · rw [if_neg Bool.false_ne_true] at ro
      have q' : r = kf x := q
      subst q'
      exact ⟨fun b o e => st b o id e, fz_dp ro h2⟩
  · exact q p ys _ H' sm hp hp' (paired_fzl (o (Fz N H) xs kf rfl (fzl_paired l))) r
def dSortK (sp : DSp) (rev : Bool) (da : DA) : DE := fun E R => da E fun es E1 => ∃ d, es = [d] ∧ oSortK sp rev d fun z => R z E1
theorem rf_sortK {sp : DSp} {rev : Bool} {t : TA} {da : DA} (ha : RfA C t da) : RfF C (tSortQ K (spOf 1 none false sp) rev t) (dSortK sp rev da) := fun W H σ E Q R Re r k =>
  ha W H σ E _ _ Re r fun vs ds H1 E1 R1 g1 f1 ⟨d, e, r1⟩ => by
    subst e
    obtain ⟨v, rfl, f⟩ := p1 (ft_all f1)
    exact sortQ_run R1.ld f r1 (rf_new Re R1 g1 k)
def dSortKV (sp : DSp) (rev : Bool) (i : Nat) : DE := fun E R => ∃ d, E[i]? = some (some d) ∧ oSortK sp rev d fun z => R z E
theorem rf_sortKV {sp : DSp} {rev : Bool} {i : Nat} (hO : C.O i = true) : RfF C (tSortQ K (spOf 1 none false sp) rev (tCons (tVar i) tNil)) (dSortKV sp rev i) := fun W H σ E Q R Re ⟨d, hd, r⟩ k => by
  obtain ⟨a, h1, _⟩ := Re.own hO hd
  exact ⟨.ref a, h1, sortQ_run Re.ld (Re.ft hO hd h1) r (rf_new Re Re (Gr.refl W H) k)⟩
theorem rfb_sortP : RfBF (rSortP K) oSortP := fun N H xs ds Q R hx ⟨d, es, e, hs, hc, U, r⟩ q => by
  subst e
  obtain ⟨v, rfl, f⟩ := p1 hx
  obtain ⟨a, us, rfl, sv, l⟩ := src_d (K := K) f hs
  exact ⟨a, us, es, rfl, sv, fzl_dp l hc, U, fun ys p H' sm hp hp' o => q p ys _ H' sm hp hp' (paired_fzl (o (Fz N H) es id (List.map_id es) (fzl_paired l))) r⟩
theorem z_sortK {sp : DSp} {rev : Bool} {da : DA} {E : DEnv} {R : Dat → DEnv → Prop} (h : da E fun es E1 => ∃ d, es = [d] ∧ oSortK sp rev d fun z => R z E1) : dSortK sp rev da E R := h
theorem z_sortKV {sp : DSp} {rev : Bool} {i : Nat} {E : DEnv} {R : Dat → DEnv → Prop} {d : Dat} (hv : E[i]? = some (some d)) (h : oSortK sp rev d fun z => R z E) : dSortKV sp rev i E R := ⟨d, hv, h⟩
theorem z_sort1 {d : Dat} {Q : Dat → Prop} (h : Q d) : ∃ e, [d] = [e] ∧ Q e := ⟨d, rfl, h⟩
theorem z_sortL {sp : DSp} {rev : Bool} {xs : List Dat} {Q : Dat → Prop} (kf : Dat → Dat) (hk : ∀ x ∈ xs, sp [x] (fun r _ => r = kf x) ∧ (kf x).canLay0 = true) (U : KeysOk (xs.map kf)) (h : Q (.list (xs.mergeSort (PySem.W.dataLe rev kf)))) : oSortK sp rev (.list xs) Q := ⟨xs, kf, .inl rfl, hk, U, h⟩
theorem z_sortT {sp : DSp} {rev : Bool} {xs : List Dat} {Q : Dat → Prop} (kf : Dat → Dat) (hk : ∀ x ∈ xs, sp [x] (fun r _ => r = kf x) ∧ (kf x).canLay0 = true) (U : KeysOk (xs.map kf)) (h : Q (.list (xs.mergeSort (PySem.W.dataLe rev kf)))) : oSortK sp rev (.tuple xs) Q := ⟨xs, kf, .inr (.inl rfl), hk, U, h⟩
theorem z_sortD {sp : DSp} {rev : Bool} {m : List (Key × Dat)} {Q : Dat → Prop} (kf : Dat → Dat) (hk : ∀ p ∈ m, sp [kD p.1] (fun r _ => r = kf (kD p.1)) ∧ (kf (kD p.1)).canLay0 = true) (U : KeysOk ((m.map fun p => kD p.1).map kf)) (h : Q (.list ((m.map fun p => kD p.1).mergeSort (PySem.W.dataLe rev kf)))) : oSortK sp rev (dicD m) Q :=
  ⟨_, kf, .inr (.inr ⟨m, rfl, rfl⟩), fun x hx => by
    obtain ⟨p, hp, rfl⟩ := List.mem_map.mp hx
    exact hk p hp, U, h⟩
/-- keys that are ints -/
theorem keys_int {α : Type} {xs : List α} {k : α → Int} : KeysOk (xs.map fun x => PyData.int (k x)) := .inl ⟨PySem.W.AllAlike.of fun _ _ => by simp [PySem.W.alike], PySem.W.Sortable.others fun _ => ⟨by simp, by simp⟩, fun d hd => by
  obtain ⟨x, _, rfl⟩ := List.mem_map.mp hd
  simp [PyData.depth]⟩
end
/-- the last place, counted from behind -/
theorem ixN_last (n : Nat) : ixN (n + 1) (-1) = some n := by
  unfold ixN
  rw [if_neg (by decide), if_pos (by omega)]
  congr 1
  omega
end Dl
namespace Xm
open PySem PySem.Spec PyProof.Rows L2 Ss
/-! ### errors of the program's own -/
/-- what the written part says of the class that all errors have as their base -/
structure BaseX (K : PySem.W.Frag) (mg : Str → Option Value) : Prop where
  ex : ∃ CS, mg "ShapeError" = some (.ref CS) ∧ PySem.W.specialIn K (.ref CS) "__getattribute__" = some (some (.builtin "type.__getattribute__")) ∧ PySem.W.readsIn K CS (.type "type") = true ∧
    PySem.W.findCls K (.ref CS) (.type "type") "__init__" = some (.val (.builtin "ValueError.__init__"))
theorem slen_app (a b : Str) : (a ++ b).length = a.length + b.length := by
  unfold Str.length
  rw [Str.cps_append, Array.size_append]
section
variable {X : Cx} {o e : Expr} {es : List Expr} {te : TE} {ta : TA} {p p1 p2 p3 pos : Pos}
/-- ShapeError.__init__(self, ..) -/
theorem pe_seinit {pl : Sem Bool} (B : BaseX X.K X.mg) (hg : Gl X "ShapeError") (ha : PA X (e :: es) ta)
    (hc : eval (.Call (.Attribute (.Name "ShapeError" p1) "__init__" p2) (e :: es) [] pos) X.env = (do
      let ov ← eval (.Name "ShapeError" p1) X.env
      standAt p2.atName
      let (f, first) ← holding [ov] (getMethod ov "__init__" pl)
      callWith pos f first (backTo pos (starEach (e :: es) X.env)) (backToKw pos (keywordEach [] X.env))) := by rfl)
    (he : starEach (e :: es) X.env = (false, eval e X.env) :: starEach es X.env := by rfl) (hpl : (backTo pos (starEach es X.env)).any (·.1) = false := by rfl) :
    PE X (.Call (.Attribute (.Name "ShapeError" p1) "__init__" p2) (e :: es) [] pos) (tVeI X.K ta) := by
  obtain ⟨CS, g, sp, rd, fi⟩ := B.ex
  refine ⟨fun pins s σ H Q I h => ?_⟩
  refine PySem.W.methodCall_KW (ld_glob I hg g ?_) hc
  refine PySem.W.method_cls I.kIn sp (PySem.W.cls_value I.kIn rd fi (by decide +kernel) ?_)
  show wpAny _ _ (callWith pos (Value.builtin "ValueError.__init__") [] (backTo pos (starEach (e :: es) X.env)) []) _ _ _
  refine PyProof.Rows.callWith_method1 (thn (ha.run pos pins _ σ H _ (I.tok _) h) fun us s1 ⟨vs, H1, I1, r1, a, C, ws, ev, hl, T, ea, q⟩ => ?_) he hpl
  subst ev
  cases r1 with
  | @cons _ u0 _ ur ra rw' =>
    obtain rfl : u0 = Value.ref a := ra
    refine oinit_ok T I1 ea ?_ fun s' J => ⟨.non, H1, J, rfl, q⟩
    rw [← Paired.length rw', sizeLine_eq]
    omega
/-- a value that an error may carry -/
def ValX (v : V) : Prop := (∃ i : Int, v = .int i ∧ i.natAbs.log2 < 1920) ∨ ∃ x : Str, v = .str x ∧ x.length ≤ 1921
theorem fmt_val {σ : L2.St} {H : Hp} {Q : VK} {n : Nat} {v : V} (hv : σ[n]? = some (some v)) (h : ValX v) (q : ∀ x : Str, x.length ≤ 1921 → Q (.str x) H) : tFmt (tVar n) σ H Q := by
  refine ⟨v, hv, ?_⟩
  rcases h with ⟨i, rfl, hi⟩ | ⟨x, rfl, hx⟩
  · exact .inr ⟨i, rfl, hi, q _ (int_text_len_1921 hi)⟩
  · exact .inl ⟨x, rfl, Nat.le_trans hx (by decide), q x hx⟩
/-- __init__(self, x): the base's, then self.f = x -/
def spInit (K : PySem.W.Frag) (c : Addr) (f : Str) : Sp := fun vs H Q _ => ∃ a v, vs = [.ref a, v] ∧ H a = some (exo a c none) ∧ OexC K c ∧ PySem.W.findIn K (.ref c) f = some none ∧ ValX v ∧
  ∀ dx, H dx = none → dx ≠ a → Q .non (upd (upd H dx (exd dx [(f, v)])) a (exo a c (some dx)))
/-- the text of the error does not matter -/
def tJoin (js : List TE) : TE := fun σ H Q => tJs js Str.empty σ H fun out H1 => Q (.str out) H1
def tInit (K : PySem.W.Frag) (f : Str) (js : List TE) : TS := tSeq (tDrop (tVeI K (tCons (tVar 0) (tCons (tJoin js) tNil)))) (tOst K f (tVar 0) (tVar 1))
theorem init_run {K : PySem.W.Frag} {c : Addr} {f : Str} {js : List TE} {vs : List V} {H : Hp} {Q : VK} {E : XK} {nm : List Str} (hn : nm.length = 2) (h : spInit K c f vs H Q E)
    (hj : ∀ (σ : L2.St) (v : V) (R : V → Hp → Prop), σ[1]? = some (some v) → ValX v → (∀ x, R (.str x) H) → tJoin js σ H R) : tInit K f js { nx := fun _ H' => Q .non H', rt := Q } (L2.start nm vs) H := by
  obtain ⟨a, v, rfl, ha, T, hf, hv, k⟩ := h
  have es : L2.start nm [.ref a, v] = [some (.ref a), some v] := by
    unfold L2.start
    rw [hn]
    rfl
  rw [es]
  refine ⟨.ref a, rfl, hj _ v _ rfl hv fun x => ?_⟩
  refine ⟨a, c, _, rfl, (by show 1 ≤ 1000; decide), T, ha, ?_⟩
  exact ⟨v, rfl, .ref a, rfl, a, c, rfl, T, hf, .inl ⟨ha, fun dx hd hne => k dx hd hne⟩⟩
theorem join_fc {H : Hp} {σ : L2.St} {v : V} {R : V → Hp → Prop} {s : Str} (hv : σ[1]? = some (some v)) (h : ValX v) (hs : s.length ≤ 1000) (q : ∀ x, R (.str x) H) : tJoin [tFmt (tVar 1), tC (.str s)] σ H R := by
  show tFmt (tVar 1) σ H (fun x H1 => ∃ y : Str, x = .str y ∧ (Str.empty ++ y).length ≤ sizeLine ∧ tJs [tC (.str s)] (Str.empty ++ y) σ H1 fun out H1 => R (.str out) H1)
  refine fmt_val hv h fun x hx => ⟨x, rfl, ?_, s, rfl, ?_, q _⟩
  · rw [show (Str.empty ++ x : Str).length = Str.empty.length + x.length from slen_app _ _]
    exact Nat.le_trans (Nat.add_le_add (Nat.le_refl _) hx) (by decide)
  · rw [slen_app, slen_app]
    exact Nat.le_trans (Nat.add_le_add (Nat.add_le_add (Nat.le_refl _) hx) hs) (by decide)
theorem join_cf {H : Hp} {σ : L2.St} {v : V} {R : V → Hp → Prop} {s : Str} (hv : σ[1]? = some (some v)) (h : ValX v) (hs : s.length ≤ 1000) (q : ∀ x, R (.str x) H) : tJoin [tC (.str s), tFmt (tVar 1)] σ H R := by
  refine ⟨s, rfl, ?_, fmt_val hv h fun x hx => ⟨x, rfl, ?_, q _⟩⟩
  · rw [slen_app]
    exact Nat.le_trans (Nat.add_le_add (Nat.le_refl _) hs) (by decide)
  · rw [slen_app, slen_app]
    exact Nat.le_trans (Nat.add_le_add (Nat.add_le_add (Nat.le_refl _) hs) hx) (by decide)
theorem join_cfc {H : Hp} {σ : L2.St} {v : V} {R : V → Hp → Prop} {s t : Str} (hv : σ[1]? = some (some v)) (h : ValX v) (hs : s.length ≤ 1000) (ht : t.length ≤ 1000) (q : ∀ x, R (.str x) H) : tJoin [tC (.str s), tFmt (tVar 1), tC (.str t)] σ H R := by
  refine ⟨s, rfl, ?_, fmt_val hv h fun x hx => ⟨x, rfl, ?_, t, rfl, ?_, q _⟩⟩
  · rw [slen_app]
    exact Nat.le_trans (Nat.add_le_add (Nat.le_refl _) hs) (by decide)
  · rw [slen_app, slen_app]
    exact Nat.le_trans (Nat.add_le_add (Nat.add_le_add (Nat.le_refl _) hs) hx) (by decide)
  · rw [slen_app, slen_app, slen_app]
    exact Nat.le_trans (Nat.add_le_add (Nat.add_le_add (Nat.add_le_add (Nat.le_refl _) hs) hx) ht) (by decide)
end
end Xm
namespace Xm
open PySem PySem.Spec PySem.Calls PyProof.Rows PySem.W
section
variable {prog : Program} {w : World} {A : Around} {E : Value → Shared → Prop} {s : Shared} {K : Frag} {x D : Addr} {ox : Obj} {od : Option Obj}
theorem find_data {C : Addr} {name : Str} {a g : Value} (hc : (clsIn K C).isSome = true) (ha : findIn K (.ref C) name = some (some a)) (hg : specialIn K a "__get__" = some (some g)) (ht : takesIn K a = some true) : findObj K C od name = some (.bind g a) := by
  obtain ⟨cd, hc'⟩ := Option.isSome_iff_exists.mp hc
  unfold findObj
  rw [hc', Option.bind_some, ha, Option.bind_some]
  simp [hg, ht]
/-- x.__class__ of an error that may have a dict of its own -/
theorem class_x {Q : Option Value → Shared → Prop} (T : L2.ExcC K D) (X : K.In s.heap) (I : InstAt s.heap x ox D od) (h : Q (some (.ref D)) { s with toks := s.toks + 1 }) : wpAny (model prog w) A (getAttr? (.ref x) "__class__") Q E s := by
  have hf : findObj K D od "__class__" = some (.bind (.builtin "getset_descriptor.__get__") (.builtin "object.__class__")) := find_data (by obtain ⟨cd, hc, _⟩ := any_some T.hd; rw [hc]; rfl) T.ha T.hn T.ht
  obtain ⟨hp, g, d, t, os⟩ := s
  have L0 := I.type (M := model prog w)
  have L1 := looks_findIn (M := model prog w) X T.hg
  have L2' := looks_findIn (M := model prog w) X T.hk
  have L3 := looks_find (M := model prog w) X I hf
  have sub : Looks (model prog w) hp (isInstance (.ref x) (.type "BaseException")) true := L0.andThen (looks_subIn X T.hs)
  have e0 : (false && onTheHeap (Value.builtin "BaseException.__getattribute__")) = false := rfl
  have e2 : (Value.builtin "BaseException.__getattribute__" == Value.builtin "object.__getattribute__") = false := by decide +kernel
  have e1 : (onTheHeap (Value.ref D) && Value.builtin "BaseException.__getattribute__" == Value.builtin "object.__getattribute__") = false := by rw [e2]; rfl
  unfold getAttr? getAttrBy? getAttrBy
  refine wpAny_bind (wpAny_mkText (wpAny_bind (wpAny_attempt (wpAny_holding (wpAny_bind (L0.at (wpAny_bind (L1.at ?_))))))))
  show wpAny _ _ (if (onTheHeap (Value.ref D) && Value.builtin "BaseException.__getattribute__" == Value.builtin "object.__getattribute__") = true then _ else _) _ _ _
  rw [e1, if_neg Bool.false_ne_true]
  unfold getAttrByItsOwn hookBefore
  refine wpAny_bind ?_
  rw [if_pos (show onTheHeap (Value.ref D) = true from rfl)]
  refine L2'.at (wpAny_bind (wpAny_attempt (wpAny_holding ?_)))
  unfold callGetattribute
  rw [e0, if_neg Bool.false_ne_true]
  unfold boundAndCalled
  rw [PySem.F.excAttr_ValueError.ga.bind (.ref x)]
  refine wpAny_bind (wpAny_pure ?_)
  show wpAny _ _ (call (.builtin "BaseException.__getattribute__") [.ref x, .str "__class__" t]) _ _ _
  refine wpAny_call (codeAny_call_builtin PySem.F.excAttr_ValueError.ga.plain PySem.F.entry_bexc_ga ?_)
  refine @check_slot (model prog w) _ _ ⟨hp, g, d, t + 1, os⟩ "BaseException.__getattribute__" "BaseException" "__getattribute__" (.ref x) [.str "__class__" t] [] _ (by decide +kernel) (by decide +kernel) sub (PySem.F.args_bexc_ga (.ref x) (.str "__class__" t)) ?_
  unfold Builtin.«object.__getattribute__»
  refine wpAny_bind (wpAny_of_eq (a := ((Value.ref x : Value), [Value.str "__class__" t])) (by first | rfl | (simp only [slotArgs]; rfl)) ?_)
  refine wpAny_bind (wpAny_pure (wpAny_bind (L0.at (wpAny_bind (L3.at ?_)))))
  show wpAny _ _ (holding [Value.builtin "object.__class__"] (call (.builtin "getset_descriptor.__get__") [.builtin "object.__class__", .ref x, .ref D]) >>= ret) _ _ _
  refine wpAny_bind (wpAny_holding (wpAny_call (class_get (s := ⟨hp, g, d, t + 1, os⟩) (ox := ox) (od := od) X I T.hm ?_)))
  refine wpAny_pure ?_
  show wpAny _ _ (handedOut (.ref D)) _ _ _
  rw [handedOut_of (v := .ref D) rfl]
  first
    | exact wpAny_pure (wpAny_pure h)
    | exact wpAny_pure h
    | exact wpAny_pure (wpAny_bind (wpAny_pure (wpAny_pure h)))
theorem kit_x (T : L2.ExcC K D) : KitX K (.ref x) (.ref D) (fun h => InstAt h x ox D od) where
  ty := fun _ _ _ I => I.type
  it := fun _ _ X _ => by
    obtain ⟨cdD, hcD, _⟩ := any_some T.hd
    unfold clsIn at hcD
    split at hcD
    · rename_i c' d' cd' sl' ho
      intro A' Q' E' s' k q
      unfold isType loadHead
      exact wpAny_bind (wpAny_loadPart (k _ _ (X _ _ ho)) (wpAny_pure q))
    · cases hcD
  ne := fun h tp dd its n sl X htp => by
    obtain ⟨cdD, hcD, _⟩ := any_some T.hd
    refine Bool.eq_false_iff.mpr fun q => ?_
    have e : D = tp := Value.ref.inj (beq_iff_eq.mp q)
    subst e
    unfold clsIn at hcD
    split at hcD
    · rename_i c' d' cd' sl' ho
      have z := (X _ _ ho).symm.trans htp
      cases z
    · cases hcD
  ca := fun X I k => class_x T X I k
end
end Xm
namespace Xm
open PySem PySem.Spec PyProof.Rows L2 Ss
/-- isinstance(e, c), e the error that the suite holds: cls its class, d its dict -/
def rIsX (K : PySem.W.Frag) (cls : Value) (a : Addr) (d : Option Addr) : List V → Hp → VK → Prop := fun xs H Q => ∃ (D : Addr) (c : V) (cv : Value) (b : Bool), cls = .ref D ∧ ExcC K D ∧ xs = [.ref a, c] ∧ (∀ u, RelV c u → u = cv) ∧ PySem.W.kitOne K (.ref D) cv = some b ∧ (d = none ∨ ∃ dd fs, d = some dd ∧ H dd = some (.xd fs)) ∧ Q (.bl b) H
theorem call_isX {X : Cx} {a : Addr} {cls : Value} {oe : Obj} {d : Option Addr} {pn : List (Addr × Obj)} (hz : Zc cls d oe) (hf : ∃ vs, oe.data = .fields vs) : CallR (X.suite a ((a, oe) :: pn)) (.builtin "isinstance") (rIsX X.K cls a d) := by
  intro pins s σ H xs us Q I r h
  obtain ⟨D, c, cv, b, rfl, C, rfl, hcv, e, hd, q⟩ := h
  cases r with
  | cons rx rr =>
    cases rr with
    | cons rt rr =>
      cases rr
      cases rx
      have ec := hcv _ rt
      subst ec
      obtain ⟨hget, _⟩ := I.pin (a, oe) (List.mem_append.mpr (.inl List.mem_cons_self))
      obtain ⟨vs, hv⟩ := hf
      have J : ∃ od, PySem.W.InstAt s.heap a oe D od := by
        obtain ⟨oc, od, oda, osl⟩ := oe
        obtain ⟨h1, h2⟩ := hz
        dsimp only at h1 h2 hv
        subst h1 h2 hv
        rcases hd with rfl | ⟨dd, fs, rfl, hx⟩
        · exact ⟨none, hget, rfl, rfl, trivial⟩
        · have ox : ObjOk X.prog X.w H s.heap dd (.xd fs) := I.hok dd _ hx
          obtain ⟨mA, hns, hr⟩ := ox
          obtain ⟨od, ho, hl⟩ := lookIn_ns hns
          exact ⟨some od, hget, rfl, rfl, ho⟩
      obtain ⟨od, J⟩ := J
      exact PySem.W.kia_one (kit_x C) I.kIn J e (fun z => nomatch z) fun tk => ⟨.bl b, H, I.kept (t' := tk) fun _ _ z => z, rfl, q⟩
def clA (mg : Str → Option Value) (n : Str) : Addr := match mg n with
  | some (.ref a) => a
  | _ => 0
/-- errors with a field -/
structure ErrF (P : Program) (w : World) (K : PySem.W.Frag) (mg : Str → Option Value) (base : Heap) (n f : Str) : Prop where
  g : mg n = some (.ref (clA mg n))
  T : OexC K (clA mg n)
  fn : PySem.W.findIn K (.ref (clA mg n)) f = some none
  xf : XfC K (clA mg n)
  ini : ∃ (fI : Addr) (fd : FuncData) (ps : List Str), PySem.W.findIn K (.ref (clA mg n)) "__init__" = some (some (.ref fI)) ∧ PySem.W.typeIn K (.ref fI) = some (.type "function") ∧ FnOk P w K mg base CX0 1 fI fd ps (spInit K (clA mg n) f) ∧ Binds K fd ps []
/-- errors without -/
structure Err0 (K : PySem.W.Frag) (mg : Str → Option Value) (n : Str) : Prop where
  g : mg n = some (.ref (clA mg n))
  q : PySem.W.excIn K (clA mg n) [.type "ValueError", .type "Exception", .type "BaseException", .type "object"] "ValueError.__new__" = true
  kC : PySem.W.keepIn K (.ref (clA mg n)) = true
  h1 : PySem.W.subIn K (.ref (clA mg n)) (.type "BaseException") = some true
  h2 : PySem.W.typeIn K (.ref (clA mg n)) = some (.type "type")
def tRaiseF (K : PySem.W.Frag) (c : Addr) (f : Str) (W : WX) (te : TE) : TS := fun _ σ H => tMkO c (spInit K c f) [] (tCons te tNil) σ H fun cls d H' => W cls d σ H'
def tRaise0 (c : Addr) (W : WX) : TS := fun _ σ H => W (.ref c) none σ H
section
variable {X : Cx} {e : Expr} {te : TE} {p pos pos2 : Pos} {n f : Str} {W : WX}
theorem ps_raiseF (hc : X.calm = true) (G : ErrF X.prog X.w X.K X.mg X.base n f) (tk : Takes X W) (hr : Room 2 X.A) (hg : Gl X n) (he : PE X e te) (hdb : (n == ("__debug__" : Str)) = false := by decide)
    (hs : starEach [e] X.env = (false, eval e X.env) :: starEach [] X.env := by rfl) : PS X (.Raise (some (.Call (.Name n p) [e] [] pos)) none pos2) (tRaiseF X.K (clA X.mg n) f W te) := by
  obtain ⟨fI, fd, ps, i1, i2, F, b⟩ := G.ini
  exact ps_raise hc tk (pmk_oex (ds := []) (dvs := []) G.T i1 i2 F hr b .nil pass0 hg G.g (pa_cons he pa_nil hs) hdb hs (by rfl))
theorem pmk_zero (G : Err0 X.K X.mg n) (hg : Gl X n) (hdb : (n == ("__debug__" : Str)) = false := by decide) : PMk X (.Call (.Name n p) [] [] pos) (fun _ H Q => Q (.ref (clA X.mg n)) none H) := by
  intro pins s σ H Q I h
  refine wpAny_Call_Name_kw (ld_glob I hg G.g ?_ hdb)
  refine PySem.W.callWith_K0 I.kIn G.kC ?_
  obtain ⟨bm, N, nm, qn, bs, hdct, sn, sub, ab, col, dd, k0, k1, k2, k3, k5, mN, hC, hN, hni, T⟩ := exc_obj I.kIn G.q
  refine wpAny_call_exc_subT PySem.F.excBase_ValueError T hC hN hni (fun h' e hm => ?_) (Nat.zero_le _)
  exact mk_of I hm (raises_own G.h1 G.h2) h (I.hok.gone hm.new)
theorem ps_raise0 (hc : X.calm = true) (G : Err0 X.K X.mg n) (tk : Takes X W) (hg : Gl X n) (hdb : (n == ("__debug__" : Str)) = false := by decide) : PS X (.Raise (some (.Call (.Name n p) [] [] pos)) none pos2) (tRaise0 (clA X.mg n) W) :=
  ps_raise hc tk (pmk_zero G hg hdb)
end
/-! ### try with several clauses, each with its name -/
def wManyAs (K : PySem.W.Frag) (i : Nat) (Wout : WX) (D : Ends) : List (Value × (Addr → Value → Option Addr → TS)) → WX
  | [] => Wout
  | (c, ts) :: r => fun cls d σ H => ∃ b, PySem.W.exmOne K cls c = some b ∧ (b = true → ∀ a, H a = none → ts a cls d { nx := fun σ' H' => D.nx (σ'.set i none) H', rt := D.rt, bk := fun σ' H' => D.bk (σ'.set i none) H', ct := fun σ' H' => D.ct (σ'.set i none) H' } (σ.set i (some (.ref a))) H) ∧
    (b = false → wManyAs K i Wout D r cls d σ H)
/-- the clauses «except x as n», n in slot i -/
inductive HdsAs (X : Cx) (n : Str) : List ExceptHandler → List (Value × (Addr → Value → Option Addr → TS)) → Prop
  | nil : HdsAs X n [] []
  | cons {x : Str} {c : Value} {ts : Addr → Value → Option Addr → TS} {b₀ : Stmt} {suite : List Stmt} {np pos' : Pos} {hds : List ExceptHandler} {l : List (Value × (Addr → Value → Option Addr → TS))} (hc : Names X x c)
      (hsu : ∀ (a : Addr) (oe : Obj) (cls : Value) (d : Option Addr) (pn : List (Addr × Obj)), Zc cls d oe → (∃ vs, oe.data = .fields vs) → PSs (X.suite a ((a, oe) :: pn)) (b₀ :: suite) (ts a cls d)) (r : HdsAs X n hds l) :
      HdsAs X n (.ExceptHandler (some (.Name x np)) (some n) (b₀ :: suite) pos' :: hds) ((c, ts) :: l)
section
variable {X : Cx} {n : Str} {i : Nat} {body : List Stmt} {h₀ : ExceptHandler} {hds : List ExceptHandler} {l : List (Value × (Addr → Value → Option Addr → TS))} {pos : Pos} {tb : WX → TS} {Wout : WX}
theorem ps_tryAs (hs : X.stack = X.env :: X.outer) (hf : X.env.frame = some X.env.locals) (hN : X.N.Nodup) (hi : X.N[i]? = some n) (hln : X.env.kindOf n = some .local) (tk : Takes X Wout)
    (hb : ∀ (W : WX) (pn : List (Addr × Obj)) (xe : Value → Shared → Prop), Takes (X.tr pn xe) W → PassesOwn (model X.prog X.w) X.A X.env xe → PSs (X.tr pn xe) body (tb W))
    (hh : HdsAs X n (h₀ :: hds) l) : PS X (.Try body (h₀ :: hds) [] [] pos) (fun D σ H => tb (wManyAs X.K i Wout D l) D σ H) := by
  refine ⟨fun pins s σ H D I h => ?_⟩
  have ok := I.ok
  have hfr : X.A.frames = some (X.env :: X.outer) := by rw [ok.frames, hs]
  have hloc : Loc X.env.scope n := .inl hln
  refine wpAny_Try_except ?_
  refine wpAny_mono ((hb (wManyAs X.K i Wout D l) (X.pn ++ pins) (fun e s₁ => wpAny (model X.prog X.w) X.A (noteFrame e X.env) (fun _ s₂ => wpAny (model X.prog X.w) X.A (setFlight e none) (fun _ s₃ =>
    wpAny (model X.prog X.w) X.A (handleBy e X.env (h₀ :: hds)) (SP X pins D) X.xe s₃) X.xe s₂) X.xe s₁) (fun u s' xx => ?_) PassesOwn.looking).run [] s σ H D (I.toTry _) h) (fun f s1 hsp => ?_) (fun e s1 he => he)
  · obtain ⟨a, B, sI, pins', σ', H', cls, d, rfl, J', nb, up, sky, na, os, ag, w⟩ := xx
    have J : Inv X pins σ' H' sI := J'.ofTry ok
    have sky' : Sky B (X.env :: X.outer) a (Zc cls d) X.env.locals s'.heap := by rw [← hs]; exact sky
    show wpAny (model X.prog X.w) X.A (noteFrame (.ref a) X.env) _ _ _
    refine Sky.land Zc.steady hfr hf sky' fun h3 fl3 up3 => ?_
    have J3 : Inv X pins σ' H' { s' with heap := h3 } := J.landed nb fl3.1 (up.trans up3) os ag
    obtain ⟨oe3, vs3, he3, hz3, hd3⟩ := fl3.there
    have notFr : ∀ {h : Heap} {o : Obj} {vs : Array Value}, h.FunFrames B (X.env :: X.outer) → h.get? a = some o → o.data = .fields vs → a ∉ frs (X.env :: X.outer) := fun {h o vs} ff e dd hm => by
      obtain ⟨_, o', e', hnf⟩ := ff.mem hm
      rw [e] at e'; cases e'
      exact hnf _ dd
    have nfr := notFr fl3.2.2.1 he3 hd3
    have nL : a ≠ X.env.locals := fun z => nfr (List.mem_filterMap.mpr ⟨X.env, List.mem_cons_self, by rw [hf, z]⟩)
    have nF : a ∉ X.fs := fun hm => by
      obtain ⟨e, he, q⟩ := List.mem_filterMap.mp hm
      exact nfr (List.mem_filterMap.mpr ⟨e, List.mem_cons_of_mem _ he, q⟩)
    have S3 := J3.suite he3 hd3 na nL nF
    have go : ∀ {hds' : List ExceptHandler} {l' : List (Value × (Addr → Value → Option Addr → TS))}, HdsAs X n hds' l' → wManyAs X.K i Wout D l' cls d σ' H' →
        wpAny (model X.prog X.w) X.A (handleBy (.ref a) X.env hds') (SP X pins D) X.xe { s' with heap := h3 } := by
      intro hds' l' hk
      induction hk with
      | nil =>
        intro w
        refine wpAny_handleBy_nil ?_
        obtain ⟨k1, k2, k3, oe, vs, T, oT, ts', he, hz, hd, h1, hr⟩ := id fl3
        unfold PySem.passOn
        refine wpAny_bind (wpAny_field he hd h1 ?_)
        rw [if_neg (show ¬ ((Value.ref T == Value.none) = true) from by simp)]
        have fin : wpAny (model X.prog X.w) X.A (setFlight (.ref a) X.env.frame) (fun _ s4 => wpAny (model X.prog X.w) X.A (throw (.ref a) : Sem Flow) (SP X pins D) X.xe s4) X.xe { s' with heap := h3 } := by
          rw [hf]
          refine HandSPX.setFlight_upZ fl3 fun h4 hh4 up4 => wpAny_throw (tk _ _ ?_)
          exact ⟨a, B, sI, pins, σ', H', cls, d, rfl, J, nb, (up.trans up3).trans up4, .inr (.inr (by rw [hs]; exact hh4)), na, os, ag, w⟩
        first
          | exact wpAny_bind (wpAny_pure (wpAny_bind fin))
          | exact wpAny_bind fin
      | @cons x c ts b₀ suite np pos' hds2 l2 hc hsu r ih =>
        intro w
        obtain ⟨b, hb1, hyes, hno⟩ := w
        refine wpAny_handleBy_cons (codeAny_handlers_test ?_) (by intro q; cases q)
        have LT : PySem.W.Looks (model X.prog X.w) h3 (typeOf (.ref a)) cls := fun A Q E s k q => wpAny_typeOf_ref (k _ _ he3) (by rw [hz3.1]; exact q)
        have LM := PySem.W.exm_one (M := model X.prog X.w) (J3.kIn) LT hb1
        have test : ∀ {Q : Value → Shared → Prop} {E : Value → Shared → Prop}, Q c { s' with heap := h3 } → wpAny (model X.prog X.w) (X.A.mark (some (.ref a))) (eval (.Name x np) X.env) Q E { s' with heap := h3 } := fun {Q E} q => by
          obtain ⟨hg, hdbg, hm | ⟨hm, hv, hnn⟩⟩ := hc
          · exact ld_glob (X := X.suite a ((a, oe3) :: (X.pn ++ pins))) S3 hg hm q hdbg
          · exact ld_blt (X := X.suite a ((a, oe3) :: (X.pn ++ pins))) S3 hg hm hv q hnn hdbg
        refine test (LM.here ?_)
        cases b with
        | true =>
          refine codeAny_handlers_suite_as ?_
          refine HandSPX.lands_againZ fl3 fun h4 fl4 up4 => ?_
          have J4 : Inv X pins σ' H' { s' with heap := h4 } := J.landed nb fl4.1 ((up.trans up3).trans up4) os ag
          obtain ⟨oe4, vs4, he4, hz4, hd4⟩ := fl4.there
          have S4 := J4.suite he4 hd4 na nL nF
          refine store_ok (X := X.suite a ((a, oe4) :: (X.pn ++ pins))) (v := .ref a) S4 hN hi hloc rfl (fun s5 S5 => ?_) (.inr hln)
          refine wpAny_mono ((hsu a oe4 cls d (X.pn ++ pins) hz4 ⟨_, hd4⟩).run [] s5 _ H' _ S5 (hyes rfl a na)) (fun f s6 hsp => ?_) (fun _ _ z => False.elim z)
          have end_ : ∀ {σ6 : L2.St} {H6 : Hp} {Q : Shared → Prop}, Inv (X.suite a ((a, oe4) :: (X.pn ++ pins))) [] σ6 H6 s6 → (∀ s7, Inv X pins (σ6.set i none) H6 s7 → Q s7) →
              wpAny (model X.prog X.w) X.A (do bindName X.env n .none; unbindBehindTheSuite X.env n pos') (fun _ s7 => Q s7) X.xe s6 := fun {σ6 H6 Q} S6 hq => gone_ok (S6.unsuite ok) hN hi hln hq
          cases f with
          | next =>
            obtain ⟨σ6, H6, S6, q6⟩ := hsp
            exact end_ S6 fun s7 J7 => ⟨_, _, J7, q6⟩
          | brk =>
            obtain ⟨σ6, H6, S6, q6⟩ := hsp
            exact end_ S6 fun s7 J7 => ⟨_, _, J7, q6⟩
          | cont =>
            obtain ⟨σ6, H6, S6, q6⟩ := hsp
            exact end_ S6 fun s7 J7 => ⟨_, _, J7, q6⟩
          | ret u =>
            obtain ⟨v6, σ6, H6, S6, r6, q6⟩ := hsp
            exact end_ S6 fun s7 J7 => ⟨_, _, _, J7, r6, q6⟩
        | false =>
          show wpAny _ X.A (handleBy (.ref a) X.env hds2) _ _ _
          exact ih (hno rfl)
    exact go hh w
  · cases f with
    | next =>
      obtain ⟨σ', H', J', q⟩ := hsp
      exact wpAny_execs_nil ⟨σ', H', J'.ofTry ok, q⟩
    | brk =>
      obtain ⟨σ', H', J', q⟩ := hsp
      exact ⟨σ', H', J'.ofTry ok, q⟩
    | cont =>
      obtain ⟨σ', H', J', q⟩ := hsp
      exact ⟨σ', H', J'.ofTry ok, q⟩
    | ret u =>
      obtain ⟨v, σ', H', J', r, q⟩ := hsp
      exact ⟨v, σ', H', J'.ofTry ok, r, q⟩
end
end Xm
namespace Xm
open PySem PySem.Spec PyProof.Rows L2 Ss
/-! ### what the top tells of its classes -/
section
variable {K : PySem.W.Frag} {mg : Str → Option Value} {A B : Str} {CA CB : Addr} {b : Bool}
theorem clA_of (h : mg A = some (.ref CA)) : clA mg A = CA := by
  unfold clA
  rw [h]
theorem g_at (h : mg A = some (.ref CA)) : mg A = some (.ref (clA mg A)) := by rw [clA_of h]; exact h
theorem exm_at (hA : mg A = some (.ref CA)) (hB : mg B = some (.ref CB)) (h1 : PySem.W.subIn K (.ref CB) (.type "BaseException") = some true) (hd : PySem.W.hasDictIn K CB = true) (ht : PySem.W.typeIn K (.ref CB) = some (.type "type")) (h4 : PySem.W.subIn K (.ref CA) (.ref CB) = some b) :
    PySem.W.exmOne K (.ref (clA mg A)) (.ref (clA mg B)) = some b := by
  rw [clA_of hA, clA_of hB]
  exact PySem.W.exm_ref h1 hd ht h4
theorem cls_some (hd : PySem.W.hasDictIn K CB = true) : (PySem.W.clsIn K CB).isSome = true := by
  obtain ⟨cd, hc, _⟩ := PySem.W.any_some hd
  rw [hc]
  rfl
theorem kit_at (hA : mg A = some (.ref CA)) (hB : mg B = some (.ref CB)) (hd : PySem.W.hasDictIn K CB = true) (ht : PySem.W.typeIn K (.ref CB) = some (.type "type")) (h4 : PySem.W.subIn K (.ref CA) (.ref CB) = some b) (hs : (CA == CB) = true → b = true) :
    PySem.W.kitOne K (.ref (clA mg A)) (.ref (clA mg B)) = some b := by
  rw [clA_of hA, clA_of hB]
  unfold PySem.W.kitOne
  by_cases e : (Value.ref CA == Value.ref CB) = true
  · rw [if_pos e, hs (by have := Value.ref.inj (beq_iff_eq.mp e); rw [this]; exact beq_self_eq_true _)]
  · rw [if_neg e]
    show (if ((PySem.W.clsIn K CB).isSome && PySem.W.typeIn K (.ref CB) == some (.type "type")) = true then PySem.W.subIn K (.ref CA) (.ref CB) else none) = some b
    rw [cls_some hd, ht, if_pos (by simp), h4]
theorem kit_ve (hA : mg A = some (.ref CA)) (h4 : PySem.W.subIn K (.ref CA) (.type "ValueError") = some b) : PySem.W.kitOne K (.ref (clA mg A)) (.type "ValueError") = some b := by
  rw [clA_of hA]
  unfold PySem.W.kitOne
  rw [if_neg (by intro z; cases beq_iff_eq.mp z)]
  show (if PySem.W.kitMeta "ValueError" = true then PySem.W.subIn K (.ref CA) (.type "ValueError") else none) = some b
  rw [if_pos (by decide +kernel), h4]
theorem excC_at (hA : mg A = some (.ref CA)) (hg : PySem.W.findIn K (.ref CA) "__getattribute__" = some (some (.builtin "BaseException.__getattribute__"))) (hk : PySem.W.findIn K (.ref CA) "__getattr__" = some none) (hs : PySem.W.subIn K (.ref CA) (.type "BaseException") = some true)
    (hd : PySem.W.hasDictIn K CA = true) (ha : PySem.W.findIn K (.ref CA) "__class__" = some (some (.builtin "object.__class__"))) (hn : PySem.W.specialIn K (.builtin "object.__class__") "__get__" = some (some (.builtin "getset_descriptor.__get__"))) (ht : PySem.W.takesIn K (.builtin "object.__class__") = some true) (hm : PySem.W.mroIn K CA (.type "object") = some true) : ExcC K (clA mg A) := by
  rw [clA_of hA]
  exact ⟨hg, hk, hs, hd, ha, hn, ht, hm⟩
theorem xfC_of (T : ExcC K CA) : XfC K CA := ⟨T.hg, T.hk, T.hs, T.hd⟩
theorem fn_at {f : Str} (hA : mg A = some (.ref CA)) (h : PySem.W.findIn K (.ref CA) f = some none) : PySem.W.findIn K (.ref (clA mg A)) f = some none := by
  rw [clA_of hA]
  exact h
theorem errF_at {P : Program} {w : World} {base : Heap} {f : Str} {fI : Addr} {fd : FuncData} {ps : List Str} {nm q : Str} {N : Addr} {bs bm : List Value} {sn : List Str} {sub : List Value} {ab : Bool} {col : Option Bool} {dd : Option Addr} {k0 k1 k2 k3 k5 : Option Value}
    (hA : mg A = some (.ref CA)) (X : ExcC K (clA mg A)) (lk : K.lookup CA = some (excClassObj nm q CA N bs bm true sn sub ab col dd k0 k1 k2 k3 k5 "ValueError.__new__")) (rv : PySem.HandSPX.refsVE bm = true) (sa : PySem.W.findIn K (.ref CA) "__setattr__" = some (some (.builtin "object.__setattr__")))
    (ty : PySem.W.typeIn K (.ref CA) = some (.type "type")) (kC : PySem.W.keepIn K (.ref CA) = true) (fn : PySem.W.findIn K (.ref CA) f = some none) (i1 : PySem.W.findIn K (.ref CA) "__init__" = some (some (.ref fI))) (i2 : PySem.W.typeIn K (.ref fI) = some (.type "function"))
    (F : FnOk P w K mg base CX0 1 fI fd ps (spInit K (clA mg A) f)) (b : Binds K fd ps []) : ErrF P w K mg base A f := by
  have e := clA_of hA
  refine ⟨g_at hA, ⟨⟨nm, q, N, bs, bm, sn, sub, ab, col, dd, k0, k1, k2, k3, k5, by rw [e]; exact lk, rv⟩, by rw [e]; exact sa, X.hs, by rw [e]; exact ty, by rw [e]; exact kC⟩, by rw [e]; exact fn, xfC_of X, fI, fd, ps, by rw [e]; exact i1, i2, F, b⟩
theorem oex_at {nm q : Str} {N : Addr} {bs bm : List Value} {sn : List Str} {sub : List Value} {ab : Bool} {col : Option Bool} {dd : Option Addr} {k0 k1 k2 k3 k5 : Option Value}
    (hA : mg A = some (.ref CA)) (lk : K.lookup CA = some (excClassObj nm q CA N bs bm true sn sub ab col dd k0 k1 k2 k3 k5 "ValueError.__new__")) (rv : PySem.HandSPX.refsVE bm = true) (sa : PySem.W.findIn K (.ref CA) "__setattr__" = some (some (.builtin "object.__setattr__")))
    (hs : PySem.W.subIn K (.ref CA) (.type "BaseException") = some true) (ty : PySem.W.typeIn K (.ref CA) = some (.type "type")) (kC : PySem.W.keepIn K (.ref CA) = true) : OexC K (clA mg A) := by
  have e := clA_of hA
  exact ⟨⟨nm, q, N, bs, bm, sn, sub, ab, col, dd, k0, k1, k2, k3, k5, by rw [e]; exact lk, rv⟩, by rw [e]; exact sa, by rw [e]; exact hs, by rw [e]; exact ty, by rw [e]; exact kC⟩
theorem err0_at (hA : mg A = some (.ref CA)) (q : PySem.W.excIn K CA [.type "ValueError", .type "Exception", .type "BaseException", .type "object"] "ValueError.__new__" = true) (kC : PySem.W.keepIn K (.ref CA) = true) (h1 : PySem.W.subIn K (.ref CA) (.type "BaseException") = some true) (h2 : PySem.W.typeIn K (.ref CA) = some (.type "type")) : Err0 K mg A := by
  have e := clA_of hA
  exact ⟨g_at hA, by rw [e]; exact q, by rw [e]; exact kC, by rw [e]; exact h1, by rw [e]; exact h2⟩
end
end Xm
namespace Dl
open PySem PySem.Spec PyProof.Rows L2 Ss Xm
/-! ### errors over data: the class by its name, the field with its value -/
structure Er where
  n : Str
  fs : Option (Str × Dat)
def toV : Dat → V
  | .int i => .int i
  | .str x => .str x
  | _ => .non
def ScX : Dat → Prop
  | .int i => i.natAbs.log2 < 1920
  | .str x => x.length ≤ 1921
  | _ => False
theorem valx_of {N : Ow} {H : Hp} {v : V} {d : Dat} (f : Fz N H v d) (h : ScX d) : v = toV d ∧ ValX v := by
  cases d with
  | int i => cases f; exact ⟨rfl, .inl ⟨i, rfl, h⟩⟩
  | str x => cases f; exact ⟨rfl, .inr ⟨x, rfl, h⟩⟩
  | _ => exact h.elim
theorem toV_fz {N : Ow} {H : Hp} {d : Dat} (h : ScX d) : Fz N H (toV d) d := by
  cases d with
  | int i => exact .int i
  | str x => exact .str x
  | _ => exact h.elim
def ErrAt (mg : Str → Option Value) (H : Hp) (e : Er) (cls : Value) (d : Option Addr) : Prop := cls = .ref (clA mg e.n) ∧ match e.fs with
  | none => d = none
  | some (f, x) => ScX x ∧ ∃ dd, d = some dd ∧ H dd = some (.xd [(f, toV x)])
abbrev DX := Er → DEnv → Prop
def XOk (mg : Str → Option Value) (C : Ct) (Wx : WX) (Xc : DX) : Prop := ∀ (W : Ow) (H : Hp) (σ : L2.St) (E : DEnv) (e : Er) (cls : Value) (d : Option Addr), Rep C W H σ E → ErrAt mg H e cls d → Xc e E → Wx cls d σ H
/-! ### calls of defs that may raise -/
abbrev DSpX := List Dat → (Dat → Dat → Prop) → (Er → Dat → Prop) → Prop
def spOfX (mg : Str → Option Value) (n : Nat) (m : Option Nat) (fr : Bool) (sp : DSpX) : Sp := fun vs H Q XE => vs.length = n ∧ ∃ (ds : List Dat) (N0 P : Ow), (∀ b, N0 b → LD H b) ∧ (∀ b, P b → N0 b) ∧ ArgsOk m N0 P H vs ds ∧
  ∃ (Qd : Dat → Dat → Prop) (Xd : Er → Dat → Prop), sp ds Qd Xd ∧ (∀ r o, Qd r o → ∀ v H', (∀ b x, ¬ P b → H b = some x → H' b = some x) → (∀ b, N0 b → LD H' b) → (∀ j, m = some j → ∃ a, vs[j]? = some (.ref a) ∧ OwnC (Nr fr N0 v) H' a o) →
    (if fr = true then ∃ p, v = .ref p ∧ H p = none ∧ OwnC (Nr fr N0 v) H' p r else Fz N0 H' v r) → Q v H') ∧
    (∀ e o, Xd e o → ∀ cls d H', (∀ b x, ¬ P b → H b = some x → H' b = some x) → (∀ b, N0 b → LD H' b) → (∀ j, m = some j → ∃ a, vs[j]? = some (.ref a) ∧ OwnC N0 H' a o) → ErrAt mg H' e cls d → XE cls d H')
structure ClX (P : Program) (w : World) (K : PySem.W.Frag) (mg : Str → Option Value) (base : Heap) (k : Nat) (x : Str) (ps : List Str) (sp : Sp) : Prop where
  ex : ∃ f fd, FnOk P w K mg base (L2.CX P w) k f fd ps sp ∧ mg x = some (.ref f) ∧ PySem.W.keepIn K (.ref f) = true ∧ Binds K fd ps []
section
variable {X : Cx} {k : Nat} {x : Str} {ps : List Str} {sp : Sp} {p pos : Pos} {e : Expr} {es : List Expr} {t : TA} {Wx : WX}
theorem pe_clX (C : ClX X.prog X.w X.K X.mg X.base k x ps sp) (tk : Takes X Wx) (hr : Room k X.A) (hg : Gl X x)
    (ha : PA X (e :: es) t) (hdb : (x == ("__debug__" : Str)) = false := by decide) (he : starEach (e :: es) X.env = (false, eval e X.env) :: starEach es X.env := by rfl) (hpl : (backTo pos (starEach es X.env)).any (·.1) = false := by rfl) :
    PE X (.Call (.Name x p) (e :: es) [] pos) (tCallS sp (WE Wx) t) := by
  obtain ⟨f, fd, F, hm, hk, b⟩ := C.ex
  exact pe_callS F hr hg hm hk b (fun σ => passAt tk σ) ha hdb he hpl
/-- .. where it does not -/
theorem pe_clN (C : ClX X.prog X.w X.K X.mg X.base k x ps sp) (hr : Room k X.A) (hg : Gl X x)
    (ha : PA X (e :: es) t) (hdb : (x == ("__debug__" : Str)) = false := by decide) (he : starEach (e :: es) X.env = (false, eval e X.env) :: starEach es X.env := by rfl) (hpl : (backTo pos (starEach es X.env)).any (·.1) = false := by rfl) :
    PE X (.Call (.Name x p) (e :: es) [] pos) (tCall sp [] E0 t) := by
  obtain ⟨f, fd, F, hm, hk, b⟩ := C.ex
  exact pe_call F hr hg hm hk b .nil passL ha hdb he hpl
end
section
variable {C : Ct} {n : Nat} {sp : DSpX} {mg : Str → Option Value} {Wx : WX} {Xc : DX}
def dCallX (n : Nat) (sp : DSpX) (Xc : DX) (da : DA) : DE := fun E R => da E fun ds E1 => ds.length = n ∧ sp ds (fun r _ => R r E1) (fun e _ => Xc e E1)
theorem rf_callX {ta : TA} {da : DA} (hx : XOk mg C Wx Xc) (ha : RfA C ta da) : RfE C (tCallS (spOfX mg n none false sp) (WE Wx) ta) (dCallX n sp Xc da) := fun W H σ E Q R Re r k => ha W H σ E _ _ Re r fun vs ds H1 E1 R1 g1 f1 ⟨hn, r1⟩ => by
  refine ⟨f1.len.trans hn, ds, Nn C W, fun _ => False, R1.ld, fun _ z => z.elim, args0 f1, _, _, r1, fun r o q v H' st ld mo ro => ?_, fun e o q cls d H' st ld mo ea => ?_⟩
  · have s : Same H1 H' := fun b x e => st b x id e
    rw [if_neg Bool.false_ne_true] at ro
    exact k v r H' E1 (R1.same s) (g1.trans (Gr.same s)) ro q
  · have s : Same H1 H' := fun b x e => st b x id e
    exact hx W H' σ E1 e cls d (R1.same s) ea q
theorem rf_callXF {ta : TA} {da : DA} (hx : XOk mg C Wx Xc) (ha : RfA C ta da) : RfF C (tCallS (spOfX mg n none true sp) (WE Wx) ta) (dCallX n sp Xc da) := fun W H σ E Q R Re r k => ha W H σ E _ _ Re r fun vs ds H1 E1 R1 g1 f1 ⟨hn, r1⟩ => by
  refine ⟨f1.len.trans hn, ds, Nn C W, fun _ => False, R1.ld, fun _ z => z.elim, args0 f1, _, _, r1, fun r o q v H' st ld mo ro => ?_, fun e o q cls d H' st ld mo ea => ?_⟩
  · have s : Same H1 H' := fun b x e => st b x id e
    rw [if_pos rfl] at ro
    obtain ⟨p, rfl, hp, oc⟩ := ro
    obtain ⟨R2, av⟩ := R1.grow s hp oc.ld
    have h0 : H p = none := by
      cases e : H p with
      | none => rfl
      | some o =>
        by_cases w : W p
        · exact absurd hp (ld_some (R1.ld p (.inr w)))
        · rw [g1.st p o w e] at hp; cases hp
    have sub : ∀ b, Nn C (And1 W p) b → Nr true (Nn C W) (.ref p) b := fun b z => by
      rcases z with z | z | rfl
      · exact .inl (.inl z)
      · exact .inl (.inr z)
      · exact .inr ⟨rfl, rfl⟩
    exact k p r H' E1 R2 (g1.trans (Gr.same s)) h0 (oc.keep (Kp.sub sub) rfl) av q
  · have s : Same H1 H' := fun b x e => st b x id e
    exact hx W H' σ E1 e cls d (R1.same s) ea q
/-- nothing is raised -/
def spN (sp : DSpX) : DSp := fun ds Q => sp ds Q fun _ _ => False
theorem spOfN {m : Option Nat} {fr : Bool} {vs : List V} {H : Hp} {Q : VK} {XE : XK} (h : spOf n m fr (spN sp) vs H Q XE) : spOfX mg n m fr sp vs H Q XE := by
  obtain ⟨hn, ds, N0, P, ld, pn, ao, Qd, hsp, k⟩ := h
  exact ⟨hn, ds, N0, P, ld, pn, ao, Qd, _, hsp, k, fun e o z => z.elim⟩
theorem rf_callN {XE : XK} {ta : TA} {da : DA} (ha : RfA C ta da) : RfE C (tCall (spOfX mg n none false sp) [] XE ta) (dCall0 n (spN sp) da) := fun W H σ E Q R Re r k => ha W H σ E _ _ Re r fun vs ds H1 E1 R1 g1 f1 ⟨hn, r1⟩ => by
  rw [List.append_nil]
  refine spOfN ⟨f1.len.trans hn, ds, Nn C W, fun _ => False, R1.ld, fun _ z => z.elim, args0 f1, _, r1, fun r o q v H' st ld mo ro => ?_⟩
  have s : Same H1 H' := fun b x e => st b x id e
  rw [if_neg Bool.false_ne_true] at ro
  exact k v r H' E1 (R1.same s) (g1.trans (Gr.same s)) ro q
/-! ### raise -/
def dRaiseF (n f : Str) (Xc : DX) (da : DE) : DS := fun DD E => da E fun x E1 => ScX x ∧ Xc ⟨n, some (f, x)⟩ E1
theorem rf_raiseF {P : Program} {w : World} {K : PySem.W.Frag} {base : Heap} {n f : Str} {te : TE} {da : DE} (G : ErrF P w K mg base n f) (hx : XOk mg C Wx Xc) (ha : RfE C te da) : RfS C (tRaiseF K (clA mg n) f Wx te) (dRaiseF n f Xc da) := fun _ W H σ E B DD R h c =>
  ha W H σ E _ _ R h fun v x H1 E1 R1 g1 f1 ⟨hs, q⟩ => by
    obtain ⟨ev, hv⟩ := valx_of f1 hs
    refine ⟨(by show 1 ≤ 1000; decide), fun a ha => ?_⟩
    refine ⟨a, v, rfl, upd_same, G.T, G.fn, hv, fun dx hdx hne => ?_⟩
    refine ⟨rfl, dx, [(f, v)], upd_same, (upd_ne hne).trans upd_same, (upd_ne (H := H1) hne).symm.trans hdx, ?_⟩
    have h0 : H1 dx = none := (upd_ne (H := H1) hne).symm.trans hdx
    have s : Same H1 (upd (del (upd (upd (upd H1 a (exo a (clA mg n) none)) dx (exd dx [(f, v)])) a (exo a (clA mg n) (some dx))) a) dx (.xd [(f, v)])) := fun b o e => by
      have nb : b ≠ dx := fun z => by rw [z, h0] at e; cases e
      have na : b ≠ a := fun z => by rw [z, ha] at e; cases e
      rw [upd_ne nb, del_ne na, upd_ne na, upd_ne nb, upd_ne na]
      exact e
    exact hx W _ σ E1 ⟨n, some (f, x)⟩ _ _ (R1.same s) ⟨rfl, hs, dx, rfl, by rw [← ev]; exact upd_same⟩ q
def dRaise0 (n : Str) (Xc : DX) : DS := fun DD E => Xc ⟨n, none⟩ E
theorem rf_raise0 {n : Str} (hx : XOk mg C Wx Xc) : RfS C (tRaise0 (clA mg n) Wx) (dRaise0 n Xc) := fun _ W H σ E B DD R h c => hx W H σ E ⟨n, none⟩ _ _ R ⟨rfl, rfl⟩ h
end
/-! ### what an except clause answers -/
abbrev XF := Er → (Dat → Prop) → Prop
/-- an expression of a suite: i holds the error -/
def RfX (mg : Str → Option Value) (i : Nat) (a : Addr) (cls : Value) (d : Option Addr) (te : TE) (fx : XF) : Prop := ∀ (σ : L2.St) (H : Hp) (Q : VK) (e : Er) (R : Dat → Prop), σ[i]? = some (some (.ref a)) → ErrAt mg H e cls d → fx e R → (∀ v x H', Same H H' → (∀ N, Fz N H' v x) → R x → Q v H') → te σ H Q
def RfXA (mg : Str → Option Value) (i : Nat) (a : Addr) (cls : Value) (d : Option Addr) (ta : TA) (fx : Er → (List Dat → Prop) → Prop) : Prop := ∀ (σ : L2.St) (H : Hp) (Q : List V → Hp → Prop) (e : Er) (R : List Dat → Prop), σ[i]? = some (some (.ref a)) → ErrAt mg H e cls d → fx e R → (∀ v x H', Same H H' → (∀ N, FzL N H' v x) → R x → Q v H') → ta σ H Q
theorem ErrAt.same {mg : Str → Option Value} {H H' : Hp} {e : Er} {cls : Value} {d : Option Addr} (h : ErrAt mg H e cls d) (s : Same H H') : ErrAt mg H' e cls d := by
  obtain ⟨n, fs⟩ := e
  obtain ⟨h1, h2⟩ := h
  refine ⟨h1, ?_⟩
  cases fs with
  | none => exact h2
  | some fx =>
    obtain ⟨hs, dd, e1, e2⟩ := h2
    exact ⟨hs, dd, e1, s _ _ e2⟩
section
variable {mg : Str → Option Value} {i : Nat} {a : Addr} {cls : Value} {d : Option Addr} {K : PySem.W.Frag}
def xC (x : Dat) : XF := fun _ R => R x
theorem rx_str {x : Str} : RfX mg i a cls d (tC (.str x)) (xC (.str x)) := fun σ H Q e R _ _ r k => k _ _ H (Same.refl H) (fun _ => .str x) r
theorem rx_int {x : Int} : RfX mg i a cls d (tC (.int x)) (xC (.int x)) := fun σ H Q e R _ _ r k => k _ _ H (Same.refl H) (fun _ => .int x) r
theorem rx_bl {x : Bool} : RfX mg i a cls d (tC (.bl x)) (xC (.bool x)) := fun σ H Q e R _ _ r k => k _ _ H (Same.refl H) (fun _ => .bl x) r
theorem rx_non : RfX mg i a cls d (tC .non) (xC .none) := fun σ H Q e R _ _ r k => k _ _ H (Same.refl H) (fun _ => .non) r
/-- e.f -/
def xFld (n f : Str) : XF := fun e R => ∃ x, e = ⟨n, some (f, x)⟩ ∧ R x
theorem rx_fld {n f : Str} : RfX mg i a cls d (tXf a cls d (clA mg n) f (tVar i)) (xFld n f) := fun σ H Q e R hi he ⟨x, ee, r⟩ k => by
  subst ee
  obtain ⟨ec, hs, dd, ed, hd⟩ := he
  refine ⟨.ref a, hi, rfl, ec, dd, _, toV x, ed, hd, ?_, k _ x H (Same.refl H) (fun _ => toV_fz hs) r⟩
  rw [lookup_put, if_pos rfl]
/-- isinstance(e, c) -/
def xIs (K : PySem.W.Frag) (mg : Str → Option Value) (cv : Value) : XF := fun e R => ∃ b, ExcC K (clA mg e.n) ∧ PySem.W.kitOne K (.ref (clA mg e.n)) cv = some b ∧ R (.bool b)
theorem rx_is {c : V} {cv : Value} (hc : ∀ u, RelV c u → u = cv) : RfX mg i a cls d (tCB (rIsX K cls a d) (tCons (tVar i) (tCons (tC c) tNil))) (xIs K mg cv) := fun σ H Q e R hi he ⟨b, hE, hk, r⟩ k => by
  refine ⟨.ref a, hi, clA mg e.n, c, cv, b, he.1, hE, rfl, hc, hk, ?_, k _ _ H (Same.refl H) (fun _ => .bl b) r⟩
  obtain ⟨_, h2⟩ := he
  split at h2
  · exact .inl h2
  · obtain ⟨_, dd, e1, e2⟩ := h2
    exact .inr ⟨dd, _, e1, e2⟩
def xAnd (f g : XF) : XF := fun e R => f e fun x => ∃ c, x = .bool c ∧ if c = true then g e R else R (.bool false)
theorem rx_and {ta tb : TE} {f g : XF} (ha : RfX mg i a cls d ta f) (hb : RfX mg i a cls d tb g) : RfX mg i a cls d (tAndV ta tb) (xAnd f g) := fun σ H Q e R hi he r k =>
  ha σ H _ e _ hi he r fun v x H1 s1 f1 ⟨c, ex, r1⟩ => by
    subst ex
    have f0 := f1 fun _ => False
    cases f0
    refine ⟨c, rfl, ?_⟩
    cases c with
    | true => exact hb σ H1 Q e R hi (he.same s1) r1 fun v x H2 s2 f2 r2 => k v x H2 (Same.trans s1 s2) f2 r2
    | false => exact k _ _ H1 s1 (fun _ => .bl false) r1
def xNot (f : XF) : XF := fun e R => f e fun x => ∃ c, x = .bool c ∧ R (.bool (!c))
theorem rx_not {ta : TE} {f : XF} (ha : RfX mg i a cls d ta f) : RfX mg i a cls d (tNotV ta) (xNot f) := fun σ H Q e R hi he r k =>
  ha σ H _ e _ hi he r fun v x H1 s1 f1 ⟨c, ex, r1⟩ => by
    subst ex
    have f0 := f1 fun _ => False
    cases f0
    exact ⟨c, rfl, k _ _ H1 s1 (fun _ => .bl _) r1⟩
def xNil : Er → (List Dat → Prop) → Prop := fun _ R => R []
theorem rx_nil : RfXA mg i a cls d tNil xNil := fun σ H Q e R hi he r k => k [] [] H (Same.refl H) (fun _ => .nil) r
def xCons (f : XF) (g : Er → (List Dat → Prop) → Prop) : Er → (List Dat → Prop) → Prop := fun e R => f e fun x => g e fun xs => R (x :: xs)
theorem rx_cons {ta : TE} {tr : TA} {f : XF} {g : Er → (List Dat → Prop) → Prop} (ha : RfX mg i a cls d ta f) (hr : RfXA mg i a cls d tr g) : RfXA mg i a cls d (tCons ta tr) (xCons f g) := fun σ H Q e R hi he r k =>
  ha σ H _ e _ hi he r fun v x H1 s1 f1 r1 => hr σ H1 _ e _ hi (he.same s1) r1 fun vs xs H2 s2 f2 r2 => k _ _ H2 (Same.trans s1 s2) (fun N => .cons ((f1 N).keep (Kp.same s2)) (f2 N)) r2
def xTup (g : Er → (List Dat → Prop) → Prop) : XF := fun e R => g e fun xs => xs.length ≤ sizeLine ∧ R (.tuple xs)
theorem rx_tup {ta : TA} {g : Er → (List Dat → Prop) → Prop} (ha : RfXA mg i a cls d ta g) : RfX mg i a cls d (tTup ta) (xTup g) := fun σ H Q e R hi he r k =>
  ha σ H _ e _ hi he r fun vs xs H1 s1 f1 ⟨hl, r1⟩ => ⟨by rw [(f1 fun _ => False).len]; exact hl, fun p np => by
    have s := same_new (o := .tup vs) np
    exact k (.ref p) (.tuple xs) _ (Same.trans s1 s) (fun N => .tup upd_same ((f1 N).keep (Kp.same s))) r1⟩
/-- a suite that returns -/
def RfSu (mg : Str → Option Value) (i : Nat) (ts : Addr → Value → Option Addr → TS) (fx : XF) : Prop := ∀ (a : Addr) (cls : Value) (d : Option Addr) (D : Ends) (σ : L2.St) (H : Hp) (e : Er) (R : Dat → Prop), σ[i]? = some (some (.ref a)) → ErrAt mg H e cls d → fx e R → (∀ v x H', Same H H' → (∀ N, Fz N H' v x) → R x → D.rt v H') → ts a cls d D σ H
theorem rx_ret {te : Addr → Value → Option Addr → TE} {fx : XF} (h : ∀ a cls d, RfX mg i a cls d (te a cls d) fx) : RfSu mg i (fun a cls d => tRet (te a cls d)) fx := fun a cls d D σ H e R hi he r k => h a cls d σ H _ e R hi he r k
inductive HsOk (mg : Str → Option Value) (i : Nat) : List (Value × (Addr → Value → Option Addr → TS)) → List (Str × XF) → Prop
  | nil : HsOk mg i [] []
  | cons {n : Str} {ts : Addr → Value → Option Addr → TS} {fx : XF} {l : List (Value × (Addr → Value → Option Addr → TS))} {hl : List (Str × XF)} (h : RfSu mg i ts fx) (r : HsOk mg i l hl) : HsOk mg i ((.ref (clA mg n), ts) :: l) ((n, fx) :: hl)
/-- which clause takes it -/
def pickD (K : PySem.W.Frag) (mg : Str → Option Value) : List (Str × XF) → Er → (Dat → Prop) → Prop → Prop
  | [], _, _, out => out
  | (n, fx) :: r, e, R, out => ∃ b, PySem.W.exmOne K (.ref (clA mg e.n)) (.ref (clA mg n)) = some b ∧ if b = true then fx e R else pickD K mg r e R out
/-- a try whose clauses name the error -/
def tTryAs (K : PySem.W.Frag) (i : Nat) (Wout : WX) (l : List (Value × (Addr → Value → Option Addr → TS))) (tb : WX → TS) : TS := fun D σ H => tb (wManyAs K i Wout D l) D σ H
def dTry (K : PySem.W.Frag) (mg : Str → Option Value) (i : Nat) (db : DX → DS) (hl : List (Str × XF)) (Xo : DX) : DS := fun DD E => db (fun e E1 => i < E1.length ∧ pickD K mg hl e (fun r => DD.rt r E1) (Xo e E1)) DD E
theorem pick_run {S : Sx} {dy : Dy} {Wout : WX} {Xo : DX} {W0 : Ow} {H0 : Hp} {B : Ends} {DD : DEnds} (hfr : S.fr = false) (hx : XOk mg ⟨dy, S⟩ Wout Xo) (c : Cn ⟨dy, S⟩ W0 H0 DD B) {W : Ow} {H : Hp} {σ : L2.St} {E : DEnv} {e : Er} (R : Rep ⟨dy, S⟩ W H σ E) (g : Gr W0 H0 W H) (hi : i < σ.length) (he : ErrAt mg H e cls d) :
    ∀ {l : List (Value × (Addr → Value → Option Addr → TS))} {hl : List (Str × XF)}, HsOk mg i l hl → pickD K mg hl e (fun r => DD.rt r E) (Xo e E) → wManyAs K i Wout B l cls d σ H
  | _, _, .nil, h => hx W H σ E e cls d R he h
  | _, _, .cons (n := n) hs r, ⟨b, hb, h⟩ => by
    refine ⟨b, by rw [he.1]; exact hb, fun z a ha => ?_, fun z => ?_⟩
    · rw [if_pos z] at h
      refine hs a cls d _ _ H e _ (List.getElem?_set_self hi) he h fun v x H' s f q => ?_
      refine c.rt W H' σ E v x (R.same s) (g.trans (Gr.same s)) ?_ q
      unfold RtOk
      rw [if_neg (show ¬ S.fr = true by rw [hfr]; exact Bool.false_ne_true)]
      exact f _
    · rw [if_neg (by rw [z]; exact Bool.false_ne_true)] at h
      exact pick_run hfr hx c R g hi he r h
theorem rf_try {S : Sx} {dy : Dy} {Wout : WX} {Xo : DX} {tb : WX → TS} {db : DX → DS} {l : List (Value × (Addr → Value → Option Addr → TS))} {hl : List (Str × XF)} (hfr : S.fr = false) (hx : XOk mg ⟨dy, S⟩ Wout Xo) (hh : HsOk mg i l hl)
    (hb : ∀ (dy : Dy) (Wx : WX) (Xc : DX), XOk mg ⟨dy, S⟩ Wx Xc → RfS ⟨dy, S⟩ (tb Wx) (db Xc)) : RfS ⟨dy, S⟩ (tTryAs K i Wout l tb) (dTry K mg i db hl Xo) := fun n0 W H σ E B DD R h c => by
  have R' : Rep ⟨{ dy with Wb := W, Hb := H }, S⟩ W H σ E := ⟨R.out, R.w, R.ld, R.slot, R.inj, R.len, Gr.refl W H⟩
  have back : ∀ {W1 : Ow} {H1 : Hp} {σ1 : L2.St} {E1 : DEnv}, Rep ⟨{ dy with Wb := W, Hb := H }, S⟩ W1 H1 σ1 E1 → Rep ⟨dy, S⟩ W1 H1 σ1 E1 ∧ Gr W H W1 H1 := fun R1 => ⟨⟨R1.out, R1.w, R1.ld, R1.slot, R1.inj, R1.len, R.gb.trans R1.gb⟩, R1.gb⟩
  refine hb { dy with Wb := W, Hb := H } (wManyAs K i Wout B l) _ (fun W1 H1 σ1 E1 e cls d R1 he q => ?_) n0 W H σ E B DD R' h ⟨fun W' H' σ' E' Rx g n => c.nx W' H' σ' E' (back Rx).1 g n, fun W' H' σ' E' v x Rx g o n => c.rt W' H' σ' E' v x (back Rx).1 g o n, fun W' H' σ' E' Rx g n => c.bk W' H' σ' E' (back Rx).1 g n, fun W' H' σ' E' Rx g n => c.ct W' H' σ' E' (back Rx).1 g n⟩
  exact pick_run hfr hx c (back R1).1 (back R1).2 (R1.len.symm ▸ q.1) he hh q.2
end
theorem xok0 {mg : Str → Option Value} {C : Ct} : XOk mg C (fun _ _ _ _ => False) (fun _ _ => False) := fun _ _ _ _ _ _ _ _ _ z => z
/-! ### a def's body that may raise -/
def xcOf (m : Option Nat) (Xd : Er → Dat → Prop) : DX := fun e E => match m with
  | none => Xd e .none
  | some j => ∃ o, E[j]? = some (some o) ∧ Xd e o
theorem entryX {S : Sx} {mg : Str → Option Value} {n : Nat} {sp : DSpX} {t : TS} {d : DX → DS} {N : List Str} {vs : List V} {H : Hp} {Q : VK} {XE : XK} (h : spOfX mg n S.M S.fr sp vs H Q XE) (ht : ∀ dy Xc, XOk mg ⟨dy, S⟩ (fun cls d _ H => XE cls d H) Xc → RfS ⟨dy, S⟩ t (d Xc)) (hO : ∀ i, i < n → (S.O i = true ↔ S.M = some i)) (h2 : S.M2 = none) (hM : S.M = none ∨ ∃ j, S.M = some j ∧ j < n)
    (hd : ∀ ds Qd Xd, ds.length = n → sp ds Qd Xd → d (xcOf S.M Xd) ⟨fun E => S.fr = false ∧ (endsOf S.M Qd).nx E, (endsOf S.M Qd).rt, fun _ => False, fun _ => False⟩ (envOf N.length ds)) : t { nx := fun _ H' => Q .non H', rt := Q } (L2.start N vs) H := by
  obtain ⟨hn, ds, N0, P, ld, pn, ao, Qd, Xd, hsp, k, kx⟩ := h
  have dl : ds.length = n := ao.1.symm.trans hn
  obtain ⟨al, ag, aP⟩ := ao
  have o0 : ∀ {j : Nat} {v : V} {e : Dat}, S.O j = true → vs[j]? = some v → ds[j]? = some e → ∃ a, v = .ref a ∧ P a ∧ OwnC N0 H a e := fun {j v e} oj hv he => by
    have hj : j < n := by rw [← dl]; exact (List.getElem?_eq_some_iff.mp he).1
    have := ag j v e hv he
    rw [if_pos ((hO j hj).mp oj)] at this
    exact this
  have unN : ∀ b, Nn ⟨⟨H, P, N0, pn, P, H, P, fun _ => False⟩, S⟩ P b → N0 b := fun b z => by
    rcases z with z | z
    · exact z
    · exact pn b z
  have R0 : Rep ⟨⟨H, P, N0, pn, P, H, P, fun _ => False⟩, S⟩ P H (L2.start N vs) (envOf N.length ds) := by
    refine ⟨fun b o _ e => e, fun b w => .inl w, fun b z => ld b (unN b z), fun i e he => ?_, fun i j d1 d2 v oi oj nij h1 h2 h3 => ?_, ?_, Gr.refl P H⟩
    · obtain ⟨hi, hde⟩ := env_get he
      have hv : i < vs.length := by rw [al]; exact hi
      refine ⟨vs[i], by rw [start_get hv, List.getElem?_eq_getElem hv]; rfl, ?_⟩
      have hvi : vs[i]? = some vs[i] := List.getElem?_eq_getElem hv
      have a := ag i _ e hvi hde
      unfold SlotOk
      by_cases oi : S.O i = true
      · rw [if_pos (show S.O i = true from oi)]
        have mi := (hO i (by omega)).mp oi
        rw [if_pos mi] at a
        obtain ⟨p, ep, hp, oc⟩ := a
        exact ⟨p, ep, hp, oc.keep (Kp.sub unN) rfl, fun z => absurd mi z, fun _ => hp, fun z => by rw [show S.M2 = none from h2] at z; cases z⟩
      · rw [if_neg (show ¬ S.O i = true from oi)]
        rw [if_neg (fun z => oi ((hO i (by omega)).mpr z))] at a
        exact a.keep (Kp.sub unN)
    · obtain ⟨hi, _⟩ := env_get h1
      obtain ⟨hj, _⟩ := env_get h2
      have a := (hO i (by omega)).mp oi
      have b := (hO j (by omega)).mp oj
      rw [a] at b
      exact absurd (Option.some.inj b) nij
    · unfold L2.start envOf
      simp only [List.length_append, List.length_map, List.length_replicate, al]
  have fin : ∀ W' H' σ E v r, Rep ⟨⟨H, P, N0, pn, P, H, P, fun _ => False⟩, S⟩ W' H' σ E → RtOk ⟨⟨H, P, N0, pn, P, H, P, fun _ => False⟩, S⟩ W' H' v r → (endsOf S.M Qd).rt r E → Q v H' := fun W' H' σ E v r R ro q => by
    have post : ∀ o, (∀ j, S.M = some j → E[j]? = some (some o)) → Qd r o → Q v H' := fun o ho q => by
      refine k r o q v H' (fun b x nb e => R.out b x nb e) (fun b z => R.ld b (.inl z)) (fun j mj => ?_) ?_
      · have hj : j < n := by
          rcases hM with z | ⟨j', z, hz⟩
          · rw [z] at mj; cases mj
          · rw [z] at mj; cases mj; exact hz
        have oj := (hO j hj).mpr mj
        obtain ⟨a, h1, wa, oc, mo⟩ := R.own oj (ho j mj)
        obtain ⟨j', mj', hv⟩ := aP a (mo.2.1 mj)
        rw [mj] at mj'
        cases mj'
        refine ⟨a, hv, oc.keep (Kp.sub fun b z => ?_) rfl⟩
        rcases z with z | ⟨z, rfl⟩
        · exact .inl z
        · unfold RtOk at ro
          rw [if_pos (show S.fr = true from z)] at ro
          obtain ⟨c, ec, wc, _⟩ := ro
          cases ec
          exact .inr wc
      · unfold RtOk at ro
        by_cases f : S.fr = true
        · rw [if_pos f]
          rw [if_pos (show S.fr = true from f)] at ro
          obtain ⟨c, rfl, wc, hc, oc⟩ := ro
          refine ⟨c, rfl, hc, oc.keep (Kp.sub fun b z => ?_) rfl⟩
          rcases z with z | ⟨z, e⟩
          · exact .inl z
          · cases e
            exact .inr wc
        · rw [if_neg f]
          rw [if_neg (show ¬ S.fr = true from f)] at ro
          exact ro
    cases hm : S.M with
    | none =>
      refine post .none (fun j mj => by rw [hm] at mj; cases mj) ?_
      unfold endsOf at q
      rw [hm] at q
      exact q
    | some j =>
      unfold endsOf at q
      rw [hm] at q
      obtain ⟨o, ho, q⟩ := q
      exact post o (fun j' mj => by rw [hm] at mj; cases mj; exact ho) q
  have hxo : XOk mg ⟨⟨H, P, N0, pn, P, H, P, fun _ => False⟩, S⟩ (fun cls d _ H => XE cls d H) (xcOf S.M Xd) := fun W' H' σ E e cls d R he q => by
    have post : ∀ o, (∀ j, S.M = some j → E[j]? = some (some o)) → Xd e o → XE cls d H' := fun o ho q => by
      refine kx e o q cls d H' (fun b x nb e => R.out b x nb e) (fun b z => R.ld b (.inl z)) (fun j mj => ?_) he
      have hj : j < n := by
        rcases hM with z | ⟨j', z, hz⟩
        · rw [z] at mj; cases mj
        · rw [z] at mj; cases mj; exact hz
      have oj := (hO j hj).mpr mj
      obtain ⟨a, h1, wa, oc, mo⟩ := R.own oj (ho j mj)
      obtain ⟨j', mj', hv⟩ := aP a (mo.2.1 mj)
      rw [mj] at mj'
      cases mj'
      exact ⟨a, hv, oc.keep (Kp.sub fun b z => .inl z) rfl⟩
    cases hm : S.M with
    | none =>
      refine post .none (fun j mj => by rw [hm] at mj; cases mj) ?_
      unfold xcOf at q
      rw [hm] at q
      exact q
    | some j =>
      unfold xcOf at q
      rw [hm] at q
      obtain ⟨o, ho, q⟩ := q
      exact post o (fun j' mj => by rw [hm] at mj; cases mj; exact ho) q
  refine ht ⟨H, P, N0, pn, P, H, P, fun _ => False⟩ _ hxo (fun b z => ld_some (ld b z)) P H _ _ _ _ R0 (hd ds Qd Xd dl hsp) ⟨fun W' H' σ E R g q => ?_, fun W' H' σ E v r R g ro q => fin W' H' σ E v r R ro q, fun W' H' σ E R g q => q.elim, fun W' H' σ E R g q => q.elim⟩
  obtain ⟨ff, q⟩ := q
  refine fin W' H' σ E .non .none R ?_ ?_
  · unfold RtOk
    rw [if_neg (show ¬ S.fr = true by rw [ff]; exact Bool.false_ne_true)]
    exact .non
  · unfold endsOf at q ⊢
    exact q
end Dl
namespace Dl
open PySem PySem.Spec PyProof.Rows L2 Ss Xm
theorem ps_tryA {X : Cx} {n : Str} {i : Nat} {body : List Stmt} {h₀ : ExceptHandler} {hds : List ExceptHandler} {l : List (Value × (Addr → Value → Option Addr → TS))} {pos : Pos} {tb : WX → TS} {Wout : WX} (hs : X.stack = X.env :: X.outer) (hf : X.env.frame = some X.env.locals) (hN : X.N.Nodup) (hi : X.N[i]? = some n) (hln : X.env.kindOf n = some .local) (tk : Takes X Wout)
    (hb : ∀ (W : WX) (pn : List (Addr × Obj)) (xe : Value → Shared → Prop), Takes (X.tr pn xe) W → PassesOwn (model X.prog X.w) X.A X.env xe → PSs (X.tr pn xe) body (tb W))
    (hh : HdsAs X n (h₀ :: hds) l) : PS X (.Try body (h₀ :: hds) [] [] pos) (tTryAs X.K i Wout l tb) := ps_tryAs hs hf hN hi hln tk hb hh
theorem entryX0 {O : Nat → Bool} {mg : Str → Option Value} {n : Nat} {sp : DSpX} {t : TS} {d : DX → DS} {N : List Str} {vs : List V} {H : Hp} {Q : VK} {XE : XK} (h : spOfX mg n none false sp vs H Q XE) (ht : ∀ dy Xc, XOk mg ⟨dy, ⟨O, none, false, none⟩⟩ (fun cls d _ H => XE cls d H) Xc → RfS ⟨dy, ⟨O, none, false, none⟩⟩ t (d Xc)) (hO : ∀ i, i < n → O i = false)
    (hd : ∀ ds Qd Xd, ds.length = n → sp ds Qd Xd → d (fun e _ => Xd e .none) ⟨fun _ => Qd .none .none, fun r _ => Qd r .none, fun _ => False, fun _ => False⟩ (envOf N.length ds)) : t { nx := fun _ H' => Q .non H', rt := Q } (L2.start N vs) H := by
  refine entryX (S := ⟨O, none, false, none⟩) h ht (fun i hi => ⟨fun z => ?_, fun z => nomatch z⟩) rfl (.inl rfl) fun ds Qd Xd hn hs => ?_
  · have := hO i hi
    rw [show O i = true from z] at this
    cases this
  · have e : (fun E => false = false ∧ (endsOf none Qd).nx E) = (fun _ => Qd .none .none : DEnv → Prop) := funext fun E => propext ⟨fun h => h.2, fun h => ⟨rfl, h⟩⟩
    have := hd ds Qd Xd hn hs
    show d _ ⟨fun E => false = false ∧ (endsOf none Qd).nx E, _, _, _⟩ _
    rw [e]
    exact this
theorem entryX0F {O : Nat → Bool} {mg : Str → Option Value} {n : Nat} {sp : DSpX} {t : TS} {d : DX → DS} {N : List Str} {vs : List V} {H : Hp} {Q : VK} {XE : XK} (h : spOfX mg n none true sp vs H Q XE) (ht : ∀ dy Xc, XOk mg ⟨dy, ⟨O, none, true, none⟩⟩ (fun cls d _ H => XE cls d H) Xc → RfS ⟨dy, ⟨O, none, true, none⟩⟩ t (d Xc)) (hO : ∀ i, i < n → O i = false)
    (hd : ∀ ds Qd Xd, ds.length = n → sp ds Qd Xd → d (fun e _ => Xd e .none) ⟨fun _ => False, fun r _ => Qd r .none, fun _ => False, fun _ => False⟩ (envOf N.length ds)) : t { nx := fun _ H' => Q .non H', rt := Q } (L2.start N vs) H := by
  refine entryX (S := ⟨O, none, true, none⟩) h ht (fun i hi => ⟨fun z => ?_, fun z => nomatch z⟩) rfl (.inl rfl) fun ds Qd Xd hn hs => ?_
  · have := hO i hi
    rw [show O i = true from z] at this
    cases this
  · have e : (fun E => true = false ∧ (endsOf none Qd).nx E) = (fun _ => False : DEnv → Prop) := funext fun E => propext ⟨fun h => (by cases h.1), fun h => h.elim⟩
    have := hd ds Qd Xd hn hs
    show d _ ⟨fun E => true = false ∧ (endsOf none Qd).nx E, _, _, _⟩ _
    rw [e]
    exact this
/-! steps -/
section
variable {E : DEnv} {R : Dat → DEnv → Prop} {Q : Dat → Prop} {QL : List Dat → Prop} {DD : DEnds} {da : DE} {dl : DA} {x : Dat} {Xc : DX} {n m f : Str} {K : PySem.W.Frag} {mg : Str → Option Value} {i : Nat} {fs : Option (Str × Dat)} {fx gx : XF} {gl : Er → (List Dat → Prop) → Prop} {e : Er} {cv : Value} {b : Bool} {out : Prop} {r : List (Str × XF)}
theorem z_callX {k : Nat} {sp : DSpX} (h : dl E fun ds E1 => ds.length = k ∧ sp ds (fun r _ => R r E1) (fun e _ => Xc e E1)) : dCallX k sp Xc dl E R := h
theorem z_spN {sp : DSpX} {ds : List Dat} {Q : Dat → Dat → Prop} (h : sp ds Q fun _ _ => False) : spN sp ds Q := h
theorem z_raiseF (h : da E fun x E1 => ScX x ∧ Xc ⟨n, some (f, x)⟩ E1) : dRaiseF n f Xc da DD E := h
theorem z_raise0 (h : Xc ⟨n, none⟩ E) : dRaise0 n Xc DD E := h
theorem z_try {db : DX → DS} {hl : List (Str × XF)} {Xo : DX} (h : db (fun e E1 => i < E1.length ∧ pickD K mg hl e (fun r => DD.rt r E1) (Xo e E1)) DD E) : dTry K mg i db hl Xo DD E := h
theorem z_pickT (h : PySem.W.exmOne K (.ref (clA mg m)) (.ref (clA mg n)) = some true) (k : fx ⟨m, fs⟩ Q) : pickD K mg ((n, fx) :: r) ⟨m, fs⟩ Q out := ⟨true, h, by rw [if_pos rfl]; exact k⟩
theorem z_pickF (h : PySem.W.exmOne K (.ref (clA mg m)) (.ref (clA mg n)) = some false) (k : pickD K mg r ⟨m, fs⟩ Q out) : pickD K mg ((n, fx) :: r) ⟨m, fs⟩ Q out := ⟨false, h, by rw [if_neg Bool.false_ne_true]; exact k⟩
theorem z_pickN (h : out) : pickD K mg [] e Q out := h
theorem x_c (h : Q x) : xC x e Q := h
theorem x_fld (h : Q x) : xFld n f ⟨n, some (f, x)⟩ Q := ⟨x, rfl, h⟩
theorem x_is (hE : ExcC K (clA mg m)) (hk : PySem.W.kitOne K (.ref (clA mg m)) cv = some b) (h : Q (.bool b)) : xIs K mg cv ⟨m, fs⟩ Q := ⟨b, hE, hk, h⟩
theorem x_and (h : fx e fun x => ∃ c, x = .bool c ∧ if c = true then gx e Q else Q (.bool false)) : xAnd fx gx e Q := h
theorem x_not (h : fx e fun x => ∃ c, x = .bool c ∧ Q (.bool (!c))) : xNot fx e Q := h
theorem x_nil (h : QL []) : xNil e QL := h
theorem x_cons (h : fx e fun x => gl e fun xs => QL (x :: xs)) : xCons fx gl e QL := h
theorem x_tup (h : gl e fun xs => xs.length ≤ sizeLine ∧ Q (.tuple xs)) : xTup gl e Q := h
theorem scx_int {u : Int} (h : u.natAbs < 2 ^ 1919) : ScX (.int u) := by
  show u.natAbs.log2 < 1920
  by_cases z : u.natAbs = 0
  · rw [z]
    decide
  · exact Nat.lt_succ_of_lt ((Nat.log2_lt z).mpr h)
theorem scx_small {u : Int} (h1 : -(2 ^ 64) ≤ u) (h2 : u ≤ 2 ^ 64) : ScX (.int u) := scx_int (Nat.lt_of_le_of_lt (show u.natAbs ≤ 2 ^ 64 by omega) (Nat.pow_lt_pow_right (by decide) (by decide)))
end
end Dl
namespace Dl
open PySem PySem.Spec PyProof.Rows L2 Ss
/-! ### tuple(range(..)), list(range(..)) -/
def rgD (a b : Int) : List Dat := (List.range (b - a).toNat).map fun i => PyData.int (a + (i : Nat))
theorem rgD_len (a b : Int) : (rgD a b).length = (b - a).toNat := by unfold rgD; rw [List.length_map, List.length_range]
theorem rgD_fz {N : Ow} {H : Hp} (a b : Int) : FzL N H (rgV a b) (rgD a b) := by
  unfold rgV rgD
  induction List.range (b - a).toNat with
  | nil => exact .nil
  | cons i l ih => exact .cons (.int _) ih
section
variable {C : Ct}
def dTupRg1 (da : DE) : DE := fun E R => da E fun x E1 => ∃ n, x = .int n ∧ RgOk 0 n ∧ R (.tuple (rgD 0 n)) E1
def dTupRg2 (da db : DE) : DE := fun E R => da E fun x E1 => db E1 fun y E2 => ∃ m n, x = .int m ∧ y = .int n ∧ RgOk m n ∧ R (.tuple (rgD m n)) E2
def dLstRg1 (da : DE) : DE := fun E R => da E fun x E1 => ∃ n, x = .int n ∧ RgOk 0 n ∧ R (.list (rgD 0 n)) E1
def dLstRg2 (da db : DE) : DE := fun E R => da E fun x E1 => db E1 fun y E2 => ∃ m n, x = .int m ∧ y = .int n ∧ RgOk m n ∧ R (.list (rgD m n)) E2
theorem rf_tupRg1 {ta : TE} {da : DE} (ha : RfE C ta da) : RfE C (tTupRg (tRg1 ta)) (dTupRg1 da) := fun W H σ E Q R Re r k => ha W H σ E _ _ Re r fun v d H1 E1 R1 g1 f1 ⟨n, e, hn, r1⟩ => by
  subst e
  cases f1
  refine ⟨n, rfl, hn, fun q hq => ?_⟩
  have s := same_new (o := .tup (rgV 0 n)) hq
  exact k (.ref q) _ _ E1 (R1.same s) (g1.trans (Gr.same s)) (.tup upd_same (rgD_fz 0 n)) r1
theorem rf_tupRg2 {ta tb : TE} {da db : DE} (ha : RfE C ta da) (hb : RfE C tb db) : RfE C (tTupRg (tRg2 ta tb)) (dTupRg2 da db) := fun W H σ E Q R Re r k => ha W H σ E _ _ Re r fun v d H1 E1 R1 g1 f1 r1 => hb W H1 σ E1 _ _ R1 r1 fun v2 d2 H2 E2 R2 g2 f2 ⟨m, n, e, e2, hn, r2⟩ => by
  subst e
  subst e2
  cases f1
  cases f2
  refine ⟨m, n, rfl, rfl, hn, fun q hq => ?_⟩
  have s := same_new (o := .tup (rgV m n)) hq
  exact k (.ref q) _ _ E2 (R2.same s) ((g1.trans g2).trans (Gr.same s)) (.tup upd_same (rgD_fz m n)) r2
theorem rf_lstRg1 {ta : TE} {da : DE} (ha : RfE C ta da) : RfF C (tLstRg (tRg1 ta)) (dLstRg1 da) := fun W H σ E Q R Re r k => ha W H σ E _ _ Re r fun v d H1 E1 R1 g1 f1 ⟨n, e, hn, r1⟩ => by
  subst e
  cases f1
  refine ⟨n, rfl, hn, fun q hq => ?_⟩
  exact rf_new (R := R) Re R1 g1 k q (rgV 0 n) _ _ (same_new hq) hq upd_same (rgD_fz 0 n) r1
theorem rf_lstRg2 {ta tb : TE} {da db : DE} (ha : RfE C ta da) (hb : RfE C tb db) : RfF C (tLstRg (tRg2 ta tb)) (dLstRg2 da db) := fun W H σ E Q R Re r k => ha W H σ E _ _ Re r fun v d H1 E1 R1 g1 f1 r1 => hb W H1 σ E1 _ _ R1 r1 fun v2 d2 H2 E2 R2 g2 f2 ⟨m, n, e, e2, hn, r2⟩ => by
  subst e
  subst e2
  cases f1
  cases f2
  refine ⟨m, n, rfl, rfl, hn, fun q hq => ?_⟩
  exact rf_new (R := R) Re R2 (g1.trans g2) k q (rgV m n) _ _ (same_new hq) hq upd_same (rgD_fz m n) r2
variable {E : DEnv} {R : Dat → DEnv → Prop} {da db : DE}
theorem z_tupRg1 (h : da E fun x E1 => ∃ n, x = .int n ∧ RgOk 0 n ∧ R (.tuple (rgD 0 n)) E1) : dTupRg1 da E R := h
theorem z_tupRg2 (h : da E fun x E1 => db E1 fun y E2 => ∃ m n, x = .int m ∧ y = .int n ∧ RgOk m n ∧ R (.tuple (rgD m n)) E2) : dTupRg2 da db E R := h
theorem z_lstRg1 (h : da E fun x E1 => ∃ n, x = .int n ∧ RgOk 0 n ∧ R (.list (rgD 0 n)) E1) : dLstRg1 da E R := h
theorem z_lstRg2 (h : da E fun x E1 => db E1 fun y E2 => ∃ m n, x = .int m ∧ y = .int n ∧ RgOk m n ∧ R (.list (rgD m n)) E2) : dLstRg2 da db E R := h
theorem z_rg1 {n : Int} {RL : Int → Prop} (h0 : 0 ≤ n) (h1 : n ≤ 16777216) (h : RL n) : ∃ n', PyData.int n = .int n' ∧ RgOk 0 n' ∧ RL n' := ⟨n, rfl, .of_le (by omega) h1 (by omega) h0, h⟩
theorem z_rg2 {m n : Int} {RL : Int → Int → Prop} (h0 : 0 ≤ m) (h1 : m ≤ 16777216) (h2 : 0 ≤ n) (h3 : n ≤ 16777216) (h : RL m n) : ∃ m' n', PyData.int m = .int m' ∧ PyData.int n = .int n' ∧ RgOk m' n' ∧ RL m' n' := ⟨m, n, rfl, rfl, .of_le h0 h3 h1 h2, h⟩
end
end Dl
namespace Dl
open PySem PySem.Spec PyProof.Rows L2 Ss
/-! ### a written slot is let go: it is only read from here on -/
def Sx.rel (S : Sx) (i : Nat) : Sx := ⟨fun j => if j = i then false else S.O j, S.M, S.fr, S.M2⟩
def dRel (i : Nat) (d : DS) : DS := fun DD E => (∃ x, E[i]? = some (some x)) ∧ d ⟨fun E => DD.nx (E.set i none), fun r E => DD.rt r (E.set i none), fun E => DD.bk (E.set i none), fun E => DD.ct (E.set i none)⟩ E
theorem rel_back {dy : Dy} {S : Sx} {i : Nat} {W : Ow} {H : Hp} {σ : L2.St} {E : DEnv} (R : Rep ⟨dy, S.rel i⟩ W H σ E) : Rep ⟨dy, S⟩ W H σ (E.set i none) := by
  have key : ∀ {j : Nat} {d : Dat}, (E.set i none)[j]? = some (some d) → E[j]? = some (some d) ∧ j ≠ i := fun {j d} e => by
    rw [List.getElem?_set] at e
    split at e
    · split at e <;> cases e
    · next q => exact ⟨e, fun z => q z.symm⟩
  have ro : ∀ {j : Nat}, j ≠ i → (S.rel i).O j = S.O j := fun {j} n => by
    show (if j = i then false else S.O j) = _
    rw [if_neg n]
  refine ⟨R.out, R.w, R.ld, fun j d e => ?_, fun a b d e v oa ob n h1 h2 => ?_, by rw [List.length_set]; exact R.len, R.gb⟩
  · obtain ⟨e, n⟩ := key e
    obtain ⟨v, h1, h2⟩ := R.slot j d e
    refine ⟨v, h1, ?_⟩
    unfold SlotOk at h2 ⊢
    rw [show (Ct.mk dy (S.rel i)).O j = (Ct.mk dy S).O j from ro n] at h2
    exact h2
  · obtain ⟨k1, n1⟩ := key h1
    obtain ⟨k2, n2⟩ := key h2
    exact R.inj a b d e v ((ro n1).trans oa) ((ro n2).trans ob) n k1 k2
theorem rf_rel1 {dy : Dy} {S : Sx} {i : Nat} {t : TS} {d : DS} (hO : S.O i = true) (hM : S.M ≠ some i ∧ S.M2 ≠ some i) (h : RfS ⟨dy, S.rel i⟩ t d) : RfS ⟨dy, S⟩ t (dRel i d) := fun n0 W H σ E B DD R ⟨⟨x, hx⟩, hd⟩ c => by
  obtain ⟨a, ha, wa, oc, m⟩ := R.own (C := ⟨dy, S⟩) hO hx
  have h0 : dy.H0 a = none := m.1 hM.1 hM.2
  have nN : ¬ dy.N0 a := fun z => n0 a z h0
  have sub : ∀ b, Nn ⟨dy, S.rel i⟩ (fun b => W b ∧ b ≠ a) b → Nn ⟨dy, S⟩ W b := fun b z => z.elim .inl fun z => .inr z.1
  have ro : ∀ {j : Nat}, j ≠ i → (S.rel i).O j = S.O j := fun {j} n => by
    show (if j = i then false else S.O j) = _
    rw [if_neg n]
  have ri : (S.rel i).O i = false := if_pos rfl
  have R' : Rep ⟨dy, S.rel i⟩ (fun b => W b ∧ b ≠ a) H σ E := by
    refine ⟨R.out, fun b w => R.w b w.1, fun b n => R.ld b (sub b n), fun j e hj => ?_, fun p q d e v op oq n h1 h2 h3 => ?_, R.len, ⟨R.gb.st, R.gb.th, fun b w => R.gb.nw b w.1⟩⟩
    · obtain ⟨v, h1, h2⟩ := R.slot j e hj
      refine ⟨v, h1, ?_⟩
      by_cases q : j = i
      · subst q
        rw [hx] at hj
        cases hj
        rw [ha] at h1
        cases h1
        unfold SlotOk
        rw [if_neg (show ¬ (S.rel j).O j = true by rw [ri]; exact Bool.false_ne_true)]
        have na : ¬ Nn ⟨dy, S.rel j⟩ (fun b => W b ∧ b ≠ a) a := fun z => z.elim nN fun z => z.2 rfl
        rcases oc with ⟨xs, ds, rfl, e, l⟩ | ⟨xs, ds, rfl, e, l⟩
        · exact .lst e na (l.keep (Kp.sub sub))
        · exact .dic (.inl e) na (l.keep (Kp.sub sub))
      · unfold SlotOk at h2 ⊢
        rw [show (Ct.mk dy (S.rel i)).O j = (Ct.mk dy S).O j from ro q]
        split
        · next hh =>
          rw [if_pos hh] at h2
          obtain ⟨b, rfl, wb, ob, mb⟩ := h2
          refine ⟨b, rfl, ⟨wb, fun z => ?_⟩, ob.keep (Kp.sub sub) rfl, mb⟩
          subst z
          exact R.inj j i _ _ _ hh hO q hj hx h1 ha
        · next hh =>
          rw [if_neg hh] at h2
          exact h2.keep (Kp.sub sub)
    · have np : p ≠ i := fun z => by subst z; rw [show (Ct.mk dy (S.rel p)).O p = false from ri] at op; cases op
      have nq : q ≠ i := fun z => by subst z; rw [show (Ct.mk dy (S.rel q)).O q = false from ri] at oq; cases oq
      exact R.inj p q d e v ((ro np).symm.trans op) ((ro nq).symm.trans oq) n h1 h2 h3
  have gr : ∀ {W' : Ow} {H' : Hp}, Gr (fun b => W b ∧ b ≠ a) H W' H' → Gr W H W' H' := fun {W' H'} g => ⟨fun b o n e => g.st b o (fun z => n z.1) e, g.th, fun b w => (g.nw b w).elim (fun z => .inl z.1) .inr⟩
  exact h n0 _ H σ E B _ R' hd ⟨fun W' H' σ' E' r g n => c.nx W' H' σ' _ (rel_back r) (gr g) n, fun W' H' σ' E' v d r g o n => c.rt W' H' σ' _ v d (rel_back r) (gr g) o n, fun W' H' σ' E' r g n => c.bk W' H' σ' _ (rel_back r) (gr g) n, fun W' H' σ' E' r g n => c.ct W' H' σ' _ (rel_back r) (gr g) n⟩
theorem rf_rel {dy : Dy} {S : Sx} {i : Nat} {t : TS} {d : DS} (hO : S.O i = true) (hM : S.M ≠ some i ∧ S.M2 ≠ some i) (h : ∀ dy, RfS ⟨dy, S.rel i⟩ t d) : RfS ⟨dy, S⟩ t (dRel i d) := rf_rel1 hO hM (h dy)
theorem rf_relFor {dy : Dy} {S : Sx} {K : PySem.W.Frag} {i : Nat} {g : TG} {tb r : TS} {d : DS} (hO : S.O i = true) (hM : S.M ≠ some i ∧ S.M2 ≠ some i) (h : ∀ dy, RfS ⟨dy, S.rel i⟩ (tSeq (tFor (iList K (tVar i)) g tb) r) d) : RfS ⟨dy, S⟩ (tSeq (tFor (iList K (tVar i)) g tb) r) (dRel i d) := rf_rel hO hM h
theorem z_rel {i : Nat} {d : DS} {DD : DEnds} {E : DEnv} {x : Dat} (hv : E[i]? = some (some x)) (h : d ⟨fun E => DD.nx (E.set i none), fun r E => DD.rt r (E.set i none), fun E => DD.bk (E.set i none), fun E => DD.ct (E.set i none)⟩ E) : dRel i d DD E := ⟨⟨x, hv⟩, h⟩
end Dl
namespace Gm
open PySem PySem.Spec PyProof.Rows L2 Ss
/-! ### a law's def where nothing is being shown: repr of data -/
/-- as FnOk, around a call that no display is under way of -/
structure FnG (P : Program) (w : World) (K : PySem.W.Frag) (mg : Str → Option Value) (base : Heap) (k : Nat) (f : Addr) (fd : FuncData) (ps : List Str) (sp : Sp) : Prop where
  go : ∀ (A : Around) (fr : List Env) (st : Shared) (H : Hp) (ag : Args) (us : List Value) (vs : List V) (Q : VK) (XE : XK), A.guards = some [] → Room k A → Env0 P w K mg base A fr st H → BindsTo st fd ag (ps.zip us) → Vals vs us → sp vs H Q XE →
    codeAny (model P w) A (.call (.ref f) ag) (CR CX0 fr P w H st Q XE) st
theorem fnG_of {P : Program} {w : World} {K : PySem.W.Frag} {mg : Str → Option Value} {base : Heap} {x qual : Str} {st : Stmt} {f : Addr} {fd : FuncData} {N ps : List Str} {k : Nat} {sp : Sp} (F : Fun K x qual st f fd) (S : FnScope N ps (defScope st)) (len : ∀ vs H Q E, sp vs H Q E → vs.length = ps.length)
    (hb : ∀ (cdv : Value) (A : Around) (outer : List Env) (s : Shared) (H : Hp) (vs : List V) (Q : VK) (E : XK), (A.deeper (envOfC qual (defScope st) s.heap.objs.size f cdv)).guards = some [] → Room k (A.deeper (envOfC qual (defScope st) s.heap.objs.size f cdv)) → sp vs H Q E →
      ∃ t, PSs (cxOf CX0 P w K mg base N qual (defScope st) f cdv A outer s H E).nox (defBody st) t ∧ t { nx := fun _ H' => Q .non H', rt := Q } (start N vs) H) : FnG P w K mg base (k + 1) f fd ps sp := by
  obtain ⟨oc, od, kV, doc, pm, an, cdv, ct, osl, rfl, lk, hcd⟩ := F.ex
  constructor
  intro A fr s H ag us vs Q XE hG hr e0 hbd rel hsp
  have nvs := len vs H Q XE hsp
  have inK : K.In s.heap := e0.mod.kin.keeps fun b o z => (e0.bs b o z).1
  have noL : s.heap.NoLimit := e0.mod.nolimit.keeps fun b o z => (e0.bs b o z).1
  refine codeAny_call_function hr.depth (inK _ _ lk) rfl S.co S.gen rfl (PySem.W.codeRec_of inK hcd) (hbd _ _ _ _ ?_)
  refine wpAny_newFunctionEnv_cells S.kind (fun pr hpr => ?_) fun env hen s1 inC => ?_
  · obtain ⟨nm, v⟩ := pr
    have hin := (List.of_mem_zip hpr).1
    exact (S.par nm hin).elim .inl fun q => .inr ⟨q, PySem.W.cellsFrom_some _ _ _ (.inl q)⟩
  subst hen
  refine ⟨noL.keeps inC.toInCall.keep, codeAny_func ?_⟩
  obtain ⟨t, ht, hq⟩ := hb cdv A fr s H vs Q XE hG (hr.deeper _) hsp
  have J := inv_start (CX := CX0) (cd := cdv) (E := XE) S hr.hd e0 nvs rel inC
  refine wpAny_mono (ht.nox.run [] s1 (start N vs) H _ J hq) ?_ fun _ _ z => z
  intro fl s' res
  have done : ∀ {τ : L2.St} {G : Hp} {v : V} {u : Value}, Inv (cxOf CX0 P w K mg base N qual (defScope st) f cdv A fr s H XE) [] τ G s' → RelV v u → Q v G → CE fr P w H s Q u s' := fun I1 rv q => ⟨_, _, I1.os, I1.bare, I1.base, I1.hok, rv, q⟩
  cases fl with
  | ret u =>
    obtain ⟨v, τ, G, I1, rv, q⟩ := res
    exact done I1 rv q
  | next =>
    obtain ⟨τ, G, I1, q⟩ := res
    exact done (v := V.non) (u := Value.none) I1 rfl q
  | brk => exact (Exists.elim res fun _ z => Exists.elim z fun _ z => z.2).elim
  | cont => exact (Exists.elim res fun _ z => Exists.elim z fun _ z => z.2).elim
/-- the law called behind its top -/
theorem callG {P : Program} {w : World} {K : PySem.W.Frag} {mg mb : Str → Option Value} {k : Nat} {fa a : Addr} {fd : FuncData} {x : Str} {sp : Sp} {sA : Shared} {vs : List Value} {ns : List Int}
    (inK : K.In sA.heap) (nsg : sA.heap.Ns mainGlobals mg) (nsb : sA.heap.Ns builtinsNs mb) (bok : ∀ x : Str, x ≠ "__name__" → mb x = bootBuiltins x) (noL : sA.heap.NoLimit) (g0 : sA.gens = #[])
    (at_a : sA.heap.get? a = some { cls := .type "list", data := .seq vs.toArray }) (hin : IntsAre vs ns) (short : ns.length ≤ sizeLine) (hr : Room k callerA)
    (F : ∀ base : Heap, K.In base → base.Ns mainGlobals mg → FnG P w K mg base k fa fd [x] sp) (bd : ∀ (s : Shared) (u : Value), BindsTo s fd ⟨[u], []⟩ [(x, u)])
    (ask : ∀ H : Hp, Only H → SqL K H a (ns.map V.int) → sp [.ref a] H (fun v _ => v = .bl true) fun _ _ _ => False) :
    codeAny (model P w) callerA (.call (.ref fa) ⟨[.ref a], []⟩) (fun r s' => r = .ok (.ret (.bool true)) ∧ OldK sA.heap s'.heap ∧ s'.os = sA.os ∧ AllBare s'.gens) sA := by
  have rv := vals_ints hin
  have nlen := hin.length
  have main : ∀ H : Hp, (∀ b, H b = none ∨ (b = a ∧ K.lookup a = none ∧ ∃ o xs, H b = some (.frz o (.lst xs)))) → SqL K H a (ns.map V.int) → HOk P w H sA.heap →
      codeAny (model P w) callerA (.call (.ref fa) ⟨[.ref a], []⟩) (fun r s' => r = .ok (.ret (.bool true)) ∧ OldK sA.heap s'.heap ∧ s'.os = sA.os ∧ AllBare s'.gens) sA := by
    intro H hH hS hok
    have only : Only H := fun b => (hH b).elim .inl fun z => .inr z.2.2
    have low : ∀ {b : Addr} {m : Str → Option Value}, sA.heap.Ns b m → (hidT sA.heap H).Ns b m := fun {b m} z => by
      obtain ⟨o, es, ep, e, d, r⟩ := z
      refine ⟨o, es, ep, hidT_get e ?_, d, r⟩
      rcases hH b with q | ⟨rfl, _⟩
      · exact q
      · rw [at_a] at e
        cases e
        cases (show Data.seq vs.toArray _ = Data.dict es ep from d)
    have inB : K.In (hidT sA.heap H) := fun b o e => hidT_get (inK b o e) (by
      rcases hH b with q | ⟨rfl, q, _⟩
      · exact q
      · rw [q] at e
        cases e)
    have md : Mod K mg (hidT sA.heap H) := ⟨inB, low nsg, ⟨mb, low nsb, bok⟩, by
      obtain ⟨mc, l1, l2⟩ := noL
      exact ⟨mc, low l1, l2⟩⟩
    have e0 : Env0 P w K mg (hidT sA.heap H) callerA [] sA H := ⟨rfl, md, fun b o e => of_hidT e, Nat.le_of_eq (hidT_size _ _), trivial, fun b hb => (List.not_mem_nil hb).elim, hok, .of_eq g0⟩
    refine codeAny_mono ((F _ inB (low nsg)).go callerA [] sA H ⟨[.ref a], []⟩ [.ref a] [.ref a] _ _ rfl hr e0 (bd sA (.ref a)) (.cons rfl .nil) (ask H only hS)) ?_
    intro r s' res
    cases r with
    | error e => exact False.elim res
    | ok fl =>
      cases fl with
      | ret u =>
        obtain ⟨v, G, os, bare, un, hokG, ruv, q⟩ := res
        cases (show v = V.bl true from q)
        cases (show u = Value.bool true from ruv)
        refine ⟨rfl, OldK.of_keep fun b o e => ?_, os, bare⟩
        rcases only b with z | ⟨ob, xs, z⟩
        · exact un.keep b o e z (fun q => List.not_mem_nil q) List.not_mem_nil
        · have before := (hok b _ z).1
          have after := (hokG b _ (un.frzs b ob _ z)).1
          rw [e] at before
          cases before
          exact after
      | next => exact False.elim res
      | brk => exact False.elim res
      | cont => exact False.elim res
  cases hk : K.lookup a with
  | some o =>
    have e := inK a o hk
    rw [at_a] at e
    cases e
    exact main (fun _ => none) (fun _ => .inl rfl) (.inr ⟨_, vs.toArray, _, hk, rfl, rfl, rfl, by rw [List.size_toArray, nlen]; exact short, by simpa using rv⟩) (fun b u z => by cases (show (none : Option HO) = some u from z))
  | none =>
    let Hs : Hp := upd (fun _ => none) a (.frz { cls := .type "list", data := .seq vs.toArray } (.lst (ns.map V.int)))
    have out : ∀ {b : Addr}, b ≠ a → Hs b = none := fun nb => upd_ne nb
    refine main Hs (fun b => ?_) (.inl (.inr ⟨_, upd_same⟩)) (fun b u z => ?_)
    · by_cases q : b = a
      · subst q
        exact .inr ⟨rfl, hk, _, _, upd_same⟩
      · exact .inl (out q)
    · by_cases q : b = a
      · subst q
        cases upd_same.symm.trans z
        exact ⟨at_a, by rw [List.length_map]; exact short, vs, _, rv, at_a⟩
      · cases (out q).symm.trans z
theorem walkG_of {l : PySem.W.OpenLaw} {n k : Nat} {q : Program} {loose : List Str} {XP : (Str → Option Value) → Heap → Prop} {YP : World → Heap → Prop} {d : DefRec} {K : Params → PySem.W.Frag} {sp : World → Sp} {x : Str}
    (hn : l.most = some n) (hn2 : n ≤ sizeLine) (hdf : d.params.defaults = []) (hr : Room k callerA) (hY : ∀ (w : World) (h : Heap), YP w h → (K w.params).In h)
    (F : ∀ (w : World) (mg : Str → Option Value) (fa : Addr) (h : Heap), (K w.params).In h → h.Ns mainGlobals mg → mg d.name = some (.ref fa) →
      ∃ fd : FuncData, (∀ (s : Shared) (u : Value), BindsTo s fd ⟨[u], []⟩ [(x, u)]) ∧ ∀ base : Heap, (K w.params).In base → base.Ns mainGlobals mg → FnG l.prog w (K w.params) mg base k fa fd [x] (sp w))
    (hsp : ∀ (w : World) (H : Hp) (a : Addr) (ns : List Int), ns.length ≤ n → Only H → SqL (K w.params) H a (ns.map V.int) → sp w [.ref a] H (fun v _ => v = .bl true) fun _ _ _ => False) :
    PySem.W.WalkO q loose XP YP l.row.toRowW d [] (fun f vs => PySem.call f vs) := by
  refine Att.attach_call hn hdf ?_
  intro w s0 sA mg mb fa o pm cd doc a vs ns G Y ho hd hcd hmg hobj hints hlen hg
  obtain ⟨fd, bd, hF⟩ := F w mg fa _ (hY w _ Y) G.T.g hmg
  exact callG (hY w _ Y) G.T.g G.T.b G.T.builtins G.T.nolimit hg hobj hints (Nat.le_trans hlen hn2) hr hF bd fun H hO hS => hsp w H a ns hlen hO hS
/-! ### repr -/
/-- what may be shown -/
structure Sh (k B : Nat) (d : PyData) : Prop where
  lay : d.canLay0 = true
  sho : d.showable = true
  dep : d.depth ≤ k
  len : d.shown.length ≤ B
def rReprD (K : PySem.W.Frag) : List V → Hp → VK → Prop := fun xs H Q => ∃ (a : Addr) (d : PyData), xs = [.ref a] ∧ Dp K H (.ref a) d ∧ Sh 64 16777216 d ∧ Q (.str d.shown) H
theorem call_reprD {X : Cx} (hG : X.A.guards = some []) (hu : X.A.units + 100 < cLine) : CallR X (.builtin "repr") (rReprD X.K) := by
  intro pins s σ H xs us Q I rel h
  obtain ⟨a, d, rfl, hd, hs, q⟩ := h
  cases rel with
  | cons r1 r2 =>
    cases r2
    cases r1
    obtain ⟨as, rd⟩ := Dp.reads I d _ _ hd rfl
    have hsz : d.shown.length ≤ sizeLine := by rw [sizeLine_eq]; exact hs.len
    refine repr_of_reads' (h₀ := s.heap) rd hs.sho (PyData.noDict_hsm (PyData.hasDict_of_canLay d hs.lay)) hG (by have := hs.dep; omega) (fun _ _ z => z) (fun h' u tk kp => ?_) hsz
    exact ⟨.str d.shown, H, I.kept (t' := tk) kp, ⟨u, rfl⟩, q⟩
theorem hu100 {A : Around} {k : Nat} (hr : Room k A) : A.units + 100 < cLine := by have := hr.un; omega
theorem lay_all : ∀ {xs : List PyData}, (∀ d ∈ xs, d.canLay0 = true) → PyData.canLayAll0 xs = true
  | [], _ => rfl
  | x :: xs, h => by
    unfold PyData.canLayAll0
    rw [h x List.mem_cons_self, lay_all fun d hd => h d (List.mem_cons_of_mem _ hd)]
    rfl
theorem sho_all : ∀ {xs : List PyData}, (∀ d ∈ xs, d.showable = true) → PyData.showableAll xs = true
  | [], _ => by simp only [PyData.showableAll]
  | x :: xs, h => by
    simp only [PyData.showableAll, h x List.mem_cons_self, sho_all fun d hd => h d (List.mem_cons_of_mem _ hd), Bool.and_self]
theorem dep_all {k : Nat} : ∀ {xs : List PyData}, (∀ d ∈ xs, d.depth ≤ k) → PyData.depthAll xs ≤ k
  | [], _ => by simp only [PyData.depthAll]; exact Nat.zero_le _
  | x :: xs, h => by
    have h1 := h x List.mem_cons_self
    have h2 := dep_all fun d hd => h d (List.mem_cons_of_mem _ hd)
    simp only [PyData.depthAll]
    exact Nat.max_le.mpr ⟨h1, h2⟩
theorem len_all {B : Nat} : ∀ {xs : List PyData}, (∀ d ∈ xs, d.shown.length ≤ B) → ((PyData.shownAll xs).map (·.length)).sum ≤ xs.length * B ∧ (PyData.shownAll xs).length = xs.length
  | [], _ => by refine ⟨?_, ?_⟩ <;> simp [PyData.shownAll]
  | x :: xs, h => by
    have h1 := h x List.mem_cons_self
    have h2 := len_all fun d hd => h d (List.mem_cons_of_mem _ hd)
    simp only [PyData.shownAll, List.map_cons, List.sum_cons, List.length_cons]
    rw [Nat.succ_mul]
    omega
theorem sh_tup {k B n : Nat} {xs : List PyData} (h : ∀ d ∈ xs, Sh k B d) (hl : xs.length ≤ n) : Sh (k + 1) (n * (B + 2) + 3) (.tuple xs) := by
  have h2 := len_all fun d hd => (h d hd).len
  have h3 := tupleText_len_le (PyData.shownAll xs)
  have h4 : xs.length * B + 2 * xs.length = xs.length * (B + 2) := by rw [Nat.mul_add, Nat.mul_comm 2]
  have h5 : xs.length * (B + 2) ≤ n * (B + 2) := Nat.mul_le_mul_right _ hl
  refine ⟨lay_all fun d hd => (h d hd).lay, ?_, ?_, ?_⟩
  · simp only [PyData.showable]
    exact sho_all fun d hd => (h d hd).sho
  · simp only [PyData.depth]
    have := dep_all fun d hd => (h d hd).dep
    omega
  · simp only [PyData.shown]
    omega
theorem sh_lst {k B n : Nat} {xs : List PyData} (h : ∀ d ∈ xs, Sh k B d) (hl : xs.length ≤ n) : Sh (k + 1) (n * (B + 2) + 3) (.list xs) := by
  have h2 := len_all fun d hd => (h d hd).len
  have h3 := listText_len_le (PyData.shownAll xs)
  have h4 : xs.length * B + 2 * xs.length = xs.length * (B + 2) := by rw [Nat.mul_add, Nat.mul_comm 2]
  have h5 : xs.length * (B + 2) ≤ n * (B + 2) := Nat.mul_le_mul_right _ hl
  refine ⟨lay_all fun d hd => (h d hd).lay, ?_, ?_, ?_⟩
  · simp only [PyData.showable]
    exact sho_all fun d hd => (h d hd).sho
  · simp only [PyData.depth]
    have := dep_all fun d hd => (h d hd).dep
    omega
  · simp only [PyData.shown]
    omega
theorem sh2 {k B : Nat} {a b : PyData} (ha : Sh k B a) (hb : Sh k B b) : Sh (k + 1) (2 * (B + 2) + 3) (.tuple [a, b]) := sh_tup (n := 2) (xs := [a, b]) (fun d hd => by
  simp only [List.mem_cons, List.not_mem_nil, or_false] at hd
  rcases hd with rfl | rfl
  · exact ha
  · exact hb) (Nat.le_refl 2)
theorem sh2l {k B : Nat} {a b : PyData} (ha : Sh k B a) (hb : Sh k B b) : Sh (k + 1) (2 * (B + 2) + 3) (.list [a, b]) := sh_lst (n := 2) (xs := [a, b]) (fun d hd => by
  simp only [List.mem_cons, List.not_mem_nil, or_false] at hd
  rcases hd with rfl | rfl
  · exact ha
  · exact hb) (Nat.le_refl 2)
theorem Sh.mono {k B j C : Nat} {d : PyData} (h : Sh k B d) (h1 : k ≤ j) (h2 : B ≤ C) : Sh j C d := ⟨h.lay, h.sho, Nat.le_trans h.dep h1, Nat.le_trans h.len h2⟩
theorem sh_int {i : Int} (h1 : -1000000000000000 ≤ i) (h2 : i ≤ 1000000000000000) : Sh 0 60 (.int i) := by
  have hb : i.natAbs < 2 ^ 50 := by omega
  have hl : i.natAbs.log2 < 50 := by
    by_cases z : i.natAbs = 0
    · rw [z]
      decide
    · exact (Nat.log2_lt z).mpr hb
  refine ⟨rfl, ?_, by simp only [PyData.depth]; omega, ?_⟩
  · simp only [PyData.showable]
    exact decide_eq_true (Nat.lt_trans hl (by decide))
  · simp only [PyData.shown]
    show (Str.ofString (toString i)).length ≤ 60
    rw [PySem.ofString_length]
    exact Nat.le_trans (int_text_length_le (by decide) hl) (by decide)
theorem sh_str {x : Str} (h1 : x.length ≤ 20) (h3 : PyData.strOk x = true) : Sh 0 202 (.str x) := by
  have h2 : ∀ c ∈ x.cps.toList, c < 16 ^ 8 := fun c hc => Nat.lt_trans (of_decide_eq_true (Array.all_eq_true_iff_forall_mem.mp h3 c (Array.mem_toList_iff.mp hc))) (by decide)
  refine ⟨h3, by simp only [PyData.showable], by simp only [PyData.depth]; omega, ?_⟩
  have := StrLaws.reprText_len x h2
  simp only [PyData.shown]
  omega
theorem sh_non : Sh 0 4 .none := ⟨rfl, by simp only [PyData.showable], by simp only [PyData.depth]; omega, by decide⟩
theorem sh_bl {b : Bool} : Sh 0 5 (.bool b) := ⟨rfl, by simp only [PyData.showable], by simp only [PyData.depth]; omega, by cases b <;> decide⟩
/-- a def that shows data, called where nothing is being shown -/
structure ClG (P : Program) (w : World) (K : PySem.W.Frag) (mg : Str → Option Value) (base : Heap) (k : Nat) (x : Str) (ps : List Str) (sp : Sp) : Prop where
  ex : ∃ f fd, FnG P w K mg base k f fd ps sp ∧ (∀ vs H Q E, sp vs H Q E → vs.length = ps.length) ∧ mg x = some (.ref f) ∧ PySem.W.keepIn K (.ref f) = true ∧ Binds K fd ps []
theorem pe_clG {X : Cx} {k : Nat} {x : Str} {ps : List Str} {sp : Sp} {p pos : Pos} {e : Expr} {es : List Expr} {t : TA} (C : ClG X.prog X.w X.K X.mg X.base k x ps sp) (hG : X.A.guards = some []) (hr : Room k X.A) (hg : Gl X x)
    (ha : PA X (e :: es) t) (hdb : (x == ("__debug__" : Str)) = false := by decide) (he : starEach (e :: es) X.env = (false, eval e X.env) :: starEach es X.env := by rfl) (hpl : (backTo pos (starEach es X.env)).any (·.1) = false := by rfl) :
    PE X (.Call (.Name x p) (e :: es) [] pos) (tCall sp [] E0 t) := by
  obtain ⟨f, fd, F, len, hm, hk, b⟩ := C.ex
  refine ⟨fun pins s σ H Q I h => ?_⟩
  refine wpAny_Call_Name_kw (ld_glob I hg hm ?_ hdb)
  refine PySem.W.callWith_K (h₀ := X.base) I.ok.mod.kin hk (thn (ha.run pos pins s σ H _ I h) fun us s1 ⟨vs, H1, I1, r, q⟩ => ⟨I1.kIn, ?_⟩) he hpl
  have q : sp vs H1 Q E0 := by
    have q' : sp (vs ++ []) H1 Q E0 := q
    rw [List.append_nil] at q'
    exact q'
  have hl : us.length = ps.length := by rw [← r.length]; exact len _ _ _ _ q
  have b1 := b s1 us I1.kIn (by rw [List.append_nil]; exact hl)
  rw [List.append_nil] at b1
  refine wpAny_call (codeAny_mono (F.go X.A X.stack s1 H1 ⟨us, []⟩ us vs Q E0 hG hr I1.env0 b1 r q) fun r s' hq => ?_)
  cases r with
  | error e => exact pass0 pins σ H1 s1 e s' I1 hq
  | ok fl =>
    cases fl with
    | ret u => exact I1.after hq
    | next => exact False.elim hq
    | brk => exact False.elim hq
    | cont => exact False.elim hq
end Gm
namespace Dl
open PySem PySem.Spec PyProof.Rows L2 Ss
/-! ### repr of data -/
theorem ft_dp0 {K : PySem.W.Frag} {N : Ow} {H : Hp} {v : V} {d : Dat} (f : Ft N H v d) (h0 : d.canLay0 = true) : Dp K H v d := by
  rcases f with f | ⟨a, rfl, ⟨xs, ds, rfl, ha, l⟩ | ⟨xs, ds, rfl, ha, l⟩⟩
  · exact fz_dp f h0
  · exact .lst (.of ha) (fzl_dp l h0)
  · exact nomatch h0
def isSq : Dat → Bool
  | .list _ => true
  | .tuple _ => true
  | _ => false
def oRepr : List Dat → (Dat → Prop) → Prop := fun ds R => ∃ d, ds = [d] ∧ isSq d = true ∧ Gm.Sh 64 16777216 d ∧ R (.str d.shown)
theorem rfb_repr {K : PySem.W.Frag} : RfB (Gm.rReprD K) oRepr := fun N H xs ds Q R hx ⟨d, e, hq, hs, r⟩ k => by
  subst e
  obtain ⟨v, rfl, f⟩ := p1 hx
  have dp := ft_dp0 (K := K) f hs.lay
  have hv : ∃ a, v = .ref a := by
    cases d with
    | list ds =>
      obtain ⟨a, _, e, _⟩ := f.lst
      exact ⟨a, e⟩
    | tuple ds =>
      obtain ⟨a, _, e, _⟩ := f.tup
      exact ⟨a, e⟩
    | _ => cases hq
  obtain ⟨a, rfl⟩ := hv
  exact ⟨a, d, rfl, dp, hs, k _ _ H (Same.refl H) (.str _) r⟩
theorem z_repr {d : Dat} {Q : Dat → Prop} (hq : isSq d = true) (hs : Gm.Sh 64 16777216 d) (h : Q (.str d.shown)) : oRepr [d] Q := ⟨d, rfl, hq, hs, h⟩
/-! ### < of ints or of texts -/
def rLtU : R2 := fun x y H Q => (∃ i j, x = .int i ∧ y = .int j ∧ Q (.bl (decide (i < j))) H) ∨ (∃ i j, x = .str i ∧ y = .str j ∧ Q (.bl (decide (i.cps.toList < j.cps.toList))) H)
theorem op_ltU {X : Cx} : OpR X (compareOp .Lt) rLtU := fun pins s σ H x y v u Q I rx ry h => by
  rcases h with h | h
  · exact op_lt pins s σ H x y v u Q I rx ry h
  · exact op_lt_str pins s σ H x y v u Q I rx ry h
def oLtU : Dat → Dat → (Dat → Prop) → Prop := fun a b R => (∃ i j, a = .int i ∧ b = .int j ∧ R (.bool (decide (i < j)))) ∨ (∃ i j, a = .str i ∧ b = .str j ∧ R (.bool (decide (i.cps.toList < j.cps.toList))))
theorem rfo_ltU : RfO rLtU oLtU := fun N H x y a b Q R hx hy h k => by
  rcases h with ⟨i, j, ea, eb, r⟩ | ⟨i, j, ea, eb, r⟩
  · subst ea; subst eb
    exact .inl ⟨i, j, hx.int, hy.int, k _ _ H (Same.refl H) (.bl _) r⟩
  · subst ea; subst eb
    exact .inr ⟨i, j, hx.str, hy.str, k _ _ H (Same.refl H) (.bl _) r⟩
theorem z_ltUI {i j : Int} {Q : Dat → Prop} (h : Q (.bool (decide (i < j)))) : oLtU (.int i) (.int j) Q := .inl ⟨i, j, rfl, rfl, h⟩
theorem z_ltUS {i j : Str} {Q : Dat → Prop} (h : Q (.bool (decide (i.cps.toList < j.cps.toList)))) : oLtU (.str i) (.str j) Q := .inr ⟨i, j, rfl, rfl, h⟩
theorem z_ne_tt {Q : Dat → Prop} (h : Q (.bool false)) : oNe (.bool true) (.bool true) Q := z_neB h
theorem z_ne_ff {Q : Dat → Prop} (h : Q (.bool false)) : oNe (.bool false) (.bool false) Q := z_neB h
theorem z_ne_tf {Q : Dat → Prop} (h : Q (.bool true)) : oNe (.bool true) (.bool false) Q := z_neB h
theorem z_ne_ft {Q : Dat → Prop} (h : Q (.bool true)) : oNe (.bool false) (.bool true) Q := z_neB h
end Dl
namespace Dl
open PySem PySem.Spec PyProof.Rows L2 Ss
/-! ### a dict is walked: it is locked meanwhile -/
def Dy.lk (dy : Dy) (d : Addr) (o : HO) : Dy := { dy with H0 := fun b => if b = d ∧ dy.H0 b ≠ none then some o else dy.H0 b, Hb := fun b => if b = d ∧ dy.Hb b ≠ none then some o else dy.Hb b }
theorem lk_none {F : Hp} {d b : Addr} {o : HO} : (if b = d ∧ F b ≠ none then some o else F b) = none ↔ F b = none := by
  constructor
  · intro h
    split at h
    · cases h
    · exact h
  · intro h
    rw [if_neg (fun z => z.2 h)]
    exact h
theorem lk_some {F : Hp} {d b : Addr} {o x : HO} (h : (if b = d ∧ F b ≠ none then some o else F b) = some x) : (b = d ∧ x = o ∧ F b ≠ none) ∨ (b ≠ d ∧ F b = some x) := by
  by_cases e : b = d
  · by_cases n : F b = none
    · rw [if_neg (fun z => z.2 n), n] at h
      cases h
    · rw [if_pos ⟨e, n⟩] at h
      cases h
      exact .inl ⟨e, rfl, n⟩
  · rw [if_neg (fun z => e z.1)] at h
    exact .inr ⟨e, h⟩
theorem kp_lock {N : Ow} {H : Hp} {d : Addr} {kvs : List (Key × V)} {o1 o2 : HO} (h : H d = some o1) (l1 : LkD o1 kvs) (l2 : LkD o2 kvs) : Kp N N H (upd H d o2) := fun b o e _ => by
  refine ⟨?_, id⟩
  by_cases q : b = d
  · subst q
    rw [h] at e
    cases e
    exact ⟨o2, upd_same, .inr ⟨kvs, l1, l2⟩⟩
  · exact ⟨o, (upd_ne q).trans e, .inl rfl⟩
section
variable {S : Sx} {dy : Dy} {W W' : Ow} {H H' : Hp} {σ σ' : L2.St} {E E' : DEnv} {d : Addr} {kvs : List (Key × V)} {od : Obj}
theorem lock_rep (R : Rep ⟨dy, S⟩ W H σ E) (hd : H d = some (.dK kvs)) (nd : ¬ Nn ⟨dy, S⟩ W d) : Rep ⟨dy.lk d (.frz od (.dK kvs)), S⟩ W (upd H d (.frz od (.dK kvs))) σ E := by
  have kp : Kp (Nn ⟨dy, S⟩ W) (Nn ⟨dy, S⟩ W) H (upd H d (.frz od (.dK kvs))) := kp_lock hd (.inl rfl) (.inr ⟨od, rfl⟩)
  refine ⟨fun b o p e => ?_, fun b w => ?_, fun b n => ?_, fun i x e => ?_, R.inj, R.len, ⟨fun b o n e => ?_, fun b n => ?_, fun b w => ?_⟩⟩
  · rcases lk_some e with ⟨rfl, rfl, _⟩ | ⟨q, e⟩
    · exact upd_same
    · exact (upd_ne q).trans (R.out b o p e)
  · rcases R.w b w with z | z
    · exact .inl z
    · exact .inr (lk_none.mpr z)
  · have q : b ≠ d := fun z => nd (z ▸ n)
    rcases R.ld b n with ⟨xs, z⟩ | ⟨xs, z⟩
    · exact .inl ⟨xs, (upd_ne q).trans z⟩
    · exact .inr ⟨xs, (upd_ne q).trans z⟩
  · obtain ⟨v, h1, h2⟩ := R.slot i x e
    refine ⟨v, h1, ?_⟩
    unfold SlotOk at *
    show if S.O i = true then _ else _
    split
    · next hh =>
      rw [if_pos (show S.O i = true from hh)] at h2
      obtain ⟨a, rfl, wa, oc, m⟩ := h2
      have q : a ≠ d := fun z => nd (z ▸ .inr wa)
      exact ⟨a, rfl, wa, oc.keep kp (upd_ne q), fun z z2 => lk_none.mpr (m.1 z z2), m.2⟩
    · next hh =>
      rw [if_neg (show ¬ S.O i = true from hh)] at h2
      exact h2.keep kp
  · rcases lk_some e with ⟨rfl, rfl, _⟩ | ⟨q, e⟩
    · exact upd_same
    · exact (upd_ne q).trans (R.gb.st b o n e)
  · have n' : dy.Hb b ≠ none := fun z => n (lk_none.mpr z)
    exact th_upd b (R.gb.th b n')
  · rcases R.gb.nw b w with z | z
    · exact .inl z
    · exact .inr (lk_none.mpr z)
theorem unlock_rep (R0 : Rep ⟨dy, S⟩ W H σ E) (hd : H d = some (.dK kvs)) (nd : ¬ Nn ⟨dy, S⟩ W d) (R : Rep ⟨dy.lk d (.frz od (.dK kvs)), S⟩ W' H' σ' E') (nd' : ¬ Nn ⟨dy, S⟩ W' d) (hd' : H' d = some (.frz od (.dK kvs))) : Rep ⟨dy, S⟩ W' (upd H' d (.dK kvs)) σ' E' := by
  have kp : Kp (Nn ⟨dy, S⟩ W') (Nn ⟨dy, S⟩ W') H' (upd H' d (.dK kvs)) := kp_lock hd' (.inr ⟨od, rfl⟩) (.inl rfl)
  have at0 : ∀ {o : HO}, dy.H0 d = some o → o = .dK kvs := fun {o} e => by
    have := R0.out d o (fun z => nd (.inl (dy.pn d z))) e
    rw [hd] at this
    exact (Option.some.inj this).symm
  have atb : ∀ {o : HO}, ¬ dy.Wb d → dy.Hb d = some o → o = .dK kvs := fun {o} n e => by
    have := R0.gb.st d o n e
    rw [hd] at this
    exact (Option.some.inj this).symm
  refine ⟨fun b o p e => ?_, fun b w => ?_, fun b n => ?_, fun i x e => ?_, R.inj, R.len, ⟨fun b o n e => ?_, fun b n => ?_, fun b w => ?_⟩⟩
  · by_cases q : b = d
    · subst q
      rw [at0 e]
      exact upd_same
    · exact (upd_ne q).trans (R.out b o p (by
        show (if b = d ∧ dy.H0 b ≠ none then _ else dy.H0 b) = _
        rw [if_neg fun z => q z.1]
        exact e))
  · rcases R.w b w with z | z
    · exact .inl z
    · exact .inr (lk_none.mp z)
  · have q : b ≠ d := fun z => nd' (z ▸ n)
    rcases R.ld b n with ⟨xs, z⟩ | ⟨xs, z⟩
    · exact .inl ⟨xs, (upd_ne q).trans z⟩
    · exact .inr ⟨xs, (upd_ne q).trans z⟩
  · obtain ⟨v, h1, h2⟩ := R.slot i x e
    refine ⟨v, h1, ?_⟩
    unfold SlotOk at *
    show if S.O i = true then _ else _
    split
    · next hh =>
      rw [if_pos (show S.O i = true from hh)] at h2
      obtain ⟨a, rfl, wa, oc, m⟩ := h2
      have q : a ≠ d := fun z => nd' (z ▸ .inr wa)
      exact ⟨a, rfl, wa, oc.keep kp (upd_ne q), fun z z2 => lk_none.mp (m.1 z z2), m.2⟩
    · next hh =>
      rw [if_neg (show ¬ S.O i = true from hh)] at h2
      exact h2.keep kp
  · by_cases q : b = d
    · subst q
      rw [atb n e]
      exact upd_same
    · exact (upd_ne q).trans (R.gb.st b o n (by
        show (if b = d ∧ dy.Hb b ≠ none then _ else dy.Hb b) = _
        rw [if_neg fun z => q z.1]
        exact e))
  · exact th_upd b (R.gb.th b fun z => n (lk_none.mp z))
  · rcases R.gb.nw b w with z | z
    · exact .inl z
    · exact .inr (lk_none.mp z)
theorem gr_lock (hd : H d = some (.dK kvs)) (g : Gr W (upd H d (.frz od (.dK kvs))) W' H') (nd : ¬ W d) (hd' : H' d = some (.frz od (.dK kvs))) : Gr W H W' (upd H' d (.dK kvs)) := by
  refine ⟨fun b o n e => ?_, fun b n => th_upd b (g.th b (th_upd b n)), fun b w => ?_⟩
  · by_cases q : b = d
    · subst q
      rw [hd] at e
      cases e
      exact upd_same
    · exact (upd_ne q).trans (g.st b o n ((upd_ne q).trans e))
  · rcases g.nw b w with z | z
    · exact .inl z
    · refine .inr ?_
      by_cases q : b = d
      · subst q
        rw [upd_same] at z
        cases z
      · rw [upd_ne q] at z
        exact z
end
theorem Fz.dic_inv {N : Ow} {H : Hp} {v : V} {m : List (Key × Dat)} (f : Fz N H v (dicD m)) : ∃ a kvs, v = .ref a ∧ Rd H a (.dK kvs) ∧ ¬ N a ∧ FzK N H kvs m := by
  generalize e : dicD m = d at f
  cases f with
  | dic ea n l =>
    have := dicD_inj e
    subst this
    exact ⟨_, _, rfl, ea, n, l⟩
  | rng ea n => exact (rng_dic e).elim
  | unk => exact (unk_dic e).elim
  | obj => exact (ref_dic e).elim
  | _ => cases e
/-- locked, or locked already -/
def tLkE (t : TE) : TE := fun σ H Q => tLockE t σ H Q ∨ t σ H Q
def tLkS (t : TS) : TS := fun D σ H => tLock t D σ H ∨ t D σ H
theorem pe_lk {X : Cx} {e : Expr} {t : TE} (h : PE X e t) : PE X e (tLkE t) := ⟨fun pins s σ H Q I hw => by
  rcases hw with hw | hw
  · exact (pe_lock h).run pins s σ H Q I hw
  · exact h.run pins s σ H Q I hw⟩
theorem ps_lk {X : Cx} {e : Stmt} {t : TS} (h : PS X e t) : PS X e (tLkS t) := ⟨fun pins s σ H D I hw => by
  rcases hw with hw | hw
  · exact (ps_lock h).run pins s σ H D I hw
  · exact h.run pins s σ H D I hw⟩
def dKeys (i : Nat) : DI := fun E R => ∃ m : List (Key × Dat), E[i]? = some (some (dicD m)) ∧ R ⟨m.length, fun k x => ∃ p, m[k]? = some p ∧ x = kD p.1⟩ E
theorem FzK.at {N : Ow} {H : Hp} : ∀ {vs : List (Key × V)} {ds : List (Key × Dat)} {i : Nat} {k : Key} {v : V}, FzK N H vs ds → vs[i]? = some (k, v) → ∃ d, ds[i]? = some (k, d)
  | _, _, _, _, _, .nil, h => by simp at h
  | _, _, 0, k, v, .cons a l, h => by
    have q := Option.some.inj h
    cases q
    exact ⟨_, rfl⟩
  | _, _, i + 1, k, v, .cons _ l, h => FzK.at (i := i) l (by simpa using h)
theorem keys_walk {C : Ct} {W : Ow} {H : Hp} {a : Addr} {o : Obj} {kvs : List (Key × V)} {m : List (Key × Dat)} (na : ¬ Nn C W a) (h : H a = some (.frz o (.dK kvs))) (l : FzK (Nn C W) H kvs m) : WalkOk C W H (Itk a o kvs) ⟨m.length, fun k x => ∃ p, m[k]? = some p ∧ x = kD p.1⟩ := by
  refine ⟨_, _, l.len ▸ walk_keys, fun H' g => g _ _ h (.inr na), fun N' H' j x H'' kp hj y => ?_⟩
  obtain ⟨rfl, k, v, hk, rfl⟩ := y
  obtain ⟨d, hd⟩ := l.at hk
  refine ⟨Same.refl _, kD k, ⟨(k, d), hd, rfl⟩, ?_⟩
  cases k with
  | inl i => exact .int _
  | inr x => exact .str _
theorem rf_lcD {S : Sx} {dy : Dy} {i : Nat} {vs : List Nat} {g : TG} {tt : TT} {te : TE} {dg : DG} {dt : DT} {de : DE} (hO : S.O i = false) (hg : ∀ dy, RfGc ⟨dy, S⟩ vs g dg) (ht : ∀ dy, RfT ⟨dy, S⟩ tt dt) (he : ∀ dy, RfE ⟨dy, S⟩ te de) : RfF ⟨dy, S⟩ (tLkE (tLc (iKeys (tVar i)) g tt te vs)) (dLc vs (dKeys i) dg dt de) := fun W H σ E Q R Re ⟨m, hE, hw⟩ k => by
  obtain ⟨v, hv, f⟩ := Re.get hO hE
  obtain ⟨a, kvs, rfl, rd, na, l⟩ := f.dic_inv
  have nw : ¬ W a := fun w => na (.inr w)
  rcases rd with ha | ⟨o, ha⟩
  · refine .inl ⟨a, .dK kvs, ha, trivial, fun od => ?_⟩
    have R1 := lock_rep (od := od) Re ha na
    have kp : Kp (Nn ⟨dy, S⟩ W) (Nn ⟨dy, S⟩ W) H (upd H a (.frz od (.dK kvs))) := kp_lock ha (.inl rfl) (.inr ⟨od, rfl⟩)
    refine ⟨.ref a, hv, a, od, rfl, .inl ⟨kvs, upd_same, ?_⟩⟩
    refine lc_run (Q := fun v H' => H' a = some (.frz od (.dK kvs)) ∧ Q v (upd H' a (.dK kvs))) hg ht he R1 (keys_walk na upd_same (l.keep kp)) hw fun p d H' E' R' g' np oc av r => ?_
    have pa : a ≠ p := fun z => by
      rw [← z, upd_same] at np
      cases np
    have h' : H' a = some (.frz od (.dK kvs)) := g'.st a _ nw upd_same
    have na' : ¬ Nn ⟨dy, S⟩ (And1 W p) a := fun z => by
      rcases z with z | z | z
      · exact na (.inl z)
      · exact na (.inr z)
      · exact pa z
    have kp' : Kp (Nn ⟨dy, S⟩ (And1 W p)) (Nn ⟨dy, S⟩ (And1 W p)) H' (upd H' a (.dK kvs)) := kp_lock h' (.inr ⟨od, rfl⟩) (.inl rfl)
    exact ⟨h', k p d _ E' (unlock_rep Re ha na R' na' h') (gr_lock ha g' nw h') (by rw [upd_ne (Ne.symm pa)] at np; exact np) (oc.keep kp' (upd_ne (Ne.symm pa))) av r⟩
  · exact .inr ⟨.ref a, hv, a, o, rfl, .inl ⟨kvs, ha, lc_run hg ht he Re (keys_walk na ha l) hw k⟩⟩
theorem rf_forD {S : Sx} {dy : Dy} {i : Nat} {g : TG} {tb : TS} {dg : DG} {db : DS} (hO : S.O i = false) (hg : ∀ dy, RfG ⟨dy, S⟩ g dg) (hb : ∀ dy, RfS ⟨dy, S⟩ tb db) : RfS ⟨dy, S⟩ (tLkS (tFor (iKeys (tVar i)) g tb)) (dFor (dKeys i) dg db) := fun n0 W H σ E B DD Re ⟨m, hE, hw⟩ c => by
  obtain ⟨v, hv, f⟩ := Re.get hO hE
  obtain ⟨a, kvs, rfl, rd, na, l⟩ := f.dic_inv
  have nw : ¬ W a := fun w => na (.inr w)
  rcases rd with ha | ⟨o, ha⟩
  · refine .inl ⟨a, .dK kvs, ha, trivial, fun od => ?_⟩
    have R1 := lock_rep (od := od) Re ha na
    have kp : Kp (Nn ⟨dy, S⟩ W) (Nn ⟨dy, S⟩ W) H (upd H a (.frz od (.dK kvs))) := kp_lock ha (.inl rfl) (.inr ⟨od, rfl⟩)
    have n0' : ∀ b, (dy.lk a (.frz od (.dK kvs))).N0 b → (dy.lk a (.frz od (.dK kvs))).H0 b ≠ none := fun b n z => n0 b n (lk_none.mp z)
    refine ⟨.ref a, hv, a, od, rfl, .inl ⟨kvs, upd_same, ?_⟩⟩
    have back : ∀ {W' : Ow} {H' : Hp} {σ' : L2.St} {E' : DEnv}, Rep ⟨dy.lk a (.frz od (.dK kvs)), S⟩ W' H' σ' E' → Gr W (upd H a (.frz od (.dK kvs))) W' H' → H' a = some (.frz od (.dK kvs)) ∧ ¬ Nn ⟨dy, S⟩ W' a ∧ Rep ⟨dy, S⟩ W' (upd H' a (.dK kvs)) σ' E' ∧ Gr W H W' (upd H' a (.dK kvs)) := fun {W' H' σ' E'} R' g' => by
      have h' : H' a = some (.frz od (.dK kvs)) := g'.st a _ nw upd_same
      have na' : ¬ Nn ⟨dy, S⟩ W' a := fun z => by
        rcases z with z | z
        · exact na (.inl z)
        · rcases g'.nw a z with z | z
          · exact nw z
          · rw [upd_same] at z
            cases z
      exact ⟨h', na', unlock_rep Re ha na R' na' h', gr_lock ha g' nw h'⟩
    refine for_run (hg _) (hb _) n0' (B := ⟨fun σ' H' => H' a = some (.frz od (.dK kvs)) ∧ B.nx σ' (upd H' a (.dK kvs)), fun v H' => H' a = some (.frz od (.dK kvs)) ∧ B.rt v (upd H' a (.dK kvs)), fun σ' H' => H' a = some (.frz od (.dK kvs)) ∧ B.bk σ' (upd H' a (.dK kvs)), fun σ' H' => H' a = some (.frz od (.dK kvs)) ∧ B.ct σ' (upd H' a (.dK kvs))⟩) R1 (keys_walk na upd_same (l.keep kp)) hw ⟨fun W' H' σ' E' R' g' n => ?_, fun W' H' σ' E' v d R' g' o n => ?_, fun W' H' σ' E' R' g' n => ?_, fun W' H' σ' E' R' g' n => ?_⟩
    · obtain ⟨h', _, r, g⟩ := back R' g'
      exact ⟨h', c.nx W' _ σ' E' r g n⟩
    · obtain ⟨h', na', r, g⟩ := back R' g'
      refine ⟨h', c.rt W' _ σ' E' v d r g ?_ n⟩
      unfold RtOk at *
      split
      · next hh =>
        rw [if_pos (show S.fr = true from hh)] at o
        obtain ⟨b, rfl, wb, hb0, oc⟩ := o
        have q : b ≠ a := fun z => na' (z ▸ .inr wb)
        exact ⟨b, rfl, wb, lk_none.mp hb0, oc.keep (kp_lock h' (.inr ⟨od, rfl⟩) (.inl rfl)) (upd_ne q)⟩
      · next hh =>
        rw [if_neg (show ¬ S.fr = true from hh)] at o
        exact o.keep (kp_lock h' (.inr ⟨od, rfl⟩) (.inl rfl))
    · obtain ⟨h', _, r, g⟩ := back R' g'
      exact ⟨h', c.bk W' _ σ' E' r g n⟩
    · obtain ⟨h', _, r, g⟩ := back R' g'
      exact ⟨h', c.ct W' _ σ' E' r g n⟩
  · exact .inr ⟨.ref a, hv, a, o, rfl, .inl ⟨kvs, ha, for_run (hg _) (hb _) n0 Re (keys_walk na ha l) hw c⟩⟩
theorem z_keys {i : Nat} {E : DEnv} {RI : DIt → DEnv → Prop} {m : List (Key × Dat)} (hv : E[i]? = some (some (dicD m))) (h : RI ⟨m.length, fun k x => ∃ p, m[k]? = some p ∧ x = kD p.1⟩ E) : dKeys i E RI := ⟨m, hv, h⟩
theorem rf_asgLk {C : Ct} {t : TE} {i : Nat} {d : DS} (h : RfS C (tAsg (tLkE t) (gName i)) d) : RfS C (tLkS (tAsg t (gName i))) d := fun n0 W H σ E B DD R hd c => by
  rcases h n0 W H σ E B DD R hd c with ⟨a, u, ha, mu, hw⟩ | hw
  · exact .inl ⟨a, u, ha, mu, fun od => hw od⟩
  · exact .inr hw
end Dl
namespace Dl
open PySem PySem.Spec PyProof.Rows L2 Ss
/-! ### a mark: a written slot is let go from here on -/
def tRelM (i : Nat) (t : TS) : TS := t
theorem pss_relM {X : Cx} {body : List Stmt} {t : TS} (i : Nat) (h : PSs X body t) : PSs X body (tRelM i t) := h
theorem rf_relM {dy : Dy} {S : Sx} {i : Nat} {t : TS} {d : DS} (hO : S.O i = true) (hM : S.M ≠ some i ∧ S.M2 ≠ some i) (h : ∀ dy, RfS ⟨dy, S.rel i⟩ t d) : RfS ⟨dy, S⟩ (tRelM i t) (dRel i d) := rf_rel hO hM h
/-! ### d.get(k) -/
section
variable {C : Ct} {K : PySem.W.Frag}
def dDGet1 (dd dy : DE) : DE := fun E R => dd E fun x E1 => ∃ m0, x = dicD m0 ∧ dy E1 fun y E2 => ∃ k, y = kD k ∧ R ((valD m0 k).getD .none) E2
theorem rf_dget1 {ty td : TE} {dy dd : DE} (hd : RfE C td dd) (hy : RfE C ty dy) : RfE C (tDGet1 td ty) (dDGet1 dd dy) := fun W H σ E Q R Re r k =>
  hd W H σ E _ _ Re r fun x dx0 H1 E1 R1 g1 f1 ⟨m, e2, r1⟩ => by
    subst e2
    obtain ⟨a, kvs, rfl, ha, _⟩ := Ft.dic (.inl f1)
    refine ⟨a, rfl, .inl ⟨kvs, ha⟩, hy W H1 σ E1 _ _ R1 r1 fun y ky H2 E2 R2 g2 f2 ⟨kk, e1, r3⟩ => ?_⟩
    subst e1
    obtain rfl := kV_fz f2
    obtain ⟨b, kvs2, eb, hb, l⟩ := Ft.dic (.inl (f1.gr R1 g2))
    cases eb
    refine ⟨_, .inl ⟨_, kk, hb, rfl, rfl⟩, ?_⟩
    rcases l.val (k := kk) with ⟨h1, h2⟩ | ⟨w, e, h1, h2, fw⟩
    · rw [h1]
      rw [h2] at r3
      exact k _ _ H2 E2 R2 (g1.trans g2) .non r3
    · rw [h1]
      rw [h2] at r3
      exact k _ _ H2 E2 R2 (g1.trans g2) fw r3
/-! ### dict(pairs) -/
def mergeD (m : List (Key × Dat)) (rows : List (Key × Dat)) : List (Key × Dat) := rows.foldl (fun acc r => putD acc r.1 r.2) m
theorem FzK.merge {N : Ow} {H : Hp} : ∀ {more : List (Key × V)} {rows : List (Key × Dat)} {kvs : List (Key × V)} {m : List (Key × Dat)}, FzK N H more rows → FzK N H kvs m → FzK N H (mergeK kvs more) (mergeD m rows)
  | _, _, _, _, .nil, h => h
  | (k, v) :: vs, (_, d) :: rs, kvs, m, .cons a l, h => by
    show FzK N H (mergeK (putK kvs k v) vs) (mergeD (putD m k d) rs)
    exact FzK.merge l (h.put a)
def rDictP (K : PySem.W.Frag) : List V → Hp → VK → Prop := fun xs H Q => ∃ (a : Addr) (ps : List Addr) (kvs : List (Key × V)), xs = [.ref a] ∧ SqL K H a (ps.map V.ref) ∧ Paired (fun p kv => SqT K H p [kV kv.1, kv.2]) ps kvs ∧
    ∀ p, H p = none → Q (.ref p) (upd H p (.dK (mergeK [] kvs)))
theorem call_dictPr {X : Cx} (hc : X.calm = true) : CallR X (.type "dict") (rDictP X.K) := call_dictP hc
def rowD (r : Key × Dat) : Dat := .tuple [kD r.1, r.2]
theorem rows_src {N : Ow} {H : Hp} : ∀ {rows : List (Key × Dat)} {us : List V}, FzL N H us (rows.map rowD) → ∃ (ps : List Addr) (kvs : List (Key × V)), us = ps.map V.ref ∧ Paired (fun p kv => SqT K H p [kV kv.1, kv.2]) ps kvs ∧ FzK N H kvs rows
  | [], _, .nil => ⟨[], [], rfl, .nil, .nil⟩
  | (k, d) :: rows, _, .cons f l => by
    obtain ⟨ps, kvs, rfl, pr, fk⟩ := rows_src l
    obtain ⟨a, xs, rfl, ha, l2⟩ := Ft.tup (.inl f)
    cases l2 with
    | cons f1 l2 => cases l2 with
      | cons f2 l2 =>
        cases l2
        obtain rfl := kV_fz f1
        exact ⟨a :: ps, (k, _) :: kvs, rfl, .cons (.of ha) pr, .cons f2 fk⟩
def dDictP (da : DA) : DE := fun E R => da E fun ds E1 => ∃ rows, ds = [.list (rows.map rowD)] ∧ R (dicD (mergeD [] rows)) E1
theorem rf_newD {W : Ow} {H H1 : Hp} {σ : L2.St} {E E1 : DEnv} {Q : VK} {R : Dat → DEnv → Prop} (R0 : Rep C W H σ E) (R1 : Rep C W H1 σ E1) (g : Gr W H W H1)
    (k : ∀ p d H' E', Rep C (And1 W p) H' σ E' → Gr W H W H' → H p = none → OwnC (Nn C (And1 W p)) H' p d → (∀ j e, C.O j = true → E'[j]? = some (some e) → σ[j]? ≠ some (some (.ref p))) → R d E' → Q (.ref p) H')
    {p : Addr} {kvs : List (Key × V)} {m : List (Key × Dat)} (hp : H1 p = none) (l : FzK (Nn C W) H1 kvs m) (r : R (dicD m) E1) : Q (.ref p) (upd H1 p (.dK kvs)) := by
  have s := same_new (o := .dK kvs) hp
  obtain ⟨R2, av⟩ := R1.grow s hp (.inr ⟨ntD kvs, upd_same⟩)
  have h0 : H p = none := by
    cases e : H p with
    | none => rfl
    | some o =>
      by_cases w : W p
      · exact absurd hp (ld_some (R1.ld p (.inr w)))
      · rw [g.st p o w e] at hp; cases hp
  exact k p _ _ E1 R2 (g.trans (Gr.same s)) h0 (.inr ⟨_, _, rfl, upd_same, l.keep (kp_new s hp)⟩) av r
theorem rf_dictP {ta : TA} {da : DA} (ha : RfA C ta da) : RfF C (tCB (rDictP K) ta) (dDictP da) := fun W H σ E Q R Re r k =>
  ha W H σ E _ _ Re r fun xs ds H1 E1 R1 g1 f1 ⟨rows, e, r1⟩ => by
    subst e
    cases f1 with
    | cons f0 f1 =>
      cases f1
      obtain ⟨a, us, rfl, hl, l⟩ := Ft.lst (.inl f0)
      obtain ⟨ps, kvs, rfl, pr, fk⟩ := rows_src (K := K) l
      exact ⟨a, ps, kvs, rfl, .of hl, pr, fun p np => rf_newD Re R1 g1 k np (FzK.merge fk .nil) r1⟩
/-! ### x in l -/
def oInD : Dat → Dat → (Dat → Prop) → Prop := fun a b R => ∃ ds, b = .list ds ∧ SeqAt.shaped a = true ∧ SeqAt.shaped (.list ds) = true ∧ R (.bool (ds.any fun z => PyData.eqv z a))
def oNotInD : Dat → Dat → (Dat → Prop) → Prop := fun a b R => ∃ ds, b = .list ds ∧ SeqAt.shaped a = true ∧ SeqAt.shaped (.list ds) = true ∧ R (.bool (!ds.any fun z => PyData.eqv z a))
theorem ft_dps {N : Ow} {H : Hp} {v : V} {d : Dat} (f : Ft N H v d) (h0 : SeqAt.shaped d = true) : Dp K H v d := ft_dp0 f (SeqAt.canLay_of_shaped h0)
theorem rfo_inD : RfO (rInD K) oInD := fun N H x y a b Q R hx hy ⟨ds, eb, sa, sb, r⟩ k => by
  subst eb
  exact ⟨a, ds, ft_dps hx sa, ft_dps hy sb, sa, sb, k _ _ H (Same.refl H) (.bl _) r⟩
theorem rfo_notInD : RfO (rNotInD K) oNotInD := fun N H x y a b Q R hx hy ⟨ds, eb, sa, sb, r⟩ k => by
  subst eb
  exact ⟨a, ds, ft_dps hx sa, ft_dps hy sb, sa, sb, k _ _ H (Same.refl H) (.bl _) r⟩
/-! ### tuple(reversed(l)) -/
def dTupRev (da : DE) : DE := fun E R => da E fun x E1 => ∃ ds, x = .list ds ∧ R (.tuple ds.reverse) E1
theorem FzL.rev {N : Ow} {H : Hp} : ∀ {us : List V} {ds : List Dat}, FzL N H us ds → FzL N H us.reverse ds.reverse
  | _, _, .nil => .nil
  | _, _, .cons a l => by
    rw [List.reverse_cons, List.reverse_cons]
    exact l.rev.app (.cons a .nil)
theorem rf_tupRev {te : TE} {da : DE} (ha : RfE C te da) : RfE C (RT.tTupRev K te) (dTupRev da) := fun W H σ E Q R Re r k =>
  ha W H σ E _ _ Re r fun v d H1 E1 R1 g1 f1 ⟨ds, e, r1⟩ => by
    subst e
    obtain ⟨a, us, rfl, hl, l⟩ := Ft.lst (.inl f1)
    refine ⟨a, us, rfl, .of hl, fun q hq => ?_⟩
    have s := same_new (o := .tup us.reverse) hq
    exact k (.ref q) _ _ E1 (R1.same s) (g1.trans (Gr.same s)) (.tup upd_same (l.rev.keep (Kp.same s))) r1
end
/-! ### dict comprehensions -/
section
variable {J : It} {n : Nat} {G : Hp → Prop} {Y : Nat → Hp → V → Hp → Prop}
theorem dc_it (w : Walk J n G Y) {g : TG} {tt : TT} {tk tv : TE} {vs : List Nat} {σ : L2.St} {H1 : Hp} {D : Addr} {Qd : Hp → Prop} (Pv : Nat → Hp → Prop) (h0 : Pv 0 (upd H1 D (.dK []))) (hG : ∀ i H, i ≤ n → Pv i H → G H)
    (hs : ∀ i x H H', i < n → Pv i H → Y i H x H' → g x (wipe σ vs) H' fun σ2 H2 => wipe σ2 vs = wipe σ vs ∧ tt σ2 H2 fun b H3 =>
      if b = true then tk σ2 H3 fun y H4 => tv σ2 H4 fun z H5 => ∃ kvs k, y = kV k ∧ H5 D = some (.dK kvs) ∧ kvs.length < sizeLine ∧ Pv (i + 1) (upd H5 D (.dK (putK kvs k z))) else Pv (i + 1) H3) (hd : ∀ H, Pv n H → Qd H) :
    ∃ W : Nat → Nat → Hp → Prop, (∃ m, W 0 m (upd H1 D (.dK []))) ∧ ∀ i m H, W i m H →
      (J.stop i H ∧ Qd H) ∨ (J.go i H ∧ ∃ Nx : Hp → Prop, (∀ H', Nx H' → ∃ m', m' < m ∧ W (i + 1) m' H') ∧ ∀ x H', J.yld i H x H' → g x (wipe σ vs) H' fun σ2 H2 => wipe σ2 vs = wipe σ vs ∧ tt σ2 H2 fun b H3 =>
        if b = true then tk σ2 H3 fun y H4 => tv σ2 H4 fun z H5 => ∃ kvs k, y = kV k ∧ H5 D = some (.dK kvs) ∧ kvs.length < sizeLine ∧ Nx (upd H5 D (.dK (putK kvs k z))) else Nx H3) := by
  refine ⟨fun i m H => m = n - i ∧ i ≤ n ∧ Pv i H, ⟨n, by simp, Nat.zero_le _, h0⟩, ?_⟩
  rintro i m H ⟨rfl, hi, p⟩
  have q := hG i H hi p
  by_cases hlt : i < n
  · refine .inr ⟨w.goes i H hlt q, Pv (i + 1), fun H' p' => ⟨n - (i + 1), by omega, rfl, hlt, p'⟩, fun x H' y => hs i x H H' hlt p (w.yields i H x H' hlt q y)⟩
  · have e : i = n := by omega
    subst e
    exact .inl ⟨w.stops H q, hd H p⟩
end
theorem kp_putD {N : Ow} {H : Hp} {p : Addr} {xs ys : List (Key × V)} (np : N p) (h : H p = some (.dK xs)) : Kp N N H (upd H p (.dK ys)) := .ex fun b o e n => by
  have nb : b ≠ p := fun z => by
    subst z
    rcases n with ⟨zs, rfl⟩ | n
    · rw [h] at e; cases e
    · exact n np
  exact ⟨(upd_ne nb).trans e, id⟩
theorem Rep.putND {C : Ct} {W : Ow} {H : Hp} {σ : L2.St} {E : DEnv} {p : Addr} {xs ys : List (Key × V)} (R : Rep C W H σ E) (n0 : C.N0 p) (nw : ¬ W p) (h0 : C.H0 p = none) (hb : C.Hb p = none) (h : H p = some (.dK xs)) : Rep C W (upd H p (.dK ys)) σ E := by
  have k := kp_putD (ys := ys) (N := Nn C W) (.inl n0) h
  refine ⟨fun b o np e => ?_, R.w, fun b n => ?_, fun i d e => ?_, R.inj, R.len, ⟨fun b o w e => (upd_ne (ne_of_none e hb)).trans (R.gb.st b o w e), fun b n => th_upd b (R.gb.th b n), R.gb.nw⟩⟩
  · have nb : b ≠ p := fun z => by
      subst z
      rw [h0] at e; cases e
    rw [upd_ne nb]
    exact R.out b o np e
  · by_cases q : b = p
    · subst q
      exact .inr ⟨ntD ys, upd_same⟩
    · rcases R.ld b n with ⟨zs, z⟩ | ⟨zs, z⟩
      · exact .inl ⟨zs, (upd_ne q).trans z⟩
      · exact .inr ⟨zs, (upd_ne q).trans z⟩
  · obtain ⟨v, h1, h2⟩ := R.slot i d e
    refine ⟨v, h1, ?_⟩
    unfold SlotOk at *
    split
    · next hh =>
      rw [if_pos hh] at h2
      obtain ⟨a, rfl, wa, oc, m⟩ := h2
      have na : a ≠ p := fun z => nw (z ▸ wa)
      exact ⟨a, rfl, wa, oc.keep k (upd_ne na), m⟩
    · next hh =>
      rw [if_neg hh] at h2
      exact h2.keep k
abbrev WdD := Nat → List (Key × Dat) → DEnv → Prop
def DcGo (vs : List Nat) (I : DIt) (dg : DG) (dt : DT) (dk dv : DE) (R : Dat → DEnv → Prop) (E1 : DEnv) : Prop := ∃ Wd : WdD, Wd 0 [] (wipeE E1 vs) ∧
  (∀ k x acc E, k < I.n → I.item k x → Wd k acc E → dg x E fun E2 => dt E2 fun b E3 => if b = true then dk E3 fun y E4 => dv E4 fun z E5 => ∃ j, y = kD j ∧ acc.length < sizeLine ∧ Wd (k + 1) (putD acc j z) (wipeE E5 vs) else Wd (k + 1) acc (wipeE E3 vs)) ∧ ∀ acc E, Wd I.n acc E → R (dicD acc) E
def dDc (vs : List Nat) (di : DI) (dg : DG) (dt : DT) (dk dv : DE) : DE := fun E R => di E fun I E1 => DcGo vs I dg dt dk dv R E1
theorem dc_run {S : Sx} {dy : Dy} {vs : List Nat} {g : TG} {tt : TT} {tk tv : TE} {dg : DG} {dt : DT} {dk dv : DE} (hg : ∀ dy, RfGc ⟨dy, S⟩ vs g dg) (ht : ∀ dy, RfT ⟨dy, S⟩ tt dt) (hk : ∀ dy, RfE ⟨dy, S⟩ tk dk) (he : ∀ dy, RfE ⟨dy, S⟩ tv dv) {W : Ow} {H1 : Hp} {σ : L2.St} {E1 : DEnv} {J : It} {I : DIt} {Q : VK} {R : Dat → DEnv → Prop} (R1 : Rep ⟨dy, S⟩ W H1 σ E1) (wo : WalkOk ⟨dy, S⟩ W H1 J I)
    (hw : DcGo vs I dg dt dk dv R E1)
    (k : ∀ p d H' E', Rep ⟨dy, S⟩ (And1 W p) H' σ E' → Gr W H1 W H' → H1 p = none → OwnC (Nn ⟨dy, S⟩ (And1 W p)) H' p d → (∀ j e, S.O j = true → E'[j]? = some (some e) → σ[j]? ≠ some (some (.ref p))) → R d E' → Q (.ref p) H') :
    ∀ D, H1 D = none → ∃ W : Nat → Nat → Hp → Prop, (∃ m, W 0 m (upd H1 D (.dK []))) ∧ ∀ i m H, W i m H →
      (J.stop i H ∧ Q (.ref D) H) ∨ (J.go i H ∧ ∃ Nx : Hp → Prop, (∀ H', Nx H' → ∃ m', m' < m ∧ W (i + 1) m' H') ∧ ∀ x H', J.yld i H x H' → g x (wipe σ vs) H' fun σ2 H2 => wipe σ2 vs = wipe σ vs ∧ tt σ2 H2 fun b H3 =>
        if b = true then tk σ2 H3 fun y H4 => tv σ2 H4 fun z H5 => ∃ kvs k, y = kV k ∧ H5 D = some (.dK kvs) ∧ kvs.length < sizeLine ∧ Nx (upd H5 D (.dK (putK kvs k z))) else Nx H3) := by
  obtain ⟨Gh, Y, wk, w1, w2⟩ := wo
  obtain ⟨Wd, h0, hs, hd⟩ := hw
  intro p np
  have fr := R1.free0 np
  have fb := R1.freeb np
  have nwp : ¬ W p := fun w => fr.2 (.inr w)
  refine dc_it wk (fun i H' => ∃ E' acc xs, Rep (Ct.more ⟨dy, S⟩ p) W H' (wipe σ vs) E' ∧ Gr W H1 W H' ∧ H' p = some (.dK xs) ∧ FzK (Nn (Ct.more ⟨dy, S⟩ p) W) H' xs acc ∧ NoD E' vs ∧ Wd i acc E')
    ⟨_, [], [], (R1.more (same_new np) np (.inr ⟨ntD [], upd_same⟩)).wipe vs, Gr.same (same_new np), upd_same, .nil, nod_wipe, h0⟩ (fun i H' _ ⟨E', acc, xs, R', g', _⟩ => w1 H' (g'.kx R1.ld)) (fun i x H' H'' hi ⟨E', acc, xs, R', g', hp, la, nd, hw⟩ y => ?_) (fun H' ⟨E', acc, xs, R', g', hp, la, nd, hw⟩ => ?_)
  · obtain ⟨s, d, hd', fd⟩ := w2 _ H' i x H'' (kp_more R1 g' np) hi y
    have R2 := R'.same s
    have la2 := la.keep (Kp.same s)
    have gs := Gr.same (W := W) s
    refine hg _ W H'' _ E' x d _ _ R2 fd (hs i d acc E' hi hd' hw) fun σ3 E3 R3 e3 r3 => ⟨e3.trans wipe_wipe, ht _ W H'' σ3 E3 _ _ R3 r3 fun b H4 E4 R4 g4 r4 => ?_⟩
    have e3' := e3.trans wipe_wipe
    have hp4 := g4.st p _ nwp (s _ _ hp)
    have la4 := la2.keep (g4.kp R3.ld)
    cases b with
    | true =>
      refine hk _ W H4 σ3 E4 _ _ R4 r4 fun y ky H5 E5 R5 g5 f5 r5 => he _ W H5 σ3 E5 _ _ R5 r5 fun v d2 H6 E6 R6 g6 f6 ⟨j, ej, hl, r6⟩ => ?_
      subst ej
      obtain rfl := kV_fz f5
      have hp6 := g6.st p _ nwp (g5.st p _ nwp hp4)
      have la6 := ((la4.keep (g5.kp R4.ld)).keep (g6.kp R5.ld)).put (k := j) f6
      refine ⟨xs, j, rfl, hp6, by rw [la.len]; exact hl, _, putD acc j d2, putK xs j v, ?_, gr_new g' (((gs.trans g4).trans g5).trans g6) np, upd_same, la6.keep (kp_putD (.inl (.inr rfl)) hp6), nod_wipe, r6⟩
      have := (R6.wipe vs).putND (ys := putK xs j v) (.inr rfl) nwp fr.1 fb hp6
      rw [e3'] at this
      exact this
    | false =>
      refine ⟨_, acc, xs, ?_, (g'.trans gs).trans g4, hp4, la4, nod_wipe, r4⟩
      have := R4.wipe vs
      rw [e3'] at this
      exact this
  · have sub : ∀ b, Nn ⟨dy, S⟩ (And1 W p) b → Nn (Ct.more ⟨dy, S⟩ p) W b := fun b n => by
      rcases n with n | n | n
      · exact .inl (.inl n)
      · exact .inr n
      · exact .inl (.inr n)
    have R2 := R'.unwipe nd
    refine k p (dicD acc) H' E' ⟨R2.out, fun b w => ?_, fun b n => R2.ld b (sub b n), fun j e hj => ?_, R2.inj, R2.len, ⟨R2.gb.st, R2.gb.th, fun b w => by
      rcases w with w | rfl
      · exact R2.gb.nw b w
      · exact .inr fb⟩⟩ g' np (.inr ⟨xs, acc, rfl, hp, la.keep (Kp.sub sub)⟩) (fun j e oj hj z => ?_) (hd acc E' hw)
    · rcases w with w | rfl
      · exact R2.w b w
      · exact .inr fr.1
    · obtain ⟨v, h1, h2⟩ := R2.slot j e hj
      refine ⟨v, h1, ?_⟩
      unfold SlotOk at *
      split
      · next hh =>
        rw [if_pos (show (Ct.more ⟨dy, S⟩ p).O j = true from hh)] at h2
        obtain ⟨a, rfl, wa, oc, m⟩ := h2
        exact ⟨a, rfl, .inl wa, oc.keep (Kp.sub sub) rfl, m⟩
      · next hh =>
        rw [if_neg (show ¬ (Ct.more ⟨dy, S⟩ p).O j = true from hh)] at h2
        exact h2.keep (Kp.sub sub)
    · obtain ⟨a, h1, wa, _⟩ := R2.own oj hj
      rw [z] at h1
      cases h1
      exact nwp wa
theorem rf_dc {S : Sx} {dy : Dy} {vs : List Nat} {wi : TI} {g : TG} {tt : TT} {tk tv : TE} {di : DI} {dg : DG} {dt : DT} {dk dv : DE} (hi : RfI ⟨dy, S⟩ wi di) (hg : ∀ dy, RfGc ⟨dy, S⟩ vs g dg) (ht : ∀ dy, RfT ⟨dy, S⟩ tt dt) (hk : ∀ dy, RfE ⟨dy, S⟩ tk dk) (he : ∀ dy, RfE ⟨dy, S⟩ tv dv) : RfF ⟨dy, S⟩ (tDc wi g tt tk tv vs) (dDc vs di dg dt dk dv) := fun W H σ E Q R Re h k => hi W H σ E _ _ Re h fun J I H1 E1 R1 g1 wo hw =>
  dc_run hg ht hk he R1 wo hw fun p d H' E' R' g' np o av r => k p d H' E' R' (g1.trans g') (by
    cases e : H p with
    | none => rfl
    | some o =>
      by_cases w : W p
      · exact absurd np (ld_some (R1.ld p (.inr w)))
      · rw [g1.st p o w e] at np; cases np) o av r
/-! steps -/
section
variable {E : DEnv} {R : Dat → DEnv → Prop} {Q : Dat → Prop} {da db dk dv : DE} {dl : DA} {dg : DG} {dt : DT} {di : DI} {vs : List Nat} {m : List (Key × Dat)} {k : Key} {x : Dat} {ds : List Dat}
theorem z_dget (h : da E fun x E1 => db E1 fun y E2 => ∃ k m d, y = kD k ∧ x = dicD m ∧ valD m k = some d ∧ R d E2) : dDGet da db E R := h
theorem z_dget1 (h : da E fun x E1 => ∃ m0, x = dicD m0 ∧ db E1 fun y E2 => ∃ k, y = kD k ∧ R ((valD m0 k).getD .none) E2) : dDGet1 da db E R := h
theorem z_dictP (h : dl E fun ds E1 => ∃ rows, ds = [.list (rows.map rowD)] ∧ R (dicD (mergeD [] rows)) E1) : dDictP dl E R := h
theorem z_tupRev (h : da E fun x E1 => ∃ ds, x = .list ds ∧ R (.tuple ds.reverse) E1) : dTupRev da E R := h
theorem z_tupRevL {P : List Dat → Prop} (h : P ds) : ∃ es, PyData.list ds = .list es ∧ P es := ⟨ds, rfl, h⟩
theorem z_dc (h : di E fun I E1 => DcGo vs I dg dt dk dv R E1) : dDc vs di dg dt dk dv E R := h
end
theorem z_dgetV {E : DEnv} {R : Dat → DEnv → Prop} {dy : DE} {i : Nat} {x : Dat} (hv : E[i]? = some (some x)) (h : dy E fun y E1 => ∃ k m d, y = kD k ∧ E1[i]? = some (some (dicD m)) ∧ valD m k = some d ∧ R d E1) : dDGetV i dy E R := ⟨⟨x, hv⟩, h⟩
theorem hu65 {A : Around} {k : Nat} (hr : Room k A) : A.units + 65 < cLine := by have := hr.un; omega
end Dl
namespace Dl
open PySem PySem.Spec PyProof.Rows L2 Ss Sk
/-! ### a test that only reads: all slots may be passed on -/
def tBor (t : TT) : TT := t
theorem pt_bor {X : Cx} {e : Expr} {t : TT} (h : PT X e t) : PT X e (tBor t) := h
def dyB (H : Hp) : Dy := ⟨H, fun _ => False, fun _ => False, fun _ h => h, fun _ => False, H, fun _ => False, fun _ => False⟩
def sxB : Sx := ⟨fun _ => false, none, false, none⟩
def dBor (d : DT) : DT := fun E R => d E fun b _ => R b E
theorem rep_bor {C : Ct} {W : Ow} {H : Hp} {σ : L2.St} {E : DEnv} (R : Rep C W H σ E) : Rep ⟨dyB H, sxB⟩ (fun _ => False) H σ E := by
  have sub : ∀ b, Nn ⟨dyB H, sxB⟩ (fun _ => False) b → Nn C W b := fun b z => z.elim (fun z => z.elim) fun z => z.elim
  have nn : ∀ b, ¬ Nn ⟨dyB H, sxB⟩ (fun _ => False) b := fun b z => z.elim id id
  refine ⟨fun _ _ _ e => e, fun _ w => w.elim, fun b n => absurd n (nn b), fun j d e => ?_, fun i j d e v oi => absurd (show false = true from oi) Bool.false_ne_true, R.len, Gr.refl _ _⟩
  obtain ⟨v, h1, h2⟩ := R.slot j d e
  refine ⟨v, h1, ?_⟩
  unfold SlotOk at h2 ⊢
  rw [if_neg (show ¬ (Ct.mk (dyB H) sxB).O j = true from Bool.false_ne_true)]
  split at h2
  · obtain ⟨a, rfl, _, oc, _⟩ := h2
    rcases oc with ⟨xs, ds, rfl, e, l⟩ | ⟨xs, ds, rfl, e, l⟩
    · exact .lst e (nn a) (l.keep (Kp.sub sub))
    · exact .dic (.inl e) (nn a) (l.keep (Kp.sub sub))
  · exact h2.keep (Kp.sub sub)
theorem rf_bor {C : Ct} {t : TT} {d : DT} (h : ∀ dy, RfT ⟨dy, sxB⟩ t d) : RfT C (tBor t) (dBor d) := fun W H σ E Q R Re r k =>
  h (dyB H) (fun _ => False) H σ E Q (fun b _ => R b E) (rep_bor Re) r fun b H' E' _ g r1 => by
    have s : Same H H' := fun b o e => g.st b o (fun z => z) e
    exact k b H' E (Re.same s) (Gr.same s) r1
theorem z_bor {d : DT} {E : DEnv} {R : Bool → DEnv → Prop} (h : d E fun b _ => R b E) : dBor d E R := h
/-! ### a new dict of scalars, read from any slots -/
def tBorE (t : TE) : TE := t
theorem pe_bor {X : Cx} {e : Expr} {t : TE} (h : PE X e t) : PE X e (tBorE t) := ⟨h.run⟩
def scaD : Dat → Bool
  | .none => true
  | .bool _ => true
  | .int _ => true
  | .str _ => true
  | _ => false
def dBorF (d : DE) : DE := fun E R => d E fun x _ => ∃ m : List (Key × Dat), x = dicD m ∧ (∀ r ∈ m, scaD r.2 = true) ∧ R x E
theorem fz_sca {N N' : Ow} {H H' : Hp} {v : V} {d : Dat} (f : Fz N H v d) (h : scaD d = true) : Fz N' H' v d := by
  cases f with
  | non => exact .non
  | bl b => exact .bl b
  | int i => exact .int i
  | str x => exact .str x
  | tup _ _ => cases h
  | lst _ _ _ => cases h
  | dic _ _ _ => cases h
  | rng _ _ => cases h
  | unk => cases h
  | obj => cases h
theorem fzk_sca {N N' : Ow} {H H' : Hp} : ∀ {vs : List (Key × V)} {ds : List (Key × Dat)}, FzK N H vs ds → (∀ r ∈ ds, scaD r.2 = true) → FzK N' H' vs ds
  | _, _, .nil, _ => .nil
  | _, _, .cons a l, h => .cons (fz_sca a (h _ List.mem_cons_self)) (fzk_sca l fun r hr => h r (List.mem_cons_of_mem _ hr))
theorem dicD_list {m : List (Key × Dat)} {ds : List Dat} (h : dicD m = .list ds) : False := by cases h
theorem rf_borF {C : Ct} {t : TE} {d : DE} (h : ∀ dy, RfF ⟨dy, sxB⟩ t d) : RfF C (tBorE t) (dBorF d) := fun W H σ E Q R Re r k =>
  h (dyB H) (fun _ => False) H σ E Q (fun x _ => ∃ m : List (Key × Dat), x = dicD m ∧ (∀ r ∈ m, scaD r.2 = true) ∧ R x E) (rep_bor Re) r fun p x H' E' _ g np oc _ ⟨m, ex, hm, r1⟩ => by
    subst ex
    have s : Same H H' := fun b o e => g.st b o (fun z => z) e
    rcases oc with ⟨xs, ds, e, _, _⟩ | ⟨kvs, ds, e, hp, l⟩
    · exact (dicD_list e).elim
    · have e := dicD_inj e
      subst e
      obtain ⟨R2, av⟩ := Re.grow s np (.inr ⟨ntD kvs, hp⟩)
      exact k p _ H' E R2 (Gr.same s) np (.inr ⟨kvs, m, rfl, hp, fzk_sca l hm⟩) av r1
theorem z_borF {d : DE} {E : DEnv} {R : Dat → DEnv → Prop} (h : d E fun x _ => ∃ m : List (Key × Dat), x = dicD m ∧ (∀ r ∈ m, scaD r.2 = true) ∧ R x E) : dBorF d E R := h
/-! ### a value without lists and dicts, read from any slots -/
def tBorV (t : TE) : TE := t
theorem pe_borV {X : Cx} {e : Expr} {t : TE} (h : PE X e t) : PE X e (tBorV t) := ⟨h.run⟩
def Free (d : Dat) : Prop := ∀ (N N' : Ow) (H : Hp) (v : V), Fz N H v d → Fz N' H v d
theorem free_sca {d : Dat} (h : scaD d = true) : Free d := fun _ _ _ _ f => fz_sca f h
theorem free_all {N N' : Ow} {H : Hp} : ∀ {vs : List V} {ds : List Dat}, FzL N H vs ds → (∀ d ∈ ds, Free d) → FzL N' H vs ds
  | _, _, .nil, _ => .nil
  | _, _, .cons a l, h => .cons (h _ List.mem_cons_self _ _ _ _ a) (free_all l fun d hd => h d (List.mem_cons_of_mem _ hd))
theorem free_tup {ds : List Dat} (h : ∀ d ∈ ds, Free d) : Free (.tuple ds) := fun N N' H v f => by
  obtain ⟨a, us, rfl, ha, l⟩ := (show Ft N H v (.tuple ds) from .inl f).tup
  exact .tup ha (free_all l h)
def dBorV (d : DE) : DE := fun E R => d E fun x _ => Free x ∧ R x E
theorem rf_borV {C : Ct} {t : TE} {d : DE} (h : ∀ dy, RfE ⟨dy, sxB⟩ t d) : RfE C (tBorV t) (dBorV d) := fun W H σ E Q R Re r k =>
  h (dyB H) (fun _ => False) H σ E Q (fun x _ => Free x ∧ R x E) (rep_bor Re) r fun v x H' E' _ g f ⟨hf, r1⟩ => by
    have s : Same H H' := fun b o e => g.st b o (fun z => z) e
    exact k v x H' E (Re.same s) (Gr.same s) (hf _ _ _ _ f) r1
theorem z_borV {d : DE} {E : DEnv} {R : Dat → DEnv → Prop} (h : d E fun x _ => Free x ∧ R x E) : dBorV d E R := h
end Dl
namespace En
open PySem PySem.Spec PyProof.Rows L2 Ss Dl Xm
/-! ### enumerate(a tuple) -/
set_option maxHeartbeats 1000000 in
theorem meets_enum1 {v : Value} {o : Obj} {H : Heap → Prop} (B : Begins v o H) :
    Meets (Builtin.«enumerate.__new__» ⟨[.type "enumerate", v], []⟩) (fun _ R s => H s.heap ∧
      R (.ok (.ret (.ref (s.heap.push o).objs.size))) { s with heap := (s.heap.push o).push { cls := .type "enumerate", data := .fields #[.none, .bool false, .ref s.heap.objs.size, rawInt 0, .none, .none] } }) :=
  .of_wp fun prog w A R s h => by
    obtain ⟨hp, g, d, tk, os⟩ := s; obtain ⟨h1, h⟩ := h
    have hsub := sub_enumerate
    have q1 : ∀ {A' : Around} {E : Value → Shared → Prop} {Q : Value → Shared → Prop}, Q (.ref hp.objs.size) ⟨hp.push o, g, d, tk, os⟩ → wpAny (model prog w) A' (pyIter v) Q E ⟨hp, g, d, tk, os⟩ :=
      fun q => B.iter prog w _ _ ⟨hp, g, d, tk, os⟩ _ h1 q
    wp_walk using q1
    refine wpAny_stack_any fun st => wpAny_pure ?_
    split
    · rename_i c _ _ _ _ _
      cases (c == Value.type "enumerate")
      · wp_walk using q1
        exact ⟨_, rfl, h⟩
      · wp_walk using q1
        exact ⟨_, rfl, h⟩
    · wp_walk using q1
      exact ⟨_, rfl, h⟩
theorem enum_begins1 {prog : Program} {w : World} {A : Around} {E : Value → Shared → Prop} {s : Shared} {v : Value} {o : Obj} {H : Heap → Prop} {Q : Value → Shared → Prop} (B : Begins v o H) (h1 : H s.heap)
    (h : ∀ h', IsEnum h' (s.heap.objs.size + 1) s.heap.objs.size 0 .none → h'.get? s.heap.objs.size = some o → h'.objs.size = s.heap.objs.size + 2 →
      (∀ b o, s.heap.get? b = some o → h'.get? b = some o) → Q (.ref (s.heap.objs.size + 1)) { s with heap := h' }) :
    wpAny (model prog w) A (call (.type "enumerate") [v]) Q E s := by
  refine callType_new F.called_enumerate (by decide) (F.typeCall_enumerate_1 _) (F.newCall_enumerate_1 _) (fun obj => F.args_object_init_2 obj _) F.entry_enumerate_new
    (meets_enum1 B) ⟨h1, ?_⟩
  have hz : (s.heap.push o).objs.size = s.heap.objs.size + 1 := Heap.size_push ..
  show _ ∧ _
  rw [hz]
  have he : IsEnum ((s.heap.push o).push { cls := .type "enumerate", data := .fields #[.none, .bool false, .ref s.heap.objs.size, rawInt 0, .none, .none] }) (s.heap.objs.size + 1) s.heap.objs.size 0 .none := by
    have := Heap.get?_push_size (s.heap.push o) (o := { cls := .type "enumerate", data := .fields #[.none, .bool false, .ref s.heap.objs.size, rawInt 0, .none, .none] }) rfl
    rw [hz] at this; exact this
  refine ⟨⟨_, he, rfl⟩, h _ he (Heap.get?_push_of_some _ (Heap.get?_push_size _ B.free)) (by rw [Heap.size_push, hz]) fun b o x => Heap.get?_push_of_some _ (Heap.get?_push_of_some _ x)⟩
theorem enum_end_tuple {prog : Program} {w : World} {A : Around} {E : Value → Shared → Prop} {s : Shared} {e it l : Addr} {i : Nat} {c : Int} {items : Array Value} {old : Value} {Q : Option Value → Shared → Prop} (hh : A.handled = none)
    (he : IsEnum s.heap e it c old) (hit : s.heap.IsTupleIter it l i) (hl : s.heap.IsTuple l items) (hx : items[i]? = none)
    (hQ : ∀ h', Heap.ExtBut it s.heap h' → Q none { s with heap := h' }) : wpAny (model prog w) A (pyNext (.ref e)) Q E s := by
  have hT : s.TypeIs (.ref e) "enumerate" := ⟨_, he, rfl⟩
  unfold pyNext
  refine wpAny_bind (wpAny_attempt (wpAny_callSpecial?_slot (name := Str.ofString "__next__") hT F.slot_enumerate_next
    (wpAny_call_entry F.slot_enumerate_next hT F.entry_enumerate_next ?_ (F.args_enumerate_next_1 _))))
  show wpAny _ _ (field (.ref e) 2 >>= _) _ _ _
  refine wpAny_bind (wpAny_field he rfl (x := .ref it) rfl ?_)
  refine wpAny_bind (wpAny_nextOf_tuple_end hh hit hl hx fun h' x he' hx' => ?_)
  obtain ⟨o, ho, hc⟩ := hx'
  refine wpAny_bind (wpAny_isInstance (T := "StopIteration") (b := true) ⟨o, ho, hc⟩ isSubtype_stop ?_)
  exact wpAny_pure (hQ _ he')
def IteT (K : PySem.W.Frag) (a : Addr) : It :=
  ⟨fun i H => ∃ (xs : List V) (x : V), SqT K H a xs ∧ xs[i]? = some x, fun i H v H' => ∃ T x, v = .ref T ∧ H T = none ∧ H' = upd H T (.tup [.int (i : Nat), x]) ∧ ∀ xs, SqT K H a xs → xs[i]? = some x, fun i H => ∃ xs : List V, SqT K H a xs ∧ xs.length ≤ i⟩
theorem turn_enumT {P : Program} {w : World} {K : PySem.W.Frag} {elts : List Expr} {kk : Nat} {tpos : Pos} (a e it : Addr) :
    Turn P w K (.Tuple elts kk tpos) (IteT K a) [e, it] e (fun i h => (∃ old, IsEnum h e it ((i : Nat) : Int) old) ∧ h.IsTupleIter it a i ∧ e ≠ it ∧ e ≠ a ∧ a ≠ it) where
  mem := by simp
  obj := fun i h st b hb => by
    obtain ⟨⟨old, he⟩, ⟨o, ho, hc, hd⟩, _⟩ := st
    have e' : b = e ∨ b = it := by simpa using hb
    rcases e' with z | z
    · rw [z]; exact ⟨_, he, fun v q => nomatch q⟩
    · rw [z]; exact ⟨o, ho, fun v q => by rw [hd] at q; cases q⟩
  keep := fun i h h' st k => let ⟨⟨old, he⟩, hi, hne⟩ := st; ⟨⟨old, k e (by simp) _ he⟩, hi.at fun o q => k it (by simp) o q, hne⟩
  item := by
    intro X hP hw hK hc i pins s σ H E I hf st hg
    subst hP hw hK
    obtain ⟨⟨old, he⟩, hit, hne, hea, hai⟩ := st
    obtain ⟨xs, x, hq, hx⟩ := hg
    obtain ⟨its, rv, p, hz⟩ := I.tuple hq
    obtain ⟨u, hu, ru⟩ := rv.get hx
    have hel : e < s.heap.objs.size := Heap.lt_size he
    have hil : it < s.heap.objs.size := by obtain ⟨_, q, _⟩ := hit; exact Heap.lt_size q
    have D := Draws.tuple (prog := X.prog) (w := X.w) (A := X.A.in1) (I.ok.hd hc) it a hai its.toArray
    have hlt : i < its.toArray.size := by
      have := (List.getElem?_eq_some_iff.mp hu).1
      simpa using this
    refine wpAny_pyNext_enum_itemC D (c := (i : Int)) he (i := i) ⟨hit, p⟩ hlt hne (by simp [hne, hea]) fun y h' tk hy ho hit' hT hsz hk => ?_
    have ey : y = u := by
      have hy : its.toArray[i]? = some y := hy
      have hy : its[i]? = some y := by simpa using hy
      rw [hu] at hy
      exact (Option.some.inj hy).symm
    subst ey
    refine ⟨_, rfl, wpAny_letOwnedTupleGo_enum (s := { s with heap := h', toks := tk + 1 }) ho fun h'' he' sb => ?_⟩
    have hT2 : h''.get? s.heap.objs.size = some { cls := .type "tuple", data := .seq #[.int i tk, y] } := (sb.2 _ (Nat.ne_of_gt hel)).trans hT
    have new : ObjOk X.prog X.w (upd H s.heap.objs.size (.tup [.int (i : Nat), x])) h'' s.heap.objs.size (.tup [.int (i : Nat), x]) :=
      ⟨by show 2 ≤ sizeLine; decide, [.int i tk, y], .cons ⟨_, rfl⟩ (.cons ru .nil), ⟨_, hT2, rfl, _, rfl⟩⟩
    have I1 : Inv X pins σ (upd H s.heap.objs.size (.tup [.int (i : Nat), x])) { s with heap := h'', toks := tk + 1 } :=
      I.turnedNew (ch := [e, it]) (fun b ob hb q => (sb.2 b (fun z => hb (by simp [z]))).trans (hk b ob (fun z => hb (by simp [z])) (fun z => hb (by simp [z])) q)) hf (Nat.le_refl _) new
    refine ⟨.ref s.heap.objs.size, _, I1, rfl, ⟨_, x, rfl, I.hok.fresh (Nat.le_refl _), rfl, fun ys hy => by rw [I.tuple_inj hy hq]; exact hx⟩, ⟨⟨y, ?_⟩, hit'.1.at fun o q => (sb.2 it (Ne.symm hne)).trans q, hne, hea, hai⟩, fun b hb => ?_⟩
    · have e1 : ((i + 1 : Nat) : Int) = (i : Int) + 1 := by omega
      rw [e1]; exact he'
    · have hb' : b < s.heap.objs.size := by
        have e' : b = e ∨ b = it := by simpa using hb
        rcases e' with z | z
        · rw [z]; exact hel
        · rw [z]; exact hil
      rw [upd_ne (Nat.ne_of_lt hb')]
      exact (hf b hb).1
  done := by
    intro X hP hw hK hc i pins s σ H E I hf st hg
    subst hP hw hK
    obtain ⟨⟨old, he⟩, hit, hne, hea, hai⟩ := st
    obtain ⟨xs, hq, hx⟩ := hg
    obtain ⟨its, rv, p, hz⟩ := I.tuple hq
    obtain ⟨f0, f1, f2, f3, f4, f5⟩ := hf it (by simp)
    have hl := rv.length
    refine enum_end_tuple (I.ok.hd hc) he hit p (by simp; omega) fun h' eb => ⟨rfl, I.turned (t' := s.toks) (fun b o hb e => eb b o hb e) f0 f1 f3 f4 f5⟩
  self := fun A i s Q E st h => let ⟨⟨_, he⟩, _⟩ := st; wpAny_pyIter_enum he h
def iEnumT (K : PySem.W.Frag) (ta : TA) : TI := fun σ H R => ta σ H fun vs H1 => ∃ a xs, vs = [.ref a] ∧ SqT K H1 a xs ∧ R (IteT K a) H1
theorem pi_enumT {X : Cx} {e : Expr} {ta : TA} {p pos tpos : Pos} {elts : List Expr} {kk : Nat} (hg : Gl X "enumerate") (hm : X.mg "enumerate" = none) (ha : PA X [e] ta) (hs : starEach [e] X.env = [(false, eval e X.env)] := by rfl) :
    PI X (.Tuple elts kk tpos) (.Call (.Name "enumerate" p) [e] [] pos) (iEnumT X.K ta) := by
  refine ⟨fun pins s σ H R I h => ?_⟩
  refine Call_ (ld_blt I hg hm boot_enumerate (PyProof.Rows.callWith_type1 (thn (ha.run pos pins s σ H _ I h) fun us s1 ⟨vs, H1, I1, r1, q1⟩ => ?_) hs rfl))
  obtain ⟨a, xs, ex, hq, q⟩ := q1
  subst ex
  cases r1 with
  | cons r rr =>
    cases rr
    cases r
    obtain ⟨its, rv, p', hz⟩ := I1.tuple hq
    have hal : a < s1.heap.objs.size := by obtain ⟨_, q, _⟩ := p'; exact Heap.lt_size q
    refine enum_begins1 (begins_tuple a its.toArray) p' fun h' he hit hsz hk => wpAny_pyIter_enum he ?_
    have I2 : Inv X pins σ H1 { s1 with heap := h' } := I1.kept (t' := s1.toks) hk
    refine ⟨s1.heap.objs.size + 1, [s1.heap.objs.size + 1, s1.heap.objs.size], _, _, H1, rfl, I2, turn_enumT a (s1.heap.objs.size + 1) s1.heap.objs.size, ⟨⟨.none, he⟩, ⟨_, hit, rfl, rfl⟩, Nat.succ_ne_self _, fun z => ?_, Nat.ne_of_lt hal⟩, fun b hb => ?_, q⟩
    · rw [← z] at hal
      exact absurd hal (Nat.not_lt.mpr (Nat.le_succ _))
    · have e' : b = s1.heap.objs.size + 1 ∨ b = s1.heap.objs.size := by simpa using hb
      have hle : s1.heap.objs.size ≤ b := by
        rcases e' with z | z
        · rw [z]; exact Nat.le_add_right _ _
        · rw [z]; exact Nat.le_refl _
      exact I1.fpOk hle (I1.hok.fresh hle)
theorem walk_enumT {K : PySem.W.Frag} {a : Addr} {xs : List V} : Walk (IteT K a) xs.length (fun H => SqT K H a xs) (YPair (fun i => some (.int (i : Nat))) (fun i => xs[i]?)) :=
  ⟨fun i _ hi q => ⟨xs, xs[i], q, by simp [hi]⟩, fun _ q => ⟨xs, q, Nat.le_refl _⟩, fun i H v H' _ q y => by
    obtain ⟨T, x, e1, e2, e3, h⟩ := y
    exact ⟨T, _, x, e1, e2, e3, rfl, h xs q⟩⟩
def dEnumT (da : DA) : DI := fun E R => da E fun ds E1 => ∃ es, ds = [.tuple es] ∧ R ⟨es.length, fun k x => ∃ d, es[k]? = some d ∧ x = .tuple [.int (k : Int), d]⟩ E1
theorem ri_enumT {C : Ct} {K : PySem.W.Frag} {ta : TA} {da : DA} (ha : RfA C ta da) : RfI C (iEnumT K ta) (dEnumT da) := fun W H σ E Q R Re h k => ha W H σ E _ _ Re h fun vs ds H1 E1 R1 g1 f1 ⟨es, e, r⟩ => by
  subst e
  cases f1 with
  | cons f0 f1 =>
    cases f1
    cases f0 with
    | @tup a xs _ hp l =>
      have hl := l.len
      refine ⟨a, xs, rfl, .of hp, k _ _ H1 E1 R1 g1 ⟨_, _, hl ▸ walk_enumT (xs := xs), fun H' g => .of (g _ _ hp (.inl ⟨_, rfl⟩)), fun N' H' m x H'' kp hm y => ?_⟩ r⟩
      obtain ⟨v, hv, fv⟩ := (l.keep kp).get (List.getElem?_eq_getElem hm)
      obtain ⟨s, fp⟩ := pair_ok y rfl hv (.int (m : Int)) fv
      exact ⟨s, _, ⟨_, List.getElem?_eq_getElem hm, rfl⟩, fp⟩
theorem z_enumT {E : DEnv} {dl : DA} {RI : DIt → DEnv → Prop} (h : dl E fun ds E1 => ∃ es, ds = [.tuple es] ∧ RI ⟨es.length, fun k x => ∃ d, es[k]? = some d ∧ x = .tuple [.int (k : Int), d]⟩ E1) : dEnumT dl E RI := h
/-! ### d.get(k), d a written dict -/
def dDGet1V (i : Nat) (dy : DE) : DE := fun E R => ∃ m0, E[i]? = some (some (dicD m0)) ∧ dy E fun y E2 => ∃ k m, y = kD k ∧ E2[i]? = some (some (dicD m)) ∧ R ((valD m k).getD .none) E2
theorem rf_dget1V {C : Ct} {ty : TE} {dy : DE} {i : Nat} (hO : C.O i = true) (hy : RfE C ty dy) : RfE C (tDGet1 (tVar i) ty) (dDGet1V i dy) := fun W H σ E Q R Re ⟨m0, h0, r1⟩ k => by
  obtain ⟨a, h1, _, o, _⟩ := Re.own hO h0
  obtain ⟨kvs, ha, _⟩ := o.dic
  refine ⟨.ref a, h1, a, rfl, .inl ⟨kvs, .inl ha⟩, hy W H σ E _ _ Re r1 fun y ky H2 E2 R2 g2 f2 ⟨kk, m, e1, e2, r3⟩ => ?_⟩
  subst e1
  obtain rfl := kV_fz f2
  obtain ⟨b, h3, _, o2, _⟩ := R2.own hO e2
  rw [h1] at h3
  cases h3
  obtain ⟨kvs2, hb, l⟩ := o2.dic
  refine ⟨_, .inl ⟨_, kk, .inl hb, rfl, rfl⟩, ?_⟩
  rcases l.val (k := kk) with ⟨q1, q2⟩ | ⟨w, e, q1, q2, fw⟩
  · rw [q1]
    rw [q2] at r3
    exact k _ _ H2 E2 R2 g2 .non r3
  · rw [q1]
    rw [q2] at r3
    exact k _ _ H2 E2 R2 g2 fw r3
theorem z_dget1V {E : DEnv} {R : Dat → DEnv → Prop} {dy : DE} {i : Nat} {m0 : List (Key × Dat)} (hv : E[i]? = some (some (dicD m0))) (h : dy E fun y E2 => ∃ k m, y = kD k ∧ E2[i]? = some (some (dicD m)) ∧ R ((valD m k).getD .none) E2) : dDGet1V i dy E R := ⟨m0, hv, h⟩
/-! ### a slot let go in a def that may raise -/
theorem rf_relMX {mg : Str → Option Value} {dy : Dy} {S : Sx} {i : Nat} {t : TS} {d : DS} {Wout : WX} {Xo : DX} (hO : S.O i = true) (hM : S.M ≠ some i ∧ S.M2 ≠ some i) (hx : XOk mg ⟨dy, S⟩ Wout Xo) (h : XOk mg ⟨dy, S.rel i⟩ Wout (fun e E => Xo e (E.set i none)) → RfS ⟨dy, S.rel i⟩ t d) : RfS ⟨dy, S⟩ (tRelM i t) (dRel i d) := by
  have hx' : XOk mg ⟨dy, S.rel i⟩ Wout (fun e E => Xo e (E.set i none)) := fun W H σ E e cls d R he q => hx W H σ _ e cls d (rel_back R) he q
  exact rf_rel1 hO hM (h hx')
end En
namespace Dl
open PySem PySem.Spec PyProof.Rows L2 Ss Xm
/-! ### except clauses that set a name first -/
def RfY (p : Bool → L2.St → Prop) (mg : Str → Option Value) (a : Addr) (cls : Value) (d : Option Addr) (te : TE) (fx : Bool → XF) : Prop := ∀ (b : Bool) (σ : L2.St) (H : Hp) (Q : VK) (e : Er) (R : Dat → Prop), p b σ → ErrAt mg H e cls d → fx b e R → (∀ v x H', Same H H' → (∀ N, Fz N H' v x) → R x → Q v H') → te σ H Q
def RfYA (p : Bool → L2.St → Prop) (mg : Str → Option Value) (a : Addr) (cls : Value) (d : Option Addr) (ta : TA) (fx : Bool → Er → (List Dat → Prop) → Prop) : Prop := ∀ (b : Bool) (σ : L2.St) (H : Hp) (Q : List V → Hp → Prop) (e : Er) (R : List Dat → Prop), p b σ → ErrAt mg H e cls d → fx b e R → (∀ v x H', Same H H' → (∀ N, FzL N H' v x) → R x → Q v H') → ta σ H Q
section
variable {mg : Str → Option Value} {i j : Nat} {a : Addr} {cls : Value} {d : Option Addr} {K : PySem.W.Frag} {p : Bool → L2.St → Prop}
theorem ry_str {x : Str} : RfY p mg a cls d (tC (.str x)) (fun _ => xC (.str x)) := fun b σ H Q e R _ _ r k => k _ _ H (Same.refl H) (fun _ => .str x) r
theorem ry_int {x : Int} : RfY p mg a cls d (tC (.int x)) (fun _ => xC (.int x)) := fun b σ H Q e R _ _ r k => k _ _ H (Same.refl H) (fun _ => .int x) r
theorem ry_bl {x : Bool} : RfY p mg a cls d (tC (.bl x)) (fun _ => xC (.bool x)) := fun b σ H Q e R _ _ r k => k _ _ H (Same.refl H) (fun _ => .bl x) r
theorem ry_fld {n f : Str} (hp : ∀ b σ, p b σ → σ[i]? = some (some (.ref a))) : RfY p mg a cls d (tXf a cls d (clA mg n) f (tVar i)) (fun _ => xFld n f) := fun b σ H Q e R hi he r k => rx_fld (i := i) σ H Q e R (hp b σ hi) he r k
theorem ry_is {c : V} {cv : Value} (hp : ∀ b σ, p b σ → σ[i]? = some (some (.ref a))) (hc : ∀ u, RelV c u → u = cv) : RfY p mg a cls d (tCB (rIsX K cls a d) (tCons (tVar i) (tCons (tC c) tNil))) (fun _ => xIs K mg cv) := fun b σ H Q e R hi he r k => rx_is (i := i) hc σ H Q e R (hp b σ hi) he r k
theorem ry_and {ta tb : TE} {f g : Bool → XF} (ha : RfY p mg a cls d ta f) (hb : RfY p mg a cls d tb g) : RfY p mg a cls d (tAndV ta tb) (fun b => xAnd (f b) (g b)) := fun b σ H Q e R hi he r k =>
  ha b σ H _ e _ hi he r fun v x H1 s1 f1 ⟨c, ex, r1⟩ => by
    subst ex
    have f0 := f1 fun _ => False
    cases f0
    refine ⟨c, rfl, ?_⟩
    cases c with
    | true => exact hb b σ H1 Q e R hi (he.same s1) r1 fun v x H2 s2 f2 r2 => k v x H2 (Same.trans s1 s2) f2 r2
    | false => exact k _ _ H1 s1 (fun _ => .bl false) r1
theorem ry_not {ta : TE} {f : Bool → XF} (ha : RfY p mg a cls d ta f) : RfY p mg a cls d (tNotV ta) (fun b => xNot (f b)) := fun b σ H Q e R hi he r k =>
  ha b σ H _ e _ hi he r fun v x H1 s1 f1 ⟨c, ex, r1⟩ => by
    subst ex
    have f0 := f1 fun _ => False
    cases f0
    exact ⟨c, rfl, k _ _ H1 s1 (fun _ => .bl _) r1⟩
theorem ry_nil : RfYA p mg a cls d tNil (fun _ => xNil) := fun b σ H Q e R hi he r k => k [] [] H (Same.refl H) (fun _ => .nil) r
theorem ry_cons {ta : TE} {tr : TA} {f : Bool → XF} {g : Bool → Er → (List Dat → Prop) → Prop} (ha : RfY p mg a cls d ta f) (hr : RfYA p mg a cls d tr g) : RfYA p mg a cls d (tCons ta tr) (fun b => xCons (f b) (g b)) := fun b σ H Q e R hi he r k =>
  ha b σ H _ e _ hi he r fun v x H1 s1 f1 r1 => hr b σ H1 _ e _ hi (he.same s1) r1 fun vs xs H2 s2 f2 r2 => k _ _ H2 (Same.trans s1 s2) (fun N => .cons ((f1 N).keep (Kp.same s2)) (f2 N)) r2
theorem ry_tup {ta : TA} {g : Bool → Er → (List Dat → Prop) → Prop} (ha : RfYA p mg a cls d ta g) : RfY p mg a cls d (tTup ta) (fun b => xTup (g b)) := fun b σ H Q e R hi he r k =>
  ha b σ H _ e _ hi he r fun vs xs H1 s1 f1 ⟨hl, r1⟩ => ⟨by rw [(f1 fun _ => False).len]; exact hl, fun p np => by
    have s := same_new (o := .tup vs) np
    exact k (.ref p) (.tuple xs) _ (Same.trans s1 s) (fun N => .tup upd_same ((f1 N).keep (Kp.same s))) r1⟩
/-- the name that was set -/
theorem ry_var (hp : ∀ b σ, p b σ → σ[j]? = some (some (.bl b))) : RfY p mg a cls d (tVar j) (fun b => xC (.bool b)) := fun b σ H Q e R hi he r k => ⟨.bl b, hp b σ hi, k _ _ H (Same.refl H) (fun _ => .bl b) r⟩
def RfSuL (m : Nat) (mg : Str → Option Value) (i : Nat) (ts : Addr → Value → Option Addr → TS) (fx : XF) : Prop := ∀ (a : Addr) (cls : Value) (d : Option Addr) (D : Ends) (σ : L2.St) (H : Hp) (e : Er) (R : Dat → Prop), m < σ.length → σ[i]? = some (some (.ref a)) → ErrAt mg H e cls d → fx e R → (∀ v x H', Same H H' → (∀ N, Fz N H' v x) → R x → D.rt v H') → ts a cls d D σ H
theorem RfSu.toL {m : Nat} {ts : Addr → Value → Option Addr → TS} {fx : XF} (h : RfSu mg i ts fx) : RfSuL m mg i ts fx := fun a cls d D σ H e R _ => h a cls d D σ H e R
def xLet (f : XF) (g : Bool → XF) : XF := fun e R => f e fun x => ∃ b, x = .bool b ∧ g b e R
def pLet (i : Nat) (a : Addr) (j : Nat) (b : Bool) : L2.St → Prop := fun σ => σ[i]? = some (some (.ref a)) ∧ σ[j]? = some (some (.bl b))
theorem rx_let {m : Nat} {te t2 : Addr → Value → Option Addr → TE} {f : XF} {g : Bool → XF} (hm : j ≤ m) (hij : i ≠ j) (h : ∀ a cls d, RfX mg i a cls d (te a cls d) f) (h2 : ∀ a cls d, RfY (pLet i a j) mg a cls d (t2 a cls d) g) : RfSuL m mg i (fun a cls d => tSeq (tAsg (te a cls d) (gName j)) (tRet (t2 a cls d))) (xLet f g) := fun a cls d D σ H e R hl hi he r k => by
  refine h a cls d σ H _ e _ hi he r fun v x H1 s1 f1 ⟨b, ex, r1⟩ => ?_
  subst ex
  have f0 := f1 fun _ => False
  cases f0
  have hl' : j < σ.length := Nat.lt_of_le_of_lt hm hl
  exact h2 a cls d b (σ.set j (some (.bl b))) H1 _ e R ⟨(List.getElem?_set_ne (fun z => hij z.symm)).trans hi, List.getElem?_set_self hl'⟩ (he.same s1) r1 fun v x H2 s2 f2 r2 => k v x H2 (Same.trans s1 s2) f2 r2
inductive HsOkL (m : Nat) (mg : Str → Option Value) (i : Nat) : List (Value × (Addr → Value → Option Addr → TS)) → List (Str × XF) → Prop
  | nil : HsOkL m mg i [] []
  | cons {n : Str} {ts : Addr → Value → Option Addr → TS} {fx : XF} {l : List (Value × (Addr → Value → Option Addr → TS))} {hl : List (Str × XF)} (h : RfSuL m mg i ts fx) (r : HsOkL m mg i l hl) : HsOkL m mg i ((.ref (clA mg n), ts) :: l) ((n, fx) :: hl)
def dTryL (m : Nat) (K : PySem.W.Frag) (mg : Str → Option Value) (i : Nat) (db : DX → DS) (hl : List (Str × XF)) (Xo : DX) : DS := fun DD E => db (fun e E1 => max m i < E1.length ∧ pickD K mg hl e (fun r => DD.rt r E1) (Xo e E1)) DD E
theorem pick_runL {S : Sx} {dy : Dy} {Wout : WX} {Xo : DX} {W0 : Ow} {H0 : Hp} {B : Ends} {DD : DEnds} {m : Nat} (hfr : S.fr = false) (hx : XOk mg ⟨dy, S⟩ Wout Xo) (c : Cn ⟨dy, S⟩ W0 H0 DD B) {W : Ow} {H : Hp} {σ : L2.St} {E : DEnv} {e : Er} (R : Rep ⟨dy, S⟩ W H σ E) (g : Gr W0 H0 W H) (hi : max m i < σ.length) (he : ErrAt mg H e cls d) :
    ∀ {l : List (Value × (Addr → Value → Option Addr → TS))} {hl : List (Str × XF)}, HsOkL m mg i l hl → pickD K mg hl e (fun r => DD.rt r E) (Xo e E) → wManyAs K i Wout B l cls d σ H
  | _, _, .nil, h => hx W H σ E e cls d R he h
  | _, _, .cons (n := n) hs r, ⟨b, hb, h⟩ => by
    refine ⟨b, by rw [he.1]; exact hb, fun z a ha => ?_, fun z => ?_⟩
    · rw [if_pos z] at h
      refine hs a cls d _ _ H e _ (by rw [List.length_set]; omega) (List.getElem?_set_self (by omega)) he h fun v x H' s f q => ?_
      refine c.rt W H' σ E v x (R.same s) (g.trans (Gr.same s)) ?_ q
      unfold RtOk
      rw [if_neg (show ¬ S.fr = true by rw [hfr]; exact Bool.false_ne_true)]
      exact f _
    · rw [if_neg (by rw [z]; exact Bool.false_ne_true)] at h
      exact pick_runL hfr hx c R g hi he r h
theorem rf_tryL {S : Sx} {dy : Dy} {Wout : WX} {Xo : DX} {tb : WX → TS} {db : DX → DS} {l : List (Value × (Addr → Value → Option Addr → TS))} {hl : List (Str × XF)} {m : Nat} (hfr : S.fr = false) (hx : XOk mg ⟨dy, S⟩ Wout Xo) (hh : HsOkL m mg i l hl)
    (hb : ∀ (dy : Dy) (Wx : WX) (Xc : DX), XOk mg ⟨dy, S⟩ Wx Xc → RfS ⟨dy, S⟩ (tb Wx) (db Xc)) : RfS ⟨dy, S⟩ (tTryAs K i Wout l tb) (dTryL m K mg i db hl Xo) := fun n0 W H σ E B DD R h c => by
  have R' : Rep ⟨{ dy with Wb := W, Hb := H }, S⟩ W H σ E := ⟨R.out, R.w, R.ld, R.slot, R.inj, R.len, Gr.refl W H⟩
  have back : ∀ {W1 : Ow} {H1 : Hp} {σ1 : L2.St} {E1 : DEnv}, Rep ⟨{ dy with Wb := W, Hb := H }, S⟩ W1 H1 σ1 E1 → Rep ⟨dy, S⟩ W1 H1 σ1 E1 ∧ Gr W H W1 H1 := fun R1 => ⟨⟨R1.out, R1.w, R1.ld, R1.slot, R1.inj, R1.len, R.gb.trans R1.gb⟩, R1.gb⟩
  refine hb { dy with Wb := W, Hb := H } (wManyAs K i Wout B l) _ (fun W1 H1 σ1 E1 e cls d R1 he q => ?_) n0 W H σ E B DD R' h ⟨fun W' H' σ' E' Rx g n => c.nx W' H' σ' E' (back Rx).1 g n, fun W' H' σ' E' v x Rx g o n => c.rt W' H' σ' E' v x (back Rx).1 g o n, fun W' H' σ' E' Rx g n => c.bk W' H' σ' E' (back Rx).1 g n, fun W' H' σ' E' Rx g n => c.ct W' H' σ' E' (back Rx).1 g n⟩
  exact pick_runL hfr hx c (back R1).1 (back R1).2 (R1.len.symm ▸ q.1) he hh q.2
theorem z_tryL {E : DEnv} {DD : DEnds} {m : Nat} {db : DX → DS} {hl : List (Str × XF)} {Xo : DX} (h : db (fun e E1 => max m i < E1.length ∧ pickD K mg hl e (fun r => DD.rt r E1) (Xo e E1)) DD E) : dTryL m K mg i db hl Xo DD E := h
theorem x_let {Q : Dat → Prop} {f : XF} {g : Bool → XF} {e : Er} (h : f e fun x => ∃ b, x = .bool b ∧ g b e Q) : xLet f g e Q := h
end
end Dl
namespace Dl
open PySem PySem.Spec PyProof.Rows L2 Ss
/-! ### plain data: ints, texts, tuples of these -/
inductive Pk : PyData → Prop
  | int (i : Int) : Pk (.int i)
  | str (x : Str) (h : PyData.strOk x = true) : Pk (.str x)
  | tup (ds : List PyData) (h : ∀ d ∈ ds, Pk d) : Pk (.tuple ds)
mutual
theorem pk_lay : ∀ d : PyData, Pk d → d.canLay0 = true
  | .int i, _ => rfl
  | .str x, h => by
    cases h with
    | str _ h => exact h
  | .tuple ds, h => by
    cases h with
    | tup _ h => exact pk_layAll ds h
  | .none, h => nomatch h
  | .bool _, h => nomatch h
  | .list _, h => nomatch h
  | .dict _, h => nomatch h
theorem pk_layAll : ∀ ds : List PyData, (∀ d ∈ ds, Pk d) → PyData.canLayAll0 ds = true
  | [], _ => rfl
  | d :: r, h => by
    unfold PyData.canLayAll0
    rw [pk_lay d (h d (List.mem_cons_self ..)), pk_layAll r fun e he => h e (List.mem_cons_of_mem _ he)]
    rfl
end
mutual
theorem pk_eqv : ∀ d e : PyData, Pk d → Pk e → (PyData.eqv d e = true ↔ d = e)
  | .int i, .int j, _, _ => by
    show (i == j) = true ↔ _
    rw [beq_iff_eq]
    exact ⟨congrArg _, fun h => PyData.int.inj h⟩
  | .str x, .str y, _, _ => by
    show (x == y) = true ↔ _
    rw [beq_iff_eq]
    exact ⟨congrArg _, fun h => PyData.str.inj h⟩
  | .tuple ds, .tuple es, h, g => by
    show PyData.eqvAll ds es = true ↔ _
    have hd : ∀ d ∈ ds, Pk d := by cases h with | tup _ h => exact h
    have he : ∀ d ∈ es, Pk d := by cases g with | tup _ h => exact h
    rw [pk_eqvAll ds es hd he]
    exact ⟨congrArg _, fun h => PyData.tuple.inj h⟩
  | .int _, .str _, _, _ => ⟨fun h => (Bool.false_ne_true h).elim, fun h => nomatch h⟩
  | .int _, .tuple _, _, _ => ⟨fun h => (Bool.false_ne_true h).elim, fun h => nomatch h⟩
  | .str _, .int _, _, _ => ⟨fun h => (Bool.false_ne_true h).elim, fun h => nomatch h⟩
  | .str _, .tuple _, _, _ => ⟨fun h => (Bool.false_ne_true h).elim, fun h => nomatch h⟩
  | .tuple _, .int _, _, _ => ⟨fun h => (Bool.false_ne_true h).elim, fun h => nomatch h⟩
  | .tuple _, .str _, _, _ => ⟨fun h => (Bool.false_ne_true h).elim, fun h => nomatch h⟩
  | .none, _, h, _ => nomatch h
  | .bool _, _, h, _ => nomatch h
  | .list _, _, h, _ => nomatch h
  | .dict _, _, h, _ => nomatch h
  | .int _, .none, _, h => nomatch h
  | .int _, .bool _, _, h => nomatch h
  | .int _, .list _, _, h => nomatch h
  | .int _, .dict _, _, h => nomatch h
  | .str _, .none, _, h => nomatch h
  | .str _, .bool _, _, h => nomatch h
  | .str _, .list _, _, h => nomatch h
  | .str _, .dict _, _, h => nomatch h
  | .tuple _, .none, _, h => nomatch h
  | .tuple _, .bool _, _, h => nomatch h
  | .tuple _, .list _, _, h => nomatch h
  | .tuple _, .dict _, _, h => nomatch h
theorem pk_eqvAll : ∀ ds es : List PyData, (∀ d ∈ ds, Pk d) → (∀ d ∈ es, Pk d) → (PyData.eqvAll ds es = true ↔ ds = es)
  | [], [], _, _ => ⟨fun _ => rfl, fun _ => rfl⟩
  | [], _ :: _, _, _ => ⟨fun h => (Bool.false_ne_true h).elim, fun h => nomatch h⟩
  | _ :: _, [], _, _ => ⟨fun h => (Bool.false_ne_true h).elim, fun h => nomatch h⟩
  | d :: ds, e :: es, h, g => by
    show (PyData.eqv d e && PyData.eqvAll ds es) = true ↔ _
    rw [Bool.and_eq_true, pk_eqv d e (h d (List.mem_cons_self ..)) (g e (List.mem_cons_self ..)), pk_eqvAll ds es (fun x hx => h x (List.mem_cons_of_mem _ hx)) (fun x hx => g x (List.mem_cons_of_mem _ hx))]
    exact ⟨fun z => by rw [z.1, z.2], fun z => List.cons.inj z⟩
end
mutual
theorem dep_dp0 : ∀ (d : PyData) (n : Nat), Dep n d → d.depth ≤ n
  | .none, n, _ => Nat.zero_le _
  | .bool _, n, _ => Nat.zero_le _
  | .int _, n, _ => Nat.zero_le _
  | .str _, n, _ => Nat.zero_le _
  | .tuple ds, n, h => by
    cases h with
    | tup hl h =>
      have := dep_dp0All ds _ h
      show PyData.depthAll ds + 1 ≤ _
      omega
  | .list _, n, h => nomatch h
  | .dict _, n, h => nomatch h
theorem dep_dp0All : ∀ (ds : List PyData) (n : Nat), (∀ d ∈ ds, Dep n d) → PyData.depthAll ds ≤ n
  | [], n, _ => Nat.zero_le _
  | d :: r, n, h => by
    show max d.depth (PyData.depthAll r) ≤ n
    have h1 := dep_dp0 d n (h d (List.mem_cons_self ..))
    have h2 := dep_dp0All r n fun e he => h e (List.mem_cons_of_mem _ he)
    omega
end
theorem pk_shaped {d : PyData} {n : Nat} (h : Pk d) (g : Dep n d) (hn : n ≤ 64) : SeqAt.shaped d = true := by
  unfold SeqAt.shaped
  rw [pk_lay d h, Bool.true_and]
  have := dep_dp0 d n g
  exact decide_eq_true (by omega)

/-- == of plain data -/
theorem z_eqP {x y : Dat} {n m : Nat} {Q : Dat → Prop} (px : Pk x) (py : Pk y) (dx : Dep n x) (dy : Dep m y) (hn : n ≤ 64) (hm : m ≤ 64) (k : ∀ b : Bool, (b = true ↔ x = y) → Q (.bool b)) : oEq x y Q := z_eqD (pk_shaped px dx hn) (pk_shaped py dy hm) (k _ (pk_eqv x y px py))
theorem z_neP {x y : Dat} {n m : Nat} {Q : Dat → Prop} (px : Pk x) (py : Pk y) (dx : Dep n x) (dy : Dep m y) (hn : n ≤ 64) (hm : m ≤ 64) (k : ∀ b : Bool, (b = true ↔ x ≠ y) → Q (.bool b)) : oNe x y Q := z_neD (pk_shaped px dx hn) (pk_shaped py dy hm) (k _ (by
  have := pk_eqv x y px py
  cases e : PyData.eqv x y with
  | true => exact ⟨fun z => absurd z (by decide), fun z => absurd (this.mp e) z⟩
  | false => exact ⟨fun _ z => by rw [this.mpr z] at e; exact absurd e (by decide), fun _ => rfl⟩))
theorem pk_tup2 {a b : Dat} (ha : Pk a) (hb : Pk b) : Pk (.tuple [a, b]) := .tup _ (List.forall_mem_cons.mpr ⟨ha, List.forall_mem_cons.mpr ⟨hb, fun _ h => absurd h List.not_mem_nil⟩⟩)
theorem pk_tup3 {a b c : Dat} (ha : Pk a) (hb : Pk b) (hc : Pk c) : Pk (.tuple [a, b, c]) := .tup _ (List.forall_mem_cons.mpr ⟨ha, List.forall_mem_cons.mpr ⟨hb, List.forall_mem_cons.mpr ⟨hc, fun _ h => absurd h List.not_mem_nil⟩⟩⟩)
theorem pk_tup4 {a b c d : Dat} (ha : Pk a) (hb : Pk b) (hc : Pk c) (hd : Pk d) : Pk (.tuple [a, b, c, d]) := .tup _ (List.forall_mem_cons.mpr ⟨ha, List.forall_mem_cons.mpr ⟨hb, List.forall_mem_cons.mpr ⟨hc, List.forall_mem_cons.mpr ⟨hd, fun _ h => absurd h List.not_mem_nil⟩⟩⟩⟩)
theorem z_whileK {E : DEnv} {DD : DEnds} {a : DS} {dt : DT} (Rj : DEnv → Prop) (h2 : ∀ E, Rj E → DD.nx E) (h : ∀ nx : DEnv → Prop, (∀ E, Rj E → nx E) → dWhile dt a { DD with nx := nx } E) : dWhile dt a DD E := h DD.nx h2
end Dl
namespace Dl
open PySem PySem.Spec PyProof.Rows L2 Ss
/-! ### slices of texts -/
def oSlS : Dat → Option Int → Option Int → (Dat → Prop) → Prop := fun a lo hi R => ∃ z, a = .str z ∧ z.length ≤ sizeLine ∧ R (.str (cutS z lo hi))
theorem rfs_str : RfS1 rSlS oSlS := fun N H x a lo hi Q R hx ⟨z, ea, hz, r⟩ k => by
  subst ea
  exact ⟨z, hx.str, hz, k _ _ H (Same.refl H) (.str _) r⟩
theorem z_slS {z : Str} {lo hi : Option Int} {Q : Dat → Prop} (hz : z.length ≤ sizeLine) (h : Q (.str (cutS z lo hi))) : oSlS (.str z) lo hi Q := ⟨z, rfl, hz, h⟩
end Dl
namespace Dl
open PySem PySem.Spec PyProof.Rows L2 Ss
/-! ### zip of two tuples -/
theorem walk_zipT {K : PySem.W.Frag} {a b : Addr} {xs ys : List V} {n : Nat} (hn : n = min xs.length ys.length) : Walk (RZ.ItzT K a b) n (fun H => SqT K H a xs ∧ SqT K H b ys) (YPair (fun i => xs[i]?) (fun i => ys[i]?)) := by
  subst hn
  refine ⟨fun i H hi q => ?_, fun H q => ⟨xs, ys, q.1, q.2, by omega⟩, fun i H v H' hi q y => ?_⟩
  · have h1 : i < xs.length := by omega
    have h2 : i < ys.length := by omega
    exact ⟨xs, ys, xs[i], ys[i], q.1, q.2, List.getElem?_eq_getElem h1, List.getElem?_eq_getElem h2⟩
  · obtain ⟨T, x, y, e1, e2, e3, h1, h2⟩ := y
    exact ⟨T, x, y, e1, e2, e3, h1 xs q.1, h2 ys q.2⟩
def dZipT (da : DA) : DI := fun E R => da E fun ds E1 => ∃ as bs, ds = [.tuple as, .tuple bs] ∧ R ⟨min as.length bs.length, fun k x => ∃ a b, as[k]? = some a ∧ bs[k]? = some b ∧ x = .tuple [a, b]⟩ E1
theorem ri_zipT {C : Ct} {K : PySem.W.Frag} {ta : TA} {da : DA} (ha : RfA C ta da) : RfI C (RZ.iZipA K ta) (dZipT da) := fun W H σ E Q R Re h k => ha W H σ E _ _ Re h fun vs ds H1 E1 R1 g1 f1 ⟨as, bs, e, r⟩ => by
  subst e
  cases f1 with
  | cons f0 f1 =>
    cases f1 with
    | cons f2 f1 =>
    cases f1
    cases f0 with
    | @tup a xs _ hp l =>
      cases f2 with
      | @tup b ys _ hq l2 =>
      have hl := l.len
      have hl2 := l2.len
      refine ⟨a, b, xs, ys, rfl, .inr ⟨.of hp, .of hq, k _ _ H1 E1 R1 g1 ⟨_, _, walk_zipT (xs := xs) (ys := ys) (n := min as.length bs.length) (by rw [hl, hl2]), fun H' g => ⟨.of (g _ _ hp (.inl ⟨_, rfl⟩)), .of (g _ _ hq (.inl ⟨_, rfl⟩))⟩, fun N' H' m x H'' kp hm y => ?_⟩ r⟩⟩
      have hm1 : m < as.length := Nat.lt_of_lt_of_le hm (Nat.min_le_left _ _)
      have hm2 : m < bs.length := Nat.lt_of_lt_of_le hm (Nat.min_le_right _ _)
      obtain ⟨v, hv, fv⟩ := (l.keep kp).get (List.getElem?_eq_getElem hm1)
      obtain ⟨w, hw, fw⟩ := (l2.keep kp).get (List.getElem?_eq_getElem hm2)
      obtain ⟨s, fp⟩ := pair_ok y hv hw fv fw
      exact ⟨s, _, ⟨_, _, List.getElem?_eq_getElem hm1, List.getElem?_eq_getElem hm2, rfl⟩, fp⟩
theorem z_zipT {E : DEnv} {dl : DA} {RI : DIt → DEnv → Prop} (h : dl E fun ds E1 => ∃ as bs, ds = [.tuple as, .tuple bs] ∧ RI ⟨min as.length bs.length, fun k x => ∃ a b, as[k]? = some a ∧ bs[k]? = some b ∧ x = .tuple [a, b]⟩ E1) : dZipT dl E RI := h
theorem z_zip {E : DEnv} {dl : DA} {RI : DIt → DEnv → Prop} (h : dl E fun ds E1 => ∃ as bs, ds = [.list as, .list bs] ∧ RI ⟨min as.length bs.length, fun k x => ∃ a b, as[k]? = some a ∧ bs[k]? = some b ∧ x = .tuple [a, b]⟩ E1) : dZip dl E RI := h
end Dl
namespace Lr
open PySem PySem.Spec PyProof.Rows RT
/-! ### list(reversed(x)), x a list -/
section
variable {prog : Program} {w : World} {A : Around} {s : Shared}
theorem extend_rev {R : Result → Shared → Prop} {it l S : Addr} {res : Value} {items : Array Value} (hh : A.in1.handled = none) (hit : s.heap.IsRevIter it l ((items.size : Int) - 1)) (hl : s.heap.IsList l items) (hne : l ≠ it) (hn : items.size ≤ sizeLine) (hSi : S ≠ it) (hSl : S ≠ l)
    (hS : s.heap.get? S = some { cls := .type "list", data := .seq #[] })
    (hR : ∀ (h' : Heap) (tk : Nat) (acc : Array Value) (c : Nat), (∀ b o, b ≠ it → b ≠ S → s.heap.get? b = some o → h'.get? b = some o) → h'.get? S = some { cls := .type "list", dict := none, data := .seq acc c, slots := #[] } → ItemsOf (fun i v => items[items.size - 1 - i]? = some v) acc items.size → R (.ok (.ret res)) { s with heap := h', toks := tk }) :
    wpAny (model prog w) A.in1 (Builtin.List.listExtendWith (.ref S) (.ref it) res)
      (fun fin s' => match fin with | .done f => R (.ok f) s' | .again c' => c'.quiet = true ∧ codeAny (model prog w) A c' R s') (fun e s' => R (.error e) s') s := by
  have W := (Walks.listRev (prog := prog) (w := w) (A := A.in1) hh it l hne items).toS
  have hSf : S ∉ [it, l] := by simp only [List.mem_cons, List.not_mem_nil, or_false, not_or]; exact ⟨hSi, hSl⟩
  have hT : s.TypeIs (.ref it) "list_reverseiterator" := Heap.IsRevIter.typeIs (s := s) hit
  have h1 : Builtin.List.listSameRef (.ref S) (.ref it) = false := by simp [Builtin.List.listSameRef, hSi]
  unfold Builtin.List.listExtendWith
  refine wpAny_bind (wpAny_typeOf hT ?_)
  rw [if_neg (by rw [h1]; decide)]
  refine wpAny_bind (wpAny_pyIter_revIter (s := s) hit ?_)
  refine wpAny_bind (wpAny_holding ?_)
  unfold Builtin.List.listLengthHint
  refine wpAny_bind (wpAny_specialOf hT nolen_lri ?_)
  show wpAny _ A.in1 (specialOf (Value.ref it) (Str.ofString "__length_hint__") >>= _) _ _ _
  refine wpAny_bind (wpAny_specialOf hT hint_lri ?_)
  generalize hid : ("list_reverseiterator.__length_hint__" : String) = id0
  wp_delta
  rw [show splitId id0 = some ("list_reverseiterator", "__length_hint__") from by subst hid; decide +kernel]
  subst hid
  refine wpAny_bind (wpAny_isInstance (b := true) hT (by rw [isSubtype_type]; kernel_rfl) ?_)
  refine wpAny_pure ?_
  rw [if_neg (by decide)]
  have e0 : ((items.size : Nat) : Int) - 1 - ((0 : Nat) : Int) = (items.size : Int) - 1 := by omega
  refine wpAny_pure ⟨plainId_quiet F.plain_extend_loop _, codeAny_extend_loopS W hn _ hSf _ items.size 0 _ _ _ rfl (Nat.zero_le _) ⟨Nat.zero_le _, by rw [e0]; exact hit, hl⟩ hS (ItemsOf.nil _) fun s' acc' c' hm hS' hacc => ?_⟩
  rw [Moved.eq_with hm]
  refine hR s'.heap s'.toks acc' c' (fun b o hb hb2 e => hm.heap b o (fun hmem => ?_) e) hS' hacc
  rcases List.mem_cons.mp hmem with e' | hmem
  · exact hb2 e'
  · exact hb (List.mem_singleton.mp hmem)
theorem list_init_rev {R : Result → Shared → Prop} {it l S : Addr} {items : Array Value} (hh : A.in1.handled = none) (hit : s.heap.IsRevIter it l ((items.size : Int) - 1)) (hl : s.heap.IsList l items) (hne : l ≠ it) (hn : items.size ≤ sizeLine) (hSi : S ≠ it) (hSl : S ≠ l)
    (hS : s.heap.get? S = some { cls := .type "list", data := .seq #[] })
    (hR : ∀ (h' : Heap) (tk : Nat) (acc : Array Value) (c : Nat), (∀ b o, b ≠ it → b ≠ S → s.heap.get? b = some o → h'.get? b = some o) → h'.get? S = some { cls := .type "list", dict := none, data := .seq acc c, slots := #[] } → ItemsOf (fun i v => items[items.size - 1 - i]? = some v) acc items.size → R (.ok (.ret .none)) { s with heap := h', toks := tk }) :
    wpAny (model prog w) A.in1 (Builtin.«list.__init__» ⟨[.ref S, .ref it], []⟩)
      (fun fin s' => match fin with | .done f => R (.ok f) s' | .again c' => c'.quiet = true ∧ codeAny (model prog w) A c' R s') (fun e s' => R (.error e) s') s := by
  show wpAny _ A.in1 (do let old ← Builtin.List.listItems (.ref S); Builtin.List.listUpdate (.ref S) (fun _ => #[]); letGo old.toList.reverse; Builtin.List.listExtendWith (.ref S) (.ref it) .none) _ _ s
  refine wpAny_bind ?_
  unfold Builtin.List.listItems
  refine wpAny_bind (wpAny_seqItems hS rfl (wpAny_pure ?_))
  show wpAny _ A.in1 (updateSeq S (fun _ => #[]) >>= fun _ => letGo (#[] : Array Value).toList.reverse >>= fun _ => Builtin.List.listExtendWith (.ref S) (.ref it) .none) _ _ s
  refine wpAny_bind (wpAny_updateSeq hS rfl ?_)
  have hS₂ := Heap.get?_update_self (Obj.mapSeq (fun _ => (#[] : Array Value))) hS rfl
  have oth : ∀ b o, b ≠ S → s.heap.get? b = some o → (s.heap.update S (Obj.mapSeq (fun _ => (#[] : Array Value)))).get? b = some o :=
    fun b o hb e => (Heap.get?_update_other _ _ (Ne.symm hb)).trans e
  refine wpAny_bind (wpAny_letGo ?_)
  obtain ⟨ol, hol, rl⟩ := id hl
  refine extend_rev (s := { s with heap := s.heap.update S (Obj.mapSeq (fun _ => (#[] : Array Value))) }) hh (hit.at fun o e => oth _ o (Ne.symm hSi) e) ⟨ol, oth _ ol (Ne.symm hSl) hol, rl⟩ hne hn hSi hSl hS₂ fun h' tk acc c k g i => ?_
  exact hR h' tk acc c (fun b o h1 h2 e => k b o h1 h2 (oth b o h2 e)) g i
theorem call_list_rev {it l : Addr} {E : Value → Shared → Prop} {items : Array Value} {Q : Value → Shared → Prop} (hh : A.handled = none) (hit : s.heap.IsRevIter it l ((items.size : Int) - 1)) (hl : s.heap.IsList l items) (hne : l ≠ it) (hn : items.size ≤ sizeLine)
    (hQ : ∀ (h' : Heap) (tk : Nat) (acc : Array Value) (c : Nat), (∀ b o, b ≠ it → s.heap.get? b = some o → h'.get? b = some o) → h'.get? s.heap.objs.size = some { cls := .type "list", dict := none, data := .seq acc c, slots := #[] } → ItemsOf (fun i v => items[items.size - 1 - i]? = some v) acc items.size → Q (.ref s.heap.objs.size) { s with heap := h', toks := tk }) :
    wpAny (model prog w) A (call (.type "list") [.ref it]) Q E s := by
  refine callType_codes (Q₁ := fun obj s₁ => obj = .ref s.heap.objs.size ∧ s₁ = { s with heap := s.heap.push { cls := .type "list", data := .seq #[] } }) F.called_list (F.typeCall_list_1 _) F.entry_list_init
    (code_list_new _ ⟨rfl, rfl⟩) fun obj s₁ h₁ => ?_
  obtain ⟨rfl, rfl⟩ := h₁
  have hS : (s.heap.push { cls := .type "list", data := .seq #[] }).get? s.heap.objs.size = some { cls := .type "list", data := .seq #[] } := Heap.get?_push_size _ rfl
  obtain ⟨oi, hoi, _⟩ := id hit
  obtain ⟨ol, hol, _⟩ := id hl
  refine ⟨⟨_, hS, rfl⟩, F.args_list_init_2 _ _, list_init_rev (A := A.in1) hh (hit.at fun o e => Heap.get?_push_of_some _ e) (hl.push _) hne hn (Nat.ne_of_gt (Heap.lt_size hoi)) (Nat.ne_of_gt (Heap.lt_size hol)) hS fun h' tk acc c k g i => ?_⟩
  exact ⟨rfl, hQ h' tk acc c (fun b o h1 e => k b o h1 (Nat.ne_of_lt (Heap.lt_size e)) (Heap.get?_push_of_some _ e)) g i⟩
end
open L2
def tLstRev (K : PySem.W.Frag) (te : TE) : TE := fun σ H Q => te σ H fun v H1 => ∃ (a : Addr) (xs : List V), v = .ref a ∧ SqL K H1 a xs ∧ ∀ q, H1 q = none → Q (.ref q) (upd H1 q (.lst xs.reverse))
section
variable {X : Cx}
theorem pe_lstRev {e : Expr} {te : TE} {p p2 pos pos2 : Pos} (hc : X.calm = true) (hg : Gl X "list") (hm : X.mg "list" = none) (hg2 : Gl X "reversed") (hm2 : X.mg "reversed" = none) (he : PE X e te)
    (hs : starEach [e] X.env = (false, eval e X.env) :: starEach [] X.env := by rfl)
    (hs2 : starEach [.Call (.Name "reversed" p2) [e] [] pos2] X.env = (false, eval (.Call (.Name "reversed" p2) [e] [] pos2) X.env) :: starEach [] X.env := by rfl) :
    PE X (.Call (.Name "list" p) [.Call (.Name "reversed" p2) [e] [] pos2] [] pos) (tLstRev X.K te) := by
  refine ⟨fun pins s σ H Q I h => ?_⟩
  refine Call_ (ld_blt I hg hm boot_list (PyProof.Rows.callWith_type1 (args_cons (Call_ (ld_blt I hg2 hm2 PyProof.Rows.boot_reversed (PyProof.Rows.callWith_type1 (args_cons (thn (he.run pins s σ H _ I h) fun u s1 ⟨v, H1, I1, r1, q1⟩ => args_nil ?_) hs) hs rfl))) hs2) hs2 rfl))
  obtain ⟨a, xs, ev, hq, q⟩ := q1
  subst ev
  obtain rfl : u = Value.ref a := r1
  obtain ⟨its, rv, p', hz⟩ := I1.list hq
  refine call_reversed_list p'.isList (args_nil ?_)
  have hl := p'.isList
  obtain ⟨ol, hol, _⟩ := id hl
  have hne : a ≠ s1.heap.objs.size := Nat.ne_of_lt (Heap.lt_size hol)
  have hn : its.toArray.size ≤ sizeLine := by rw [List.size_toArray, ← rv.length]; exact hz
  refine call_list_rev (s := { s1 with heap := s1.heap.push (revObj a ((its.toArray.size : Int) - 1)) }) (I1.ok.hd hc) ⟨_, Heap.get?_push_size _ rfl, rfl, rfl⟩ (hl.push _) hne hn fun h' tk acc c hk hg hi => ?_
  have hp : s1.heap.objs.size ≤ (s1.heap.push (revObj a ((its.toArray.size : Int) - 1))).objs.size := by rw [Heap.size_push]; omega
  refine ⟨.ref _, upd H1 (s1.heap.push (revObj a ((its.toArray.size : Int) - 1))).objs.size (.lst xs.reverse), I1.laid (t' := tk) (fun b o e => hk b o (Nat.ne_of_lt (Heap.lt_size e)) (Heap.get?_push_of_some _ e)) hp (show ObjOk X.prog X.w _ _ _ (.lst xs.reverse) from ⟨by rw [List.length_reverse]; exact hz, acc.toList, c, vals_rev rv hi, ?_⟩), rfl, q _ (I1.hok.fresh hp)⟩
  rw [Array.toArray_toList]
  exact hg
end
end Lr
namespace Dl
open PySem PySem.Spec PyProof.Rows L2 Ss
def dLstRev (da : DE) : DE := fun E R => da E fun x E1 => ∃ ds, x = .list ds ∧ R (.list ds.reverse) E1
theorem rf_lstRev {C : Ct} {K : PySem.W.Frag} {te : TE} {da : DE} (ha : RfE C te da) : RfF C (Lr.tLstRev K te) (dLstRev da) := fun W H σ E Q R Re r k =>
  ha W H σ E _ _ Re r fun v d H1 E1 R1 g1 f1 ⟨ds, e, r1⟩ => by
    subst e
    obtain ⟨a, us, rfl, hl, l⟩ := Ft.lst (.inl f1)
    refine ⟨a, us, rfl, .of hl, fun q hq => ?_⟩
    exact rf_new (R := R) Re R1 g1 k q us.reverse _ _ (same_new hq) hq upd_same l.rev r1
theorem z_lstRev {da : DE} {E : DEnv} {R : Dat → DEnv → Prop} (h : da E fun x E1 => ∃ ds, x = .list ds ∧ R (.list ds.reverse) E1) : dLstRev da E R := h
end Dl
namespace Dl
open PySem PySem.Spec PyProof.Rows L2 Ss
/-! ### max, min of a list of ints; all, any of a list of bools -/
section
variable {K : PySem.W.Frag}
def oMaxL : List Dat → (Dat → Prop) → Prop := fun ds R => ∃ ns : List Int, ds = [.list (ns.map .int)] ∧ 0 < ns.length ∧ ∀ m, m ∈ ns → (∀ y, y ∈ ns → y ≤ m) → R (.int m)
theorem rfb_maxL : RfB (rMax K) oMaxL := fun N H xs ds Q R hx ⟨ns, e, h0, r⟩ k => by
  subst e
  obtain ⟨v, rfl, f⟩ := p1 hx
  obtain ⟨p, us, rfl, hp, lp⟩ := f.lst
  exact ⟨p, ns, rfl, .of (by rw [hp, lp.ints]), h0, fun m h1 h2 => k _ _ H (Same.refl H) (.int _) (r m h1 h2)⟩
def oMinL : List Dat → (Dat → Prop) → Prop := fun ds R => ∃ ns : List Int, ds = [.list (ns.map .int)] ∧ 0 < ns.length ∧ ∀ m, m ∈ ns → (∀ y, y ∈ ns → m ≤ y) → R (.int m)
theorem rfb_minL : RfB (rMin K) oMinL := fun N H xs ds Q R hx ⟨ns, e, h0, r⟩ k => by
  subst e
  obtain ⟨v, rfl, f⟩ := p1 hx
  obtain ⟨p, us, rfl, hp, lp⟩ := f.lst
  exact ⟨p, ns, rfl, .of (by rw [hp, lp.ints]), h0, fun m h1 h2 => k _ _ H (Same.refl H) (.int _) (r m h1 h2)⟩
theorem FzL.bools {N : Ow} {H : Hp} : ∀ {vs : List V} {bs : List Bool}, FzL N H vs (bs.map .bool) → vs = bs.map V.bl
  | _, [], .nil => rfl
  | _, _ :: _, .cons a l => by
    cases a
    rw [List.map_cons, ← l.bools]
def oAllL : List Dat → (Dat → Prop) → Prop := fun ds R => ∃ bs : List Bool, ds = [.list (bs.map .bool)] ∧ R (.bool (bs.all id))
theorem rfb_allL : RfB (rAll K) oAllL := fun N H xs ds Q R hx ⟨ns, e, r⟩ k => by
  subst e
  obtain ⟨v, rfl, f⟩ := p1 hx
  obtain ⟨p, us, rfl, hp, lp⟩ := f.lst
  exact ⟨p, ns, rfl, .of (by rw [hp, lp.bools]), k _ _ H (Same.refl H) (.bl _) r⟩
def oAnyL : List Dat → (Dat → Prop) → Prop := fun ds R => ∃ bs : List Bool, ds = [.list (bs.map .bool)] ∧ R (.bool (bs.any id))
theorem rfb_anyL : RfB (rAny K) oAnyL := fun N H xs ds Q R hx ⟨ns, e, r⟩ k => by
  subst e
  obtain ⟨v, rfl, f⟩ := p1 hx
  obtain ⟨p, us, rfl, hp, lp⟩ := f.lst
  exact ⟨p, ns, rfl, .of (by rw [hp, lp.bools]), k _ _ H (Same.refl H) (.bl _) r⟩
end
/-- the walk over a list within a comprehension -/
theorem pi_listK {X : Cx} {K : PySem.W.Frag} {tg e : Expr} {te : TE} (hK : X.K = K) (h : PE X e te) : PI X tg e (iList K te) := by
  subst hK
  exact pi_list h
end Dl
namespace Dl
open PySem PySem.Spec PyProof.Rows L2 Ss
/-! ### for i in reversed(range(n)) -/
def dRevR1 (da : DE) : DI := fun E R => da E fun x E1 => ∃ n : Int, x = .int n ∧ 0 ≤ n ∧ n < 2 ^ 62 ∧ R ⟨(n - 0).toNat, fun k d => d = .int (n - 1 - (k : Int))⟩ E1
theorem ri_revR1 {C : Ct} {ta : TE} {da : DE} (ha : RfE C ta da) : RfI C (iRevR (tRg1 ta)) (dRevR1 da) := fun W H σ E Q R Re h k => ha W H σ E _ _ Re h fun v d H1 E1 R1 g1 f1 ⟨n, e, h0, h1, r⟩ => by
  subst e
  cases f1
  have wo : WalkOk C W H1 (Itc (0 + ((n - 0).toNat : Int) - 1) (-1) (n - 0).toNat) ⟨(n - 0).toNat, fun k d => d = .int (n - 1 - (k : Int))⟩ := by
    refine ⟨_, _, walk_rangeC, fun _ _ => trivial, fun N' H' m x H'' kp hm y => ?_⟩
    obtain ⟨rfl, rfl⟩ := y
    have hm' : m < (n - 0).toNat := hm
    refine ⟨Same.refl _, .int (n - 1 - (m : Int)), rfl, ?_⟩
    have e : (0 : Int) + ((n - 0).toNat : Int) - 1 + (m : Int) * -1 = n - 1 - (m : Int) := by omega
    show Fz _ _ (V.int ((0 : Int) + ((n - 0).toNat : Int) - 1 + (m : Int) * -1)) _
    rw [e]
    exact .int _
  exact ⟨n, rfl, by decide, by decide, by omega, h1, k _ _ H1 E1 R1 g1 wo r⟩
theorem z_revR1 {da : DE} {E : DEnv} {RI : DIt → DEnv → Prop} (h : da E fun x E1 => ∃ n : Int, x = .int n ∧ 0 ≤ n ∧ n < 2 ^ 62 ∧ RI ⟨(n - 0).toNat, fun k d => d = .int (n - 1 - (k : Int))⟩ E1) : dRevR1 da E RI := h
end Dl
namespace Dl
open PySem PySem.Spec PyProof.Rows L2 Ss
/-! ### x in a tuple -/
def rInT (K : PySem.W.Frag) : R2 := fun x y H Q => ∃ d ds, Dp K H x d ∧ Dp K H y (.tuple ds) ∧ SeqAt.shaped d = true ∧ SeqAt.shaped (.tuple ds) = true ∧ Q (.bl (ds.any fun z => PyData.eqv z d)) H
theorem op_inT {X : Cx} (hu : X.A.units + 65 < cLine) : OpR X (compareOp .In) (rInT X.K) := fun pins s σ H x y v u Q I rx ry h => by
  obtain ⟨d, ds, hd, he, sd, se, q⟩ := h
  obtain ⟨as, r1⟩ := Dp.reads I d x v hd rx
  obtain ⟨bs, r2⟩ := Dp.reads I (.tuple ds) y u he ry
  exact SeqAt.in_tuple_reads r2 r1 (SeqAt.canLay_of_shaped se) (SeqAt.canLay_of_shaped sd) (PyProof.Rows.room_in_shaped sd hu) ⟨.bl (ds.any fun z => PyData.eqv z d), H, I, rfl, q⟩
def rNotInT (K : PySem.W.Frag) : R2 := fun x y H Q => ∃ d ds, Dp K H x d ∧ Dp K H y (.tuple ds) ∧ SeqAt.shaped d = true ∧ SeqAt.shaped (.tuple ds) = true ∧ Q (.bl (!ds.any fun z => PyData.eqv z d)) H
theorem op_notInT {X : Cx} (hu : X.A.units + 65 < cLine) : OpR X (compareOp .NotIn) (rNotInT X.K) := fun pins s σ H x y v u Q I rx ry h => by
  obtain ⟨d, ds, hd, he, sd, se, q⟩ := h
  obtain ⟨as, r1⟩ := Dp.reads I d x v hd rx
  obtain ⟨bs, r2⟩ := Dp.reads I (.tuple ds) y u he ry
  exact SeqAt.notIn_tuple_reads r2 r1 (SeqAt.canLay_of_shaped se) (SeqAt.canLay_of_shaped sd) (PyProof.Rows.room_in_shaped sd hu) ⟨.bl (!ds.any fun z => PyData.eqv z d), H, I, rfl, q⟩
def oInT : Dat → Dat → (Dat → Prop) → Prop := fun a b R => ∃ ds, b = .tuple ds ∧ SeqAt.shaped a = true ∧ SeqAt.shaped (.tuple ds) = true ∧ R (.bool (ds.any fun z => PyData.eqv z a))
def oNotInT : Dat → Dat → (Dat → Prop) → Prop := fun a b R => ∃ ds, b = .tuple ds ∧ SeqAt.shaped a = true ∧ SeqAt.shaped (.tuple ds) = true ∧ R (.bool (!ds.any fun z => PyData.eqv z a))
section
variable {K : PySem.W.Frag}
theorem rfo_inT : RfO (rInT K) oInT := fun N H x y a b Q R hx hy ⟨ds, eb, sa, sb, r⟩ k => by
  subst eb
  exact ⟨a, ds, ft_dps hx sa, ft_dps hy sb, sa, sb, k _ _ H (Same.refl H) (.bl _) r⟩
theorem rfo_notInT : RfO (rNotInT K) oNotInT := fun N H x y a b Q R hx hy ⟨ds, eb, sa, sb, r⟩ k => by
  subst eb
  exact ⟨a, ds, ft_dps hx sa, ft_dps hy sb, sa, sb, k _ _ H (Same.refl H) (.bl _) r⟩
end
end Dl
namespace Dl
open PySem PySem.Spec PyProof.Rows L2 Ss
/-! ### a def that writes its second argument -/
section
variable {C : Ct} {sp : DSp} {XE : XK}
def dCallM1 (sp : DSp) (dx : DE) (i : Nat) : DE := fun E R => dx E fun x E1 => ∃ d, E1[i]? = some (some d) ∧ sp [x, d] fun r o => R r (E1.set i (some o))
theorem rf_callM1 {tx : TE} {dx : DE} {i : Nat} (hO : C.O i = true) (hx : RfE C tx dx) : RfE C (tCall (spOf 2 (some 1) false sp) [] XE (tCons tx (tCons (tVar i) tNil))) (dCallM1 sp dx i) := fun W H σ E Q R Re r k => by
  refine hx W H σ E _ _ Re r fun x xd H1 E1 R1 g1 f1 ⟨d, hd, r1⟩ => ?_
  obtain ⟨c, h2, wa, oc, mo⟩ := R1.own hO hd
  refine ⟨.ref c, h2, ?_⟩
  show spOf 2 _ _ sp ([x, V.ref c] ++ []) H1 Q XE
  rw [List.append_nil]
  refine ⟨rfl, [xd, d], Nn C W, fun b => b = c, R1.ld, fun b z => z ▸ .inr wa, ⟨rfl, fun j v e h1 h3 => ?_, fun b hb => ⟨1, rfl, by rw [hb]; rfl⟩⟩, _, r1, fun r o q v H' st ld mo' ro => ?_⟩
  · match j with
    | 0 =>
      rw [if_neg (by intro z; cases z)]
      cases h1
      cases h3
      exact f1
    | 1 =>
      rw [if_pos rfl]
      cases h1
      cases h3
      exact ⟨c, rfl, rfl, oc⟩
    | j + 2 => cases h1
  obtain ⟨c', ec, oc'⟩ := mo' 1 rfl
  cases ec
  rw [if_neg Bool.false_ne_true] at ro
  have sub : ∀ b, Nn C W b → Nr false (Nn C W) v b := fun b z => .inl z
  obtain ⟨R2, g2⟩ := R1.put hO hd h2 wa mo (fun b nb o e => st b o nb e) (oc'.keep (Kp.sub sub) rfl)
  exact k v r H' _ R2 (g1.trans g2) ro q
theorem z_callM1 {dx : DE} {i : Nat} {E : DEnv} {R : Dat → DEnv → Prop} (h : dx E fun x E1 => ∃ d, E1[i]? = some (some d) ∧ sp [x, d] fun r o => R r (E1.set i (some o))) : dCallM1 sp dx i E R := h
theorem entryM1 {O : Nat → Bool} {sp : DSp} {t : TS} {d : DS} {N : List Str} {vs : List V} {H : Hp} {Q : VK} {E : XK} (h : spOf 2 (some 1) false sp vs H Q E) (ht : ∀ dy, RfS ⟨dy, ⟨O, some 1, false, none⟩⟩ t d) (h1 : O 1 = true) (h0 : O 0 = false)
    (hd : ∀ ds Qd, ds.length = 2 → sp ds Qd → d ⟨fun E => ∃ o, E[1]? = some (some o) ∧ Qd .none o, fun r E => ∃ o, E[1]? = some (some o) ∧ Qd r o, fun _ => False, fun _ => False⟩ (envOf N.length ds)) : t { nx := fun _ H' => Q .non H', rt := Q } (L2.start N vs) H := by
  refine entry (S := ⟨O, some 1, false, none⟩) h ht (fun i hi => ⟨fun z => ?_, fun z => ?_⟩) rfl (.inr ⟨1, rfl, by decide⟩) fun ds Qd hn hs => ?_
  · match i with
    | 0 =>
      rw [show O 0 = true from z] at h0
      cases h0
    | 1 => rfl
    | i + 2 => omega
  · cases z
    exact h1
  · have e : (fun E => false = false ∧ (endsOf (some 1) Qd).nx E) = (fun E => ∃ o, E[1]? = some (some o) ∧ Qd .none o : DEnv → Prop) := funext fun E => propext ⟨fun h => h.2, fun h => ⟨rfl, h⟩⟩
    have := hd ds Qd hn hs
    show d ⟨fun E => false = false ∧ (endsOf (some 1) Qd).nx E, _, _, _⟩ _
    rw [e]
    exact this
theorem z_mret1 {E : DEnv} {o : Dat} {Q : Dat → Prop} (h : E[1]? = some (some o)) (q : Q o) : ∃ o, E[1]? = some (some o) ∧ Q o := ⟨o, h, q⟩
end
end Dl
namespace Dl
open PySem PySem.Spec PyProof.Rows L2 Ss
/-! ### a new list of scalars, read from any slots -/
def tBorL (t : TE) : TE := t
theorem pe_borL {X : Cx} {e : Expr} {t : TE} (h : PE X e t) : PE X e (tBorL t) := ⟨h.run⟩
theorem fzl_sca {N N' : Ow} {H H' : Hp} : ∀ {vs : List V} {ds : List Dat}, FzL N H vs ds → (∀ r ∈ ds, scaD r = true) → FzL N' H' vs ds
  | _, _, .nil, _ => .nil
  | _, _, .cons a l, h => .cons (fz_sca a (h _ List.mem_cons_self)) (fzl_sca l fun r hr => h r (List.mem_cons_of_mem _ hr))
def dBorL (d : DE) : DE := fun E R => d E fun x _ => ∃ ds : List Dat, x = .list ds ∧ (∀ r ∈ ds, scaD r = true) ∧ R x E
theorem rf_borL {C : Ct} {t : TE} {d : DE} (h : ∀ dy, RfF ⟨dy, sxB⟩ t d) : RfF C (tBorL t) (dBorL d) := fun W H σ E Q R Re r k =>
  h (dyB H) (fun _ => False) H σ E Q (fun x _ => ∃ ds : List Dat, x = .list ds ∧ (∀ r ∈ ds, scaD r = true) ∧ R x E) (rep_bor Re) r fun p x H' E' _ g np oc _ ⟨m, ex, hm, r1⟩ => by
    subst ex
    have s : Same H H' := fun b o e => g.st b o (fun z => z) e
    rcases oc with ⟨xs, ds, e, hp, l⟩ | ⟨kvs, ds, e, _, _⟩
    · cases e
      obtain ⟨R2, av⟩ := Re.grow s np (.inl ⟨xs, hp⟩)
      exact k p _ H' E R2 (Gr.same s) np (.inl ⟨xs, m, rfl, hp, fzl_sca l hm⟩) av r1
    · exact (dicD_list e.symm).elim
theorem z_borL {d : DE} {E : DEnv} {R : Dat → DEnv → Prop} (h : d E fun x _ => ∃ ds : List Dat, x = .list ds ∧ (∀ r ∈ ds, scaD r = true) ∧ R x E) : dBorL d E R := h
/-- a truth within a comprehension -/
theorem pt_truK {X : Cx} {K : PySem.W.Frag} {a : Expr} {ta : TE} (hK : X.K = K) (ha : PE X a ta) (he : ∀ whole, isTrue a X.env whole = (do let v ← whole; standAt a.pos; holding [v] (truthy v))) : PT X a (tTru K ta) := by
  subst hK
  exact pt_tru ha he
end Dl
namespace Dl
open PySem PySem.Spec PyProof.Rows L2 Ss
/-! ### l.index(x), l a list that is only read -/
def dIdxL (do_ da : DE) : DE := fun E R => do_ E fun x E1 => (∃ ds0, x = .list ds0) ∧ da E1 fun y E2 => ∃ (ds : List Dat) (j : Nat) (z : Dat), x = .list ds ∧ SeqAt.shaped (.list ds) = true ∧ SeqAt.shaped y = true ∧ ds[j]? = some z ∧ PyData.eqv z y = true ∧
  (∀ (m : Nat) (z' : Dat), m < j → ds[m]? = some z' → PyData.eqv z' y = false) ∧ R (.int (j : Int)) E2
theorem rf_idxL {K : PySem.W.Frag} {C : Ct} {to ta : TE} {do_ da : DE} (ho : RfE C to do_) (ha : RfE C ta da) : RfE C (tBM K "list" (rIndexD K) to (tCons ta tNil)) (dIdxL do_ da) := fun W H σ E Q R Re r k =>
  ho W H σ E _ _ Re r fun x dx H1 E1 R1 g1 f1 ⟨⟨ds0, e0⟩, r1⟩ => by
    subst e0
    obtain ⟨a, us, rfl, hl, _⟩ := Ft.lst (.inl f1)
    refine ⟨.inl ⟨rfl, _, .of hl⟩, ha W H1 σ E1 _ _ R1 r1 fun y dy H2 E2 R2 g2 f2 ⟨ds, j, z, e, s1, s2, hz, he, hm, r2⟩ => ?_⟩
    have e := PyData.list.inj e
    subst e
    exact ⟨a, y, dy, _, j, z, rfl, rfl, ft_dps (.inl (f1.gr R1 g2)) s1, ft_dps (.inl f2) s2, s1, s2, hz, he, hm, k _ _ _ E2 R2 (g1.trans g2) (.int _) r2⟩
theorem z_idxL {E : DEnv} {R : Dat → DEnv → Prop} {do_ da : DE} (h : do_ E fun x E1 => (∃ ds0, x = .list ds0) ∧ da E1 fun y E2 => ∃ (ds : List Dat) (j : Nat) (z : Dat), x = .list ds ∧ SeqAt.shaped (.list ds) = true ∧ SeqAt.shaped y = true ∧ ds[j]? = some z ∧ PyData.eqv z y = true ∧
  (∀ (m : Nat) (z' : Dat), m < j → ds[m]? = some z' → PyData.eqv z' y = false) ∧ R (.int (j : Int)) E2) : dIdxL do_ da E R := h
theorem pe_idxK {X : Cx} {K : PySem.W.Frag} {o e : Expr} {es : List Expr} {to : TE} {t : TA} {apos cpos : Pos} (hK : X.K = K) (hu : X.A.units + 65 < cLine) (ho : PE X o to) (ha : PA X (e :: es) t)
    (hbase : attributeBase o "index" X.env (eval o X.env) = eval o X.env := by rfl)
    (hfew : ((backTo cpos (starEach (e :: es) X.env)).all (fun x => !x.1) && (backToKw cpos (keywordEach [] X.env)).all (fun x => x.1.isSome)
      && decide ((e :: es).length + ([] : List Keyword).length + (if ([] : List Keyword).isEmpty then 0 else 1) < 30)) = true := by rfl)
    (hline : (apos.endLine == cpos.line) = true := by rfl) (hs : starEach (e :: es) X.env = (false, eval e X.env) :: starEach es X.env := by rfl) (hplain : (backTo cpos (starEach es X.env)).any (·.1) = false := by rfl) : PE X (.Call (.Attribute o "index" apos) (e :: es) [] cpos) (tBM K "list" (rIndexD K) to t) := by
  subst hK
  exact pe_bm PySem.F.plainAttrs_list PySem.F.slot_list_index PySem.F.type_list_index (mt_indexD hu) ho ha hbase hfew hline hs hplain
end Dl
namespace Tz
open PySem PySem.Spec PyProof.Rows
/-! ### tuple(zip(x, y)), x and y lists -/
theorem nolen_zip : typeLookup (.type "zip") "__len__" = pure none := by rw [typeLookup_type, builtinLookup_eq_fast]; kernel_rfl
theorem nohint_zip : typeLookup (.type "zip") "__length_hint__" = pure none := by rw [typeLookup_type, builtinLookup_eq_fast]; kernel_rfl
/-- what stands while the pairs are taken -/
structure St (S z TI TO i1 i2 l1 l2 : Addr) (xs ys : Array Value) (i : Nat) (h : Heap) : Prop where
  ti : IsPair h TI (.ref i1) (.ref i2)
  j1 : h.IsListIter i1 l1 i
  j2 : h.IsListIter i2 l2 i
  q1 : h.IsList l1 xs
  q2 : h.IsList l2 ys
  zz : (IsZip h z TI TO .none ∧ ∃ a b, IsPair h TO a b) ∨ ∃ T f oT, IsZipHeld h z TI TO T f ∧ h.get? T = some oT ∧ T ≠ z ∧ T ≠ i1 ∧ T ≠ i2 ∧ T ≠ S
theorem St.keep {S z TI TO i1 i2 l1 l2 : Addr} {xs ys : Array Value} {i : Nat} {h h' : Heap} (st : St S z TI TO i1 i2 l1 l2 xs ys i h) (n : S ≠ z ∧ S ≠ TI ∧ S ≠ TO ∧ S ≠ i1 ∧ S ≠ i2 ∧ S ≠ l1 ∧ S ≠ l2)
    (hk : ∀ b o, b ≠ S → h.get? b = some o → h'.get? b = some o) : St S z TI TO i1 i2 l1 l2 xs ys i h' := by
  obtain ⟨hTI, h1, h2, hl1, hl2, hz⟩ := st
  obtain ⟨n1, n2, n3, n4, n5, n6, n7⟩ := n
  refine ⟨hk _ _ (Ne.symm n2) hTI, h1.at fun o e => hk _ o (Ne.symm n4) e, h2.at fun o e => hk _ o (Ne.symm n5) e, hl1.at fun o e => hk _ o (Ne.symm n6) e, hl2.at fun o e => hk _ o (Ne.symm n7) e, ?_⟩
  rcases hz with ⟨hz, a, b, hTO⟩ | ⟨T, f, oT, hz, hT, r1, r2, r3, r4⟩
  · exact .inl ⟨hk _ _ (Ne.symm n1) hz, a, b, hk _ _ (Ne.symm n3) hTO⟩
  · exact .inr ⟨T, f, oT, hk _ _ (Ne.symm n1) hz, hk _ _ r4 hT, r1, r2, r3, r4⟩
section
variable {prog : Program} {w : World} {A : Around} {E : Value → Shared → Prop} {s : Shared} {S z TI TO i1 i2 l1 l2 : Addr} {xs ys : Array Value}
theorem nxtZ {i : Nat} {Q : Option Value → Shared → Prop} (D : ZipApart z TI TO i1 i2 l1 l2) (st : St S z TI TO i1 i2 l1 l2 xs ys i s.heap) (hS : S < s.heap.objs.size) (hi : i < min xs.size ys.size)
    (hQ : ∀ h' x y, xs[i]? = some x → ys[i]? = some y → St S z TI TO i1 i2 l1 l2 xs ys (i + 1) h' → IsPair h' s.heap.objs.size x y → (∀ c o, c ≠ z → c ≠ TO → c ≠ i1 → c ≠ i2 → s.heap.get? c = some o → h'.get? c = some o) → Q (some (.ref s.heap.objs.size)) { s with heap := h' }) :
    wpAny (model prog w) A (pyNext (.ref z)) Q E s := by
  obtain ⟨hTI, h1, h2, hl1, hl2, hz⟩ := st
  have hix : i < xs.size := Nat.lt_of_lt_of_le hi (Nat.min_le_left ..)
  have hiy : i < ys.size := Nat.lt_of_lt_of_le hi (Nat.min_le_right ..)
  have ex := Array.getElem?_eq_getElem hix
  have ey := Array.getElem?_eq_getElem hiy
  have lt : ∀ {c o}, s.heap.get? c = some o → s.heap.objs.size ≠ c := fun e => Nat.ne_of_gt (Heap.lt_size e)
  have n1 : s.heap.objs.size ≠ i1 := let ⟨_, e, _⟩ := h1; lt e
  have n2 : s.heap.objs.size ≠ i2 := let ⟨_, e, _⟩ := h2; lt e
  rcases hz with ⟨hz, a, b, hTO⟩ | ⟨T, f, oT, hz, hT, r1, r2, r3, r4⟩
  · refine wpAny_pyNext_zip_item D hz hTI hTO h1 h2 hl1 hl2 ex ey fun h' a1 a2 a3 a4 a5 a6 hk => hQ h' _ _ ex ey ⟨?_, a3, a4, ?_, ?_, ?_⟩ a5 hk
    · exact hk _ _ D.TIz D.TITO D.TIi1 D.TIi2 hTI
    · exact hl1.at fun o e => hk _ o D.l1z D.l1TO D.l1i1 D.l1i2 e
    · exact hl2.at fun o e => hk _ o D.l2z D.l2TO D.l2i1 D.l2i2 e
    · exact .inr ⟨s.heap.objs.size, false, _, a1, a5, lt hz, n1, n2, Nat.ne_of_gt hS⟩
  · refine wpAny_pyNext_zip_item_held D hz hT hTI h1 h2 hl1 hl2 ex ey fun h' a1 a3 a4 a5 a6 hk => hQ h' _ _ ex ey ⟨?_, a3, a4, ?_, ?_, ?_⟩ a5 fun c o c1 _ c3 c4 e => hk c o c1 c3 c4 e
    · exact hk _ _ D.TIz D.TIi1 D.TIi2 hTI
    · exact hl1.at fun o e => hk _ o D.l1z D.l1i1 D.l1i2 e
    · exact hl2.at fun o e => hk _ o D.l2z D.l2i1 D.l2i2 e
    · exact .inr ⟨T, true, oT, a1, hk _ _ r1 r2 r3 hT, r1, r2, r3, r4⟩
theorem finZ {Q : Option Value → Shared → Prop} (hA : A.handled = none) (D : ZipApart z TI TO i1 i2 l1 l2) (st : St S z TI TO i1 i2 l1 l2 xs ys (min xs.size ys.size) s.heap)
    (hQ : ∀ h', (∀ c o, c ≠ z → c ≠ TO → c ≠ i1 → c ≠ i2 → s.heap.get? c = some o → h'.get? c = some o) → Q none { s with heap := h' }) : wpAny (model prog w) A (pyNext (.ref z)) Q E s := by
  obtain ⟨hTI, h1, h2, hl1, hl2, hz⟩ := st
  have hend : xs[min xs.size ys.size]? = none ∨ ys[min xs.size ys.size]? = none := by
    rcases Nat.le_total xs.size ys.size with h | h
    · exact .inl (Array.getElem?_eq_none (by rw [Nat.min_eq_left h]; exact Nat.le_refl _))
    · exact .inr (Array.getElem?_eq_none (by rw [Nat.min_eq_right h]; exact Nat.le_refl _))
  rcases hz with ⟨hz, a, b, hTO⟩ | ⟨T, f, oT, hz, hT, r1, r2, r3, r4⟩
  · exact wpAny_pyNext_zip_end hA D hz hTI hTO h1 h2 hl1 hl2 hend hQ
  · exact wpAny_pyNext_zip_end_held hA D hz hT hTI h1 h2 hl1 hl2 hend fun h' hk => hQ h' fun c o c1 _ c3 c4 e => hk c o c1 c3 c4 e
end
/-- the pairs made so far -/
structure Made (xs ys : Array Value) (lo : Addr) (h : Heap) (as : List Addr) : Prop where
  rise : as.Pairwise (· < ·)
  above : ∀ a ∈ as, lo ≤ a
  pairs : ∀ (j : Nat) (a : Addr), as[j]? = some a → ∃ x y, xs[j]? = some x ∧ ys[j]? = some y ∧ IsPair h a x y
section
variable {prog : Program} {w : World} {A : Around} {s : Shared} {R : Result → Shared → Prop} {S z TI TO i1 i2 l1 l2 : Addr} {xs ys : Array Value}
theorem loopZ {lo : Addr} (hh : A.handled = none) (D : ZipApart z TI TO i1 i2 l1 l2) (n : S ≠ z ∧ S ≠ TI ∧ S ≠ TO ∧ S ≠ i1 ∧ S ≠ i2 ∧ S ≠ l1 ∧ S ≠ l2) (lz : z < lo) (lt : TO < lo) (l_1 : i1 < lo) (l_2 : i2 < lo) (lS : S < lo) (hn : min xs.size ys.size ≤ sizeLine) (res : Value) {h₁ : Heap}
    (hR : ∀ h' tk acc c as, (∀ b o, b ≠ S → b ≠ z → b ≠ TO → b ≠ i1 → b ≠ i2 → h₁.get? b = some o → h'.get? b = some o) → h'.get? S = some { cls := .type "list", dict := none, data := .seq acc c, slots := #[] } → as.length = min xs.size ys.size → Made xs ys lo h' as →
      acc.toList = as.map Value.ref → R (.ok (.ret res)) { s with heap := h', toks := tk }) :
    ∀ (k i : Nat) (h : Heap) (tk c : Nat) (acc : Array Value) (as : List Addr), min xs.size ys.size - i = k → i ≤ min xs.size ys.size → St S z TI TO i1 i2 l1 l2 xs ys i h → (∀ b o, b ≠ S → b ≠ z → b ≠ TO → b ≠ i1 → b ≠ i2 → h₁.get? b = some o → h.get? b = some o) →
      h.get? S = some { cls := .type "list", dict := none, data := .seq acc c, slots := #[] } → acc.toList = as.map Value.ref → as.length = i → Made xs ys lo h as → lo ≤ h.objs.size →
      codeAny (model prog w) A (.builtin "list.extend.loop" ⟨[.ref S, .ref z, res], []⟩) R { s with heap := h, toks := tk } := by
  intro k
  induction k with
  | zero =>
    intro i h tk c acc as hk hi hst hkeep hS hacc hal hG hIs
    have ei : i = min xs.size ys.size := by omega
    subst ei
    refine codeAny_builtin PySem.F.entry_extend_loop ?_
    rw [Around.under_plainId PySem.F.plain_extend_loop _]
    show wpAny _ A.in1 (pyNext (.ref z) >>= _) _ _ _
    refine wpAny_bind (finZ (s := { s with heap := h, toks := tk }) (A := A.in1) hh D hst fun h' he => ?_)
    refine wpAny_pure (hR h' tk acc c as (fun b o b1 b2 b3 b4 b5 e => he b o b2 b3 b4 b5 (hkeep b o b1 b2 b3 b4 b5 e)) (he S _ n.1 n.2.2.1 n.2.2.2.1 n.2.2.2.2.1 hS) hal ⟨hG.rise, hG.above, fun j a hj => ?_⟩ hacc)
    obtain ⟨x, y, e1, e2, e3⟩ := hG.pairs j a hj
    have ha := hG.above a (List.mem_of_getElem? hj)
    have gt : ∀ {q : Addr}, q < lo → a ≠ q := fun h => Nat.ne_of_gt (Nat.lt_of_lt_of_le h ha)
    exact ⟨x, y, e1, e2, he a _ (gt lz) (gt lt) (gt l_1) (gt l_2) e3⟩
  | succ k ih =>
    intro i h tk c acc as hk hi hst hkeep hS hacc hal hG hIs
    have hlt : i < min xs.size ys.size := by omega
    have hsz : acc.size = i := by rw [← Array.length_toList, hacc, List.length_map, hal]
    refine codeAny_builtin PySem.F.entry_extend_loop ?_
    rw [Around.under_plainId PySem.F.plain_extend_loop _]
    show wpAny _ A.in1 (pyNext (.ref z) >>= _) _ _ _
    refine wpAny_bind (nxtZ (s := { s with heap := h, toks := tk }) D hst (Heap.lt_size hS) hlt fun h' x y ex ey hst' ht hkp => ?_)
    dsimp only at ht hkp ⊢
    have hS' := hkp S _ n.1 n.2.2.1 n.2.2.2.1 n.2.2.2.2.1 hS
    have up : ∀ b o, b ≠ S → h'.get? b = some o → (h'.update S (Obj.mapSeq (·.push (Value.ref h.objs.size)))).get? b = some o := fun b o hb e => (Heap.get?_update_other _ _ (Ne.symm hb)).trans e
    have hSl : S < h.objs.size := Heap.lt_size hS
    show wpAny _ A.in1 (updateSeq S (·.push (Value.ref h.objs.size)) >>= _) _ _ _
    refine wpAny_bind ?_
    refine wpAny_updateSeq hS' rfl (wpAny_pure ⟨plainId_quiet PySem.F.plain_extend_loop _, ih (i + 1) _ tk _ (acc.push (Value.ref h.objs.size)) (as ++ [h.objs.size]) (by omega) hlt (hst'.keep n up)
      (fun b o b1 b2 b3 b4 b5 e => up b o b1 (hkp b o b2 b3 b4 b5 (hkeep b o b1 b2 b3 b4 b5 e))) (Heap.get?_update_self _ hS' rfl) (by rw [Array.toList_push, hacc, List.map_append]; rfl) (by rw [List.length_append, hal]; rfl) ⟨?_, ?_, ?_⟩ ?_⟩) (by rw [hsz]; omega) (by show (acc.push (Value.ref h.objs.size)).size ≤ sizeLine + 1; rw [Array.size_push, hsz]; omega)
    · refine List.pairwise_append.mpr ⟨hG.rise, List.pairwise_singleton _ _, fun a ha b hb => ?_⟩
      rw [List.mem_singleton.mp hb]
      obtain ⟨j, hj⟩ := List.mem_iff_getElem?.mp ha
      obtain ⟨_, _, _, _, e⟩ := hG.pairs j a hj
      exact Heap.lt_size e
    · intro a ha
      rcases List.mem_append.mp ha with ha | ha
      · exact hG.above a ha
      · rw [List.mem_singleton.mp ha]; exact hIs
    · intro j b hj
      rcases Nat.lt_trichotomy j as.length with h1 | h1 | h1
      · rw [List.getElem?_append_left h1] at hj
        obtain ⟨x', y', e1, e2, e3⟩ := hG.pairs j b hj
        have hb := hG.above b (List.mem_of_getElem? hj)
        have gt : ∀ {q : Addr}, q < lo → b ≠ q := fun h => Nat.ne_of_gt (Nat.lt_of_lt_of_le h hb)
        exact ⟨x', y', e1, e2, up b _ (gt lS) (hkp b _ (gt lz) (gt lt) (gt l_1) (gt l_2) e3)⟩
      · subst h1
        have hb : h.objs.size = b := by simpa using hj
        subst hb
        exact ⟨x, y, by rw [hal]; exact ex, by rw [hal]; exact ey, up _ _ (Nat.ne_of_gt hSl) ht⟩
      · have hnone : (as ++ [h.objs.size])[j]? = none := List.getElem?_eq_none (by rw [List.length_append, List.length_singleton]; omega)
        rw [hnone] at hj; cases hj
    · have e : (h'.update S (Obj.mapSeq (·.push (Value.ref h.objs.size)))).get? h.objs.size = _ := up _ _ (Nat.ne_of_gt hSl) ht
      exact Nat.le_of_lt (Nat.lt_of_le_of_lt hIs (Heap.lt_size e))
end
section
variable {prog : Program} {w : World} {A : Around} {E : Value → Shared → Prop} {s : Shared} {z TI TO i1 i2 l1 l2 : Addr} {xs ys : Array Value}
theorem extZ {R : Result → Shared → Prop} {S : Addr} (hh : A.handled = none) (D : ZipApart z TI TO i1 i2 l1 l2) (st : St S z TI TO i1 i2 l1 l2 xs ys 0 s.heap) (hz0 : IsZip s.heap z TI TO .none) (n : S ≠ z ∧ S ≠ TI ∧ S ≠ TO ∧ S ≠ i1 ∧ S ≠ i2 ∧ S ≠ l1 ∧ S ≠ l2) (lt : TO < s.heap.objs.size) (res : Value) (c₀ : Nat) (hS : s.heap.get? S = some { cls := .type "list", data := .seq #[] c₀ })
    (hR : ∀ h' tk acc c as, (∀ b o, b ≠ S → b ≠ z → b ≠ TO → b ≠ i1 → b ≠ i2 → s.heap.get? b = some o → h'.get? b = some o) → h'.get? S = some { cls := .type "list", dict := none, data := .seq acc c, slots := #[] } → as.length = min xs.size ys.size → Made xs ys s.heap.objs.size h' as →
      acc.toList = as.map Value.ref → R (.ok (.ret res)) { s with heap := h', toks := tk }) (hn : min xs.size ys.size ≤ sizeLine) :
    wpAny (model prog w) A.in1 (Builtin.List.listExtendWith (.ref S) (.ref z) res)
      (fun fin s' => match fin with | .done f => R (.ok f) s' | .again c' => c'.quiet = true ∧ codeAny (model prog w) A c' R s') (fun e s' => R (.error e) s') s := by
  have hT : s.TypeIs (.ref z) "zip" := ⟨_, hz0, rfl⟩
  have l_1 : i1 < s.heap.objs.size := let ⟨_, e, _⟩ := st.j1; Heap.lt_size e
  have l_2 : i2 < s.heap.objs.size := let ⟨_, e, _⟩ := st.j2; Heap.lt_size e
  have key : ∀ (h : Heap) (c₁ tk : Nat), (∀ b o, b ≠ S → s.heap.get? b = some o → h.get? b = some o) → h.objs.size = s.heap.objs.size →
      h.get? S = some { cls := .type "list", data := .seq #[] c₁ } → codeAny (model prog w) A (.builtin "list.extend.loop" ⟨[.ref S, .ref z, res], []⟩) R { s with heap := h, toks := tk } := by
    intro h c₁ tk hk hz hS₁
    exact loopZ (xs := xs) (ys := ys) (s := s) (h₁ := s.heap) (lo := s.heap.objs.size) hh D n (Heap.lt_size hz0) lt l_1 l_2 (Heap.lt_size hS) hn res hR
      (min xs.size ys.size) 0 h tk c₁ #[] [] (Nat.sub_zero _) (Nat.zero_le _) (st.keep n hk) (fun b o b1 _ _ _ _ e => hk b o b1 e) hS₁ rfl rfl
      ⟨List.Pairwise.nil, (fun _ ha => nomatch ha), (fun j a hj => by simp at hj)⟩ (Nat.le_of_eq hz.symm)
  unfold Builtin.List.listExtendWith
  refine wpAny_bind (wpAny_typeOf (T := "zip") hT ?_)
  have h1 : Builtin.List.listSameRef (.ref S) (.ref z) = false := by simp [Builtin.List.listSameRef, n.1]
  have h2 : (Value.type "zip" == Value.type "list") = false := by decide
  have h3 : (Value.type "zip" == Value.type "tuple") = false := by decide
  simp only [h1, h2, h3, Bool.or_false, Bool.false_eq_true, if_false]
  refine wpAny_bind (wpAny_pyIter_zip hz0 ?_)
  refine wpAny_bind (wpAny_holding ?_)
  unfold Builtin.List.listLengthHint
  refine wpAny_bind (wpAny_specialOf hT nolen_zip ?_)
  refine wpAny_bind (wpAny_specialOf hT nohint_zip ?_)
  refine wpAny_pure ?_
  refine wpAny_ite_split (fun _ => ?_) (fun _ => wpAny_pure ⟨plainId_quiet PySem.F.plain_extend_loop _, key _ c₀ _ (fun b o _ e => e) rfl hS⟩)
  refine wpAny_bind (wpAny_rule ?_)
  refine wpAny_bind ?_
  show wpAny _ _ (updateSeq S (·.push .none) >>= fun _ => updateSeq S (·.pop)) _ _ _
  refine wpAny_bind (wpAny_updateSeq hS rfl ?_)
  have hS₂ := Heap.get?_update_self (Obj.mapSeq (·.push Value.none)) hS rfl
  refine wpAny_updateSeq (hz := by seq_fits) hS₂ rfl ?_
  have hS₃ := Heap.get?_update_self (Obj.mapSeq (·.pop)) hS₂ rfl
  refine wpAny_pure ⟨plainId_quiet PySem.F.plain_extend_loop _, key _ _ _ (fun b o hb e => ?_) ?_ hS₃⟩
  · exact (Heap.get?_update_other _ _ (Ne.symm hb)).trans ((Heap.get?_update_other _ _ (Ne.symm hb)).trans e)
  · exact (Heap.SameBut.update ..).1.trans (Heap.SameBut.update ..).1
theorem collectZ {R : List Value → Shared → Prop} (hh : A.handled = none) (D : ZipApart z TI TO i1 i2 l1 l2) (hz0 : IsZip s.heap z TI TO .none) (hTI : IsPair s.heap TI (.ref i1) (.ref i2)) (hTO : ∃ a b, IsPair s.heap TO a b) (h1 : s.heap.IsListIter i1 l1 0) (h2 : s.heap.IsListIter i2 l2 0) (hl1 : s.heap.IsList l1 xs) (hl2 : s.heap.IsList l2 ys) (hn : min xs.size ys.size ≤ sizeLine)
    (h : ∀ (h' : Heap) (tk : Nat) (as : List Addr), (∀ b o, b ≠ z → b ≠ TO → b ≠ i1 → b ≠ i2 → s.heap.get? b = some o → h'.get? b = some o) → s.heap.objs.size < h'.objs.size → as.length = min xs.size ys.size → Made xs ys s.heap.objs.size h' as → R (as.map Value.ref) { s with heap := h', toks := tk }) :
    wpAny (model prog w) A (collect (.ref z)) R E s := by
  have ltz : z < s.heap.objs.size := Heap.lt_size hz0
  have ltI : TI < s.heap.objs.size := Heap.lt_size hTI
  have ltO : TO < s.heap.objs.size := let ⟨_, _, e⟩ := hTO; Heap.lt_size e
  have lt1 : i1 < s.heap.objs.size := let ⟨_, e, _⟩ := h1; Heap.lt_size e
  have lt2 : i2 < s.heap.objs.size := let ⟨_, e, _⟩ := h2; Heap.lt_size e
  have lt3 : l1 < s.heap.objs.size := let ⟨_, e, _⟩ := hl1; Heap.lt_size e
  have lt4 : l2 < s.heap.objs.size := let ⟨_, e, _⟩ := hl2; Heap.lt_size e
  have pu : ∀ {b : Addr} {o : Obj}, s.heap.get? b = some o → (s.heap.push { cls := .type "list", data := .seq ([] : List Value).toArray }).get? b = some o := fun e => Heap.get?_push_of_some _ e
  unfold collect
  refine wpAny_bind (wpAny_runValue (codeAny_builtin entry_proto_collect' ?_))
  rw [Around.under_plainId PySem.F.plain_proto_collect _]
  show wpAny _ A.in1 (newList [] >>= fun l => again (.builtin "list.__iadd__" ⟨[l, .ref z], []⟩)) _ _ s
  refine wpAny_bind (wpAny_newObj_type ?_)
  refine wpAny_pure ⟨plainId_quiet PySem.F.plain_list_iadd _, codeAny_builtin entry_list_iadd' ?_⟩
  rw [Around.under_plainId PySem.F.plain_list_iadd _]
  have hS₁ : (s.heap.push { cls := .type "list", data := .seq ([] : List Value).toArray }).get? s.heap.objs.size = some { cls := .type "list", data := .seq #[] } := Heap.get?_push_size _ rfl
  have sz1 : (s.heap.push { cls := .type "list", data := .seq ([] : List Value).toArray }).objs.size = s.heap.objs.size + 1 := Heap.size_push ..
  show wpAny _ A.in1 (Builtin.List.listExtendWith (.ref s.heap.objs.size) (.ref z) (.ref s.heap.objs.size)) _ _ _
  have key := extZ (prog := prog) (w := w) (A := A) (s := { s with heap := s.heap.push { cls := .type "list", data := .seq ([] : List Value).toArray } }) (S := s.heap.objs.size) (xs := xs) (ys := ys)
    (R := fun (q : Result) (s' : Shared) => ∃ (h' : Heap) (tk : Nat) (acc' : Array Value) (c' : Nat) (as : List Addr), q = .ok (.ret (.ref s.heap.objs.size)) ∧ s' = { s with heap := h', toks := tk } ∧
      (∀ b o, b ≠ z → b ≠ TO → b ≠ i1 → b ≠ i2 → s.heap.get? b = some o → h'.get? b = some o) ∧ h'.get? s.heap.objs.size = some { cls := .type "list", dict := none, data := .seq acc' c', slots := #[] } ∧ as.length = min xs.size ys.size ∧ Made xs ys s.heap.objs.size h' as ∧ acc'.toList = as.map Value.ref)
    hh D ⟨pu hTI, h1.at fun o e => pu e, h2.at fun o e => pu e, hl1.at fun o e => pu e, hl2.at fun o e => pu e, .inl ⟨pu hz0, let ⟨a, b, e⟩ := hTO; ⟨a, b, pu e⟩⟩⟩ (pu hz0)
    ⟨Nat.ne_of_gt ltz, Nat.ne_of_gt ltI, Nat.ne_of_gt ltO, Nat.ne_of_gt lt1, Nat.ne_of_gt lt2, Nat.ne_of_gt lt3, Nat.ne_of_gt lt4⟩ (by show TO < (s.heap.push _).objs.size; rw [sz1]; exact Nat.lt_succ_of_lt ltO) (.ref s.heap.objs.size) 0 hS₁
    (fun h' tk acc' c' as hk hS' hl hG hacc => ⟨h', tk, acc', c', as, rfl, rfl, fun b o b2 b3 b4 b5 e => hk b o (Nat.ne_of_lt (Heap.lt_size e)) b2 b3 b4 b5 (pu e), hS', hl, ⟨hG.rise, fun a ha => Nat.le_trans (by show s.heap.objs.size ≤ (s.heap.push _).objs.size; rw [sz1]; exact Nat.le_succ _) (hG.above a ha), hG.pairs⟩, hacc⟩) hn
  refine wpAny_mono key (fun fin s' x => ?_) fun e s' x => ?_
  · cases fin with
    | done f =>
      obtain ⟨h', tk, acc', c', as, e, rfl, hk, hS', hl, hG, hacc⟩ := x
      cases e
      show wpAny _ A (load s.heap.objs.size >>= _) _ _ _
      refine wpAny_bind (wpAny_load hS' ?_)
      refine wpAny_pure ?_
      show R acc'.toList _
      rw [hacc]
      exact h h' tk as hk (Heap.lt_size hS') hl hG
    | again c₁ =>
      refine ⟨x.1, codeAny_mono x.2 fun q s₂ y => ?_⟩
      obtain ⟨h', tk, acc', c', as, rfl, rfl, hk, hS', hl, hG, hacc⟩ := y
      show wpAny _ A (load s.heap.objs.size >>= _) _ _ _
      refine wpAny_bind (wpAny_load hS' ?_)
      refine wpAny_pure ?_
      show R acc'.toList _
      rw [hacc]
      exact h h' tk as hk (Heap.lt_size hS') hl hG
  · obtain ⟨_, _, _, _, _, e', _⟩ := x
    cases e'
theorem code_tuple_zip {Q₁ : Value → Shared → Prop} (hh : A.handled = none) (D : ZipApart z TI TO i1 i2 l1 l2) (hz0 : IsZip s.heap z TI TO .none) (hTI : IsPair s.heap TI (.ref i1) (.ref i2)) (hTO : ∃ a b, IsPair s.heap TO a b) (h1 : s.heap.IsListIter i1 l1 0) (h2 : s.heap.IsListIter i2 l2 0) (hl1 : s.heap.IsList l1 xs) (hl2 : s.heap.IsList l2 ys) (hn : min xs.size ys.size ≤ sizeLine)
    (h : ∀ (h' : Heap) (tk : Nat) (as : List Addr), (∀ b o, b ≠ z → b ≠ TO → b ≠ i1 → b ≠ i2 → s.heap.get? b = some o → h'.get? b = some o) → s.heap.objs.size < h'.objs.size → as.length = min xs.size ys.size → Made xs ys s.heap.objs.size h' as →
      Q₁ (.ref h'.objs.size) { s with heap := h'.push { cls := .type "tuple", data := .seq (as.map Value.ref).toArray }, toks := tk }) :
    codeAny (model prog w) A (.call (.builtin "tuple.__new__") ⟨[.type "tuple", .ref z], []⟩) (wants Q₁ E) s := by
  refine codeAny_of_tree ?_
  show wpAny _ A.in1 (do checkBuiltinCall "tuple.__new__" ⟨[.type "tuple", .ref z], []⟩; again (.builtin "tuple.__new__" ⟨[.type "tuple", .ref z], []⟩)) _ _ s
  refine wpAny_bind (wpAny_of_eq (F.newCall_tuple_1 _) (wpAny_pure ⟨plainId_quiet F.plain_tuple_new _, codeAny_builtin F.entry_tuple_new ?_⟩))
  rw [Around.under_plainId F.plain_tuple_new _]
  have hsub := sub_tuple_self
  have hinit := init_tuple_lookup
  have hmh := madeHere_tuple
  have hTZ : s.TypeIs (.ref z) "zip" := ⟨_, hz0, rfl⟩
  have hh1 : A.in1.handled = none := hh
  wp_walk using wpAny_typeOf hTZ, collectZ (A := A.in1) hh1 D hz0 hTI hTO h1 h2 hl1 hl2 hn
  intro h' tk as hk hlt hl hG
  show wpAny _ _ (Builtin.Tuple.tupleExact (as.map Value.ref).toArray >>= fun v => ret v) _ _ _
  unfold Builtin.Tuple.tupleExact
  refine wpAny_bind (wpAny_newObj_type ?_ (by show (as.map Value.ref).toArray.size ≤ sizeLine; rw [List.size_toArray, List.length_map, hl]; exact hn))
  refine wpAny_pure ?_
  exact h h' tk as hk hlt hl hG
theorem call_tuple_zip {Q : Value → Shared → Prop} (hh : A.handled = none) (D : ZipApart z TI TO i1 i2 l1 l2) (hz0 : IsZip s.heap z TI TO .none) (hTI : IsPair s.heap TI (.ref i1) (.ref i2)) (hTO : ∃ a b, IsPair s.heap TO a b) (h1 : s.heap.IsListIter i1 l1 0) (h2 : s.heap.IsListIter i2 l2 0) (hl1 : s.heap.IsList l1 xs) (hl2 : s.heap.IsList l2 ys) (hn : min xs.size ys.size ≤ sizeLine)
    (hQ : ∀ (h' : Heap) (tk : Nat) (as : List Addr), (∀ b o, b ≠ z → b ≠ TO → b ≠ i1 → b ≠ i2 → s.heap.get? b = some o → h'.get? b = some o) → s.heap.objs.size < h'.objs.size → as.length = min xs.size ys.size → Made xs ys s.heap.objs.size h' as →
      Q (.ref h'.objs.size) { s with heap := h'.push { cls := .type "tuple", data := .seq (as.map Value.ref).toArray }, toks := tk }) :
    wpAny (model prog w) A (call (.type "tuple") [.ref z]) Q E s := by
  refine callType_codes (Q₁ := fun obj s₁ => s₁.TypeIs obj "tuple" ∧ Q obj s₁) F.called_tuple (F.typeCall_tuple_1 _) F.entry_object_init
    (code_tuple_zip (A := A.in1) hh D hz0 hTI hTO h1 h2 hl1 hl2 hn fun h' tk as hk hlt hl hG => ⟨⟨_, Heap.get?_push_size _ rfl, rfl⟩, hQ h' tk as hk hlt hl hG⟩) fun obj s₁ h₁ => ?_
  exact ⟨h₁.1, F.args_object_init_2 obj _, object_init_meets F.called_tuple.init.lookup F.called_tuple.made (by decide) prog w A.in1 _ s₁ ⟨h₁.1, rfl, h₁.2⟩⟩
end
open L2
/-- the new pairs, one for each place that both lists have -/
def Prs (H : Hp) (xs ys : List V) (as : List Addr) : Prop := as.length = min xs.length ys.length ∧ ∀ (j : Nat) (a : Addr), as[j]? = some a → ∃ x y, xs[j]? = some x ∧ ys[j]? = some y ∧ H a = some (.tup [x, y])
def tTupZip (K : PySem.W.Frag) (ta : TA) : TE := fun σ H Q => ta σ H fun vs H1 => ∃ (a b : Addr) (xs ys : List V), vs = [.ref a, .ref b] ∧ SqL K H1 a xs ∧ SqL K H1 b ys ∧
  ∀ (q : Addr) (as : List Addr) (H2 : Hp), (∀ b o, H1 b = some o → H2 b = some o) → Prs H2 xs ys as → H2 q = some (.tup (as.map V.ref)) → Q (.ref q) H2
section
variable {X : Cx}
theorem pe_tupZip {e e2 : Expr} {ta : TA} {p p2 pos pos2 : Pos} (hc : X.calm = true) (hg : Gl X "tuple") (hm : X.mg "tuple" = none) (hg2 : Gl X "zip") (hm2 : X.mg "zip" = none) (ha : PA X [e, e2] ta)
    (hs : starEach [e, e2] X.env = (false, eval e X.env) :: starEach [e2] X.env := by rfl) (hpl : (backTo pos2 (starEach [e2] X.env)).any (·.1) = false := by rfl)
    (hs2 : starEach [.Call (.Name "zip" p2) [e, e2] [] pos2] X.env = (false, eval (.Call (.Name "zip" p2) [e, e2] [] pos2) X.env) :: starEach [] X.env := by rfl) :
    PE X (.Call (.Name "tuple" p) [.Call (.Name "zip" p2) [e, e2] [] pos2] [] pos) (tTupZip X.K ta) := by
  refine ⟨fun pins s σ H Q I h => ?_⟩
  refine Call_ (ld_blt I hg hm boot_tuple (PyProof.Rows.callWith_type1 (args_cons (Call_ (ld_blt I hg2 hm2 PyProof.Rows.boot_zip (PyProof.Rows.callWith_type1 (thn (ha.run pos2 pins s σ H _ I h) fun us s1 ⟨vs, H1, I1, r1, q1⟩ => ?_) hs hpl))) hs2) hs2 rfl))
  obtain ⟨a, b, xs, ys, ev, hqx, hqy, q⟩ := q1
  subst ev
  cases r1 with
  | cons r rr =>
  cases rr with
  | cons r' rr =>
  cases rr
  cases r
  cases r'
  obtain ⟨its, rv, p1, hz1⟩ := I1.list hqx
  obtain ⟨its2, rv2, p2, hz2⟩ := I1.list hqy
  refine call_zip_2 p1.isList p2.isList fun h' hz hTI hTO h1 h2 hsz hk => args_nil ?_
  have I2 : Inv X pins σ H1 { s1 with heap := h' } := I1.kept (t' := s1.toks) hk
  have D := PySem.W.ktu_apart s1.heap.objs.size a b p1.lt p2.lt
  have ln := rv.length
  have ln2 := rv2.length
  have fresh5 : ∀ c, c ∈ [s1.heap.objs.size + 4, s1.heap.objs.size + 2, s1.heap.objs.size + 3, s1.heap.objs.size, s1.heap.objs.size + 1] → FpOk X pins H1 c := fun c hcm => by
    have e' : c = s1.heap.objs.size + 4 ∨ c = s1.heap.objs.size + 2 ∨ c = s1.heap.objs.size + 3 ∨ c = s1.heap.objs.size ∨ c = s1.heap.objs.size + 1 := by simpa using hcm
    have hle : s1.heap.objs.size ≤ c := by
      rcases e' with z | z | z | z | z
      · rw [z]; exact Nat.le_add_right _ _
      · rw [z]; exact Nat.le_add_right _ _
      · rw [z]; exact Nat.le_add_right _ _
      · rw [z]; exact Nat.le_refl _
      · rw [z]; exact Nat.le_add_right _ _
    exact I1.fpOk hle (I1.hok.fresh hle)
  refine call_tuple_zip (s := { s1 with heap := h' }) (xs := its.toArray) (ys := its2.toArray) (I1.ok.hd hc) D hz hTI ⟨_, _, hTO⟩ h1 h2 (p1.isList.at fun o e => hk _ o e) (p2.isList.at fun o e => hk _ o e)
    (by rw [List.size_toArray, List.size_toArray]; exact Nat.le_trans (Nat.min_le_left _ _) (by rw [← ln]; exact hz1)) fun h'' tk as hk2 hlt hl hG => ?_
  have I3 : Inv X pins σ H1 { s1 with heap := h'', toks := tk } := I1.turnedL (h' := h'') (t' := tk) (ch := [s1.heap.objs.size + 4, s1.heap.objs.size + 2, s1.heap.objs.size + 3, s1.heap.objs.size, s1.heap.objs.size + 1]) (fun c o hb e => hk2 c o (fun z => hb (by simp [z])) (fun z => hb (by simp [z])) (fun z => hb (by simp [z])) (fun z => hb (by simp [z])) (hk _ _ e)) fresh5
  have nd : as.Nodup := List.Pairwise.imp (fun h => Nat.ne_of_lt h) hG.rise
  have pr : ∀ (j : Nat) (c : Addr), as[j]? = some c → ∃ x y u v, xs[j]? = some x ∧ ys[j]? = some y ∧ RelV x u ∧ RelV y v ∧ IsPair h'' c u v := by
    intro j c hj
    obtain ⟨u, v, e1, e2, e3⟩ := hG.pairs j c hj
    have e1' : its[j]? = some u := by simpa using e1
    have e2' : its2[j]? = some v := by simpa using e2
    have j1 : j < xs.length := by rw [ln]; exact (List.getElem?_eq_some_iff.mp e1').1
    have j2 : j < ys.length := by rw [ln2]; exact (List.getElem?_eq_some_iff.mp e2').1
    obtain ⟨u', eu, ru⟩ := rv.get (List.getElem?_eq_getElem j1)
    obtain ⟨v', ev, rv'⟩ := rv2.get (List.getElem?_eq_getElem j2)
    rw [e1'] at eu
    rw [e2'] at ev
    cases eu
    cases ev
    exact ⟨_, _, u, v, List.getElem?_eq_getElem j1, List.getElem?_eq_getElem j2, ru, rv', e3⟩
  have szh : h'.objs.size = s1.heap.objs.size + 5 := hsz
  have hn0 : H1 h''.objs.size = none := I3.hok.fresh (Nat.le_refl _)
  have I4 : Inv X pins σ (upd H1 h''.objs.size (.tup (as.map V.ref))) { s1 with heap := h''.push { cls := .type "tuple", data := .seq (as.map Value.ref).toArray }, toks := tk } :=
    I3.laid (t' := tk) (fun c o e => Heap.get?_push_of_some _ e) (Nat.le_refl _) (show ObjOk X.prog X.w _ _ _ (.tup (as.map V.ref)) from ⟨by rw [List.length_map, hl, List.size_toArray, List.size_toArray]; exact Nat.le_trans (Nat.min_le_left _ _) (by rw [← ln]; exact hz1), as.map Value.ref, vals_maps (fun z : Addr => V.ref z) (fun z => Value.ref z) as fun _ _ => rfl, IsTup.new _ _⟩)
  obtain ⟨H2, I5, g, qt⟩ := DX.takeT (P := fun c vs => ∃ (j : Nat) (x y : V), as[j]? = some c ∧ xs[j]? = some x ∧ ys[j]? = some y ∧ vs = [x, y]) I1 as _ I4 nd fun c hcm => by
    obtain ⟨j, hj⟩ := List.mem_iff_getElem?.mp hcm
    obtain ⟨x, y, u, v, e1, e2, ru, rv', e3⟩ := pr j c hj
    have hcl : s1.heap.objs.size ≤ c := Nat.le_trans (by show s1.heap.objs.size ≤ h'.objs.size; rw [szh]; exact Nat.le_add_right _ _) (hG.above c hcm)
    refine ⟨hcl, ?_, [x, y], ⟨j, x, y, hj, e1, e2, rfl⟩, fun H3 => ⟨(by rw [sizeLine_eq]; show 2 ≤ 16777216; omega), [u, v], .cons ru (.cons rv' .nil), ⟨_, Heap.get?_push_of_some _ e3, rfl, 0, rfl⟩⟩⟩
    rw [upd_ne (Nat.ne_of_lt (Heap.lt_size e3))]
    exact I1.hok.fresh hcl
  refine ⟨.ref h''.objs.size, H2, I5, rfl, q h''.objs.size as H2 (fun c o e => g c o (by rw [upd_ne (ne_of_none e hn0)]; exact e)) ⟨by rw [hl, List.size_toArray, List.size_toArray, ln, ln2], fun j c hj => ?_⟩ (g _ _ upd_same)⟩
  obtain ⟨vs, ⟨i, x, y, j1, e1, e2, ev⟩, hH⟩ := qt c (List.mem_of_getElem? hj)
  have eij : i = j := (List.getElem?_inj (List.getElem?_eq_some_iff.mp j1).1 nd).mp (j1.trans hj.symm)
  subst eij
  rw [ev] at hH
  exact ⟨x, y, e1, e2, hH⟩
end
end Tz
namespace Dl
open PySem PySem.Spec PyProof.Rows L2 Ss
def pairsD (as bs : List Dat) : List Dat := List.zipWith (fun a b => .tuple [a, b]) as bs
def dTupZip (da : DA) : DE := fun E R => da E fun ds E1 => ∃ as bs, ds = [.list as, .list bs] ∧ R (.tuple (pairsD as bs)) E1
theorem fz_pairs {N : Ow} {H : Hp} : ∀ {as bs : List Dat} {xs ys : List V} {cs : List Addr}, FzL N H xs as → FzL N H ys bs → Tz.Prs H xs ys cs → FzL N H (cs.map V.ref) (pairsD as bs)
  | [], bs, [], ys, cs, _, _, h => by
    have e : cs = [] := List.eq_nil_of_length_eq_zero (by rw [h.1]; simp)
    subst e
    exact .nil
  | a :: as, [], x :: xs, [], cs, _, _, h => by
    have e : cs = [] := List.eq_nil_of_length_eq_zero (by rw [h.1]; simp)
    subst e
    exact .nil
  | a :: as, b :: bs, x :: xs, y :: ys, [], _, _, h => by
    have := h.1
    simp at this
  | a :: as, b :: bs, x :: xs, y :: ys, c :: cs, .cons f l, .cons g m, h => by
    obtain ⟨x', y', e1, e2, e3⟩ := h.2 0 c rfl
    cases e1
    cases e2
    refine .cons (.tup e3 (.cons f (.cons g .nil))) (fz_pairs l m ⟨?_, fun j d hj => h.2 (j + 1) d hj⟩)
    have := h.1
    simp only [List.length_cons] at this
    omega
theorem rf_tupZip {C : Ct} {K : PySem.W.Frag} {ta : TA} {da : DA} (ha : RfA C ta da) : RfE C (Tz.tTupZip K ta) (dTupZip da) := fun W H σ E Q R Re r k =>
  ha W H σ E _ _ Re r fun vs ds H1 E1 R1 g1 f1 ⟨as, bs, e, r1⟩ => by
    subst e
    cases f1 with
    | cons f0 f1 =>
    cases f1 with
    | cons f2 f1 =>
    cases f1
    obtain ⟨a, us, rfl, hl, l⟩ := Ft.lst (.inl f0)
    obtain ⟨b, ws, rfl, hl2, l2⟩ := Ft.lst (.inl f2)
    refine ⟨a, b, us, ws, rfl, .of hl, .of hl2, fun q cs H2 g p hq => ?_⟩
    exact k (.ref q) _ _ E1 (R1.same g) (g1.trans (Gr.same g)) (.tup hq (fz_pairs (l.keep (Kp.same g)) (l2.keep (Kp.same g)) p)) r1
theorem z_tupZip {da : DA} {E : DEnv} {R : Dat → DEnv → Prop} (h : da E fun ds E1 => ∃ as bs, ds = [.list as, .list bs] ∧ R (.tuple (pairsD as bs)) E1) : dTupZip da E R := h
end Dl
namespace Rg
open PySem PySem.Spec PyProof.Rows L2
/-! ### t[::-1], t a tuple -/
section
variable {prog : Program} {w : World} {A : Around} {E : Value → Shared → Prop} {s : Shared}
theorem applied_rev {sl : Addr} {t : Tok} {n : Nat} {Q : Int × Int × Nat → Shared → Prop} (hs : s.heap.IsSliceOf sl .none .none (.int (-1) t)) (h : Q ((n : Int) - 1, -1, n) s) : wpAny (model prog w) A (Builtin.Slice.sliceApplied (.ref sl) (pure (n : Int))) Q E s := by
  obtain ⟨os, hos, hcs, hds⟩ := id hs
  unfold Builtin.Slice.sliceApplied Builtin.Slice.sliceFields
  refine wpAny_bind (wpAny_bind (wpAny_field hos hds (x := .none) rfl (wpAny_bind (wpAny_field hos hds (x := .none) rfl (wpAny_bind (wpAny_field hos hds (x := .int (-1) t) rfl (wpAny_pure ?_)))))))
  refine wpAny_bind (slicePart_int ?_)
  show wpAny _ _ (if ((-1 : Int) == 0) = true then _ else _) _ _ s
  rw [if_neg (by decide)]
  refine wpAny_bind (slicePart_none (wpAny_bind (slicePart_none (wpAny_bind (wpAny_pure ?_)))))
  have e1 : Builtin.Slice.sliceAdjust none none (-1) (n : Int) = ((n : Int) - 1, -1) := by unfold Builtin.Slice.sliceAdjust; simp
  have e2 : Builtin.Slice.slicePlaces ((n : Int) - 1) (-1) (-1) = n := by
    unfold Builtin.Slice.slicePlaces
    have h1 : ¬ ((-1 : Int) > 0) := by decide
    simp only [h1, if_false]
    split <;> first | omega | (simp only [Int.neg_neg, Int.ediv_one]; omega)
  show wpAny _ _ (match Builtin.Slice.sliceAdjust none none (-1) (n : Int) with | (lo, hi) => pure (lo, (-1 : Int), Builtin.Slice.slicePlaces lo hi (-1))) _ _ s
  rw [e1]
  show wpAny _ _ (pure ((n : Int) - 1, (-1 : Int), Builtin.Slice.slicePlaces ((n : Int) - 1) (-1) (-1))) _ _ s
  rw [e2]
  exact wpAny_pure h
theorem pick_rev (xs : Array Value) : ((List.range xs.size).filterMap fun (m : Nat) => xs[(((xs.size : Nat) : Int) - 1 + (m : Int) * -1).toNat]?).toArray = xs.toList.reverse.toArray := by
  congr 1
  have e : ∀ m ∈ List.range xs.size, xs[(((xs.size : Nat) : Int) - 1 + (m : Int) * -1).toNat]? = some ((xs.toList.reverse).getD m .none) := fun m hm => by
    have hm := List.mem_range.mp hm
    have e1 : (((xs.size : Nat) : Int) - 1 + (m : Int) * -1).toNat = xs.size - 1 - m := by omega
    rw [e1, List.getD_eq_getElem?_getD, List.getElem?_reverse (by rw [Array.length_toList]; exact hm), Array.length_toList, Array.getElem?_toList]
    rw [Array.getElem?_eq_getElem (by omega)]
    rfl
  have e2 : ∀ {l : List Nat} (f : Nat → Option Value) (g : Nat → Value), (∀ m ∈ l, f m = some (g m)) → l.filterMap f = l.map g := by
    intro l f g h
    induction l with
    | nil => rfl
    | cons a l ih =>
      rw [List.filterMap_cons_some (h a List.mem_cons_self), ih fun m hm => h m (List.mem_cons_of_mem _ hm)]
      rfl
  rw [e2 _ _ e]
  apply List.ext_getElem
  · rw [List.length_map, List.length_range, List.length_reverse, Array.length_toList]
  · intro i h1 h2
    rw [List.getElem_map, List.getElem_range, List.getD_eq_getElem?_getD, List.getElem?_eq_getElem h2]
    rfl
theorem getItem_tuple_rev {t sl : Addr} {items : Array Value} {k : Tok} {Q : Value → Shared → Prop} (ht : IsTup s.heap t items) (hs : s.heap.IsSliceOf sl .none .none (.int (-1) k))
    (h : Q (.ref s.heap.objs.size) { s with heap := s.heap.push { cls := .type "tuple", data := .seq items.toList.reverse.toArray } })
    (hsz : items.size ≤ sizeLine) : wpAny (model prog w) A (getItem (.ref t) (.ref sl)) Q E s := by
  have htake : sizeOk (.seq items.toList.reverse.toArray) := by
    show items.toList.reverse.toArray.size ≤ sizeLine
    rw [List.size_toArray, List.length_reverse, Array.length_toList]
    exact hsz
  obtain ⟨os, hos, hcs, hds⟩ := id hs
  have hTs : s.TypeIs (.ref sl) "slice" := ⟨os, hos, hcs⟩
  unfold getItem
  try with_reducible refine wpAny_holding ?_
  first | refine wpAny_bind (wpAny_pure ?_) | skip
  refine wpAny_bind (wpAny_sequenceKey ht.typeIs (by decide) ?_)
  refine wpAny_bind (wpAny_callSpecial?_slot (name := Str.ofString "__getitem__") ht.typeIs PyProof.Rows.slot_tuple_getitem
    (wpAny_call_entry PyProof.Rows.slot_tuple_getitem ht.typeIs entry_tuple_getitem ?_ (args_tuple_getitem _ _)))
  show wpAny _ _ (Builtin.Tuple.tupleItemsOf (.ref t) >>= _) _ _ s
  refine wpAny_bind (tupleItemsOf_ ht ?_)
  refine wpAny_bind (wpAny_typeOf hTs ?_)
  rw [if_pos (by decide)]
  refine wpAny_bind (applied_rev hs ?_)
  have hno : ¬ (((((items.size : Nat) : Int) - 1) == 0 && (-1 : Int) == 1 && items.size == items.size) = true) := by
    rw [show ((-1 : Int) == 1) = false from rfl, Bool.and_false, Bool.false_and]
    exact Bool.false_ne_true
  show wpAny _ _ (if ((((items.size : Nat) : Int) - 1) == 0 && (-1 : Int) == 1 && items.size == items.size) = true then _ else _) _ _ s
  rw [if_neg hno, pick_rev]
  first
    | exact wpAny_bind (m := Builtin.Tuple.tupleExact _) (wpAny_newObj_type (wpAny_pure ⟨_, rfl, wpAny_pure h⟩) htake)
    | exact wpAny_bind (m := Builtin.Tuple.tupleExact _) (wpAny_newObj_type (wpAny_bind (wpAny_pure (wpAny_pure ⟨_, rfl, wpAny_pure h⟩))) htake)
    | exact wpAny_bind (wpAny_bind (m := Builtin.Tuple.tupleExact _) (wpAny_newObj_type (wpAny_pure (wpAny_pure ⟨_, rfl, wpAny_pure h⟩)) htake))
    | exact wpAny_bind (wpAny_bind (m := Builtin.Tuple.tupleExact _) (wpAny_newObj_type (wpAny_pure ⟨_, rfl, wpAny_pure h⟩) htake))
end
def tRevA (K : PySem.W.Frag) (te : TE) : TE := fun σ H Q => te σ H fun x H1 => ∃ a xs, x = .ref a ∧ SqT K H1 a xs ∧ ∀ p, H1 p = none → Q (.ref p) (upd H1 p (.tup xs.reverse))
section
variable {X : Cx}
theorem pe_revA {e : Expr} {te : TE} {k : Nat} {p1 p2 p3 pos : Pos} (he : PE X e te) : PE X (.Subscript e (.Slice none none (some (.UnaryOp .USub (.Constant (.int 1) k p1) p2)) p3) pos) (tRevA X.K te) := by
  refine ⟨fun pins s σ H Q I h => ?_⟩
  refine Subscript_ (thn (he.run pins s σ H _ I h) fun v s1 ⟨x, H1, I1, r1, q1⟩ => ?_)
  obtain ⟨a, xs, ex, hx, q⟩ := q1
  subst ex
  cases r1
  have hst : PO X (some (.UnaryOp .USub (.Constant (.int 1) k p1) p2)) (tPart (tUn (rU fun i => .int (-i)) (tC (.int 1)))) := po_some (pe_un un_neg pe_int)
  refine wpAny_Slice (thn (po_none.run pins s1 σ H1 (fun o H2 => o = none ∧ H2 = H1) I1 ⟨rfl, rfl⟩) fun vl s2 ⟨l, H2, I2, pl, el, e2⟩ => ?_)
  subst el e2
  refine thn (po_none.run pins s2 σ H2 (fun o H3 => o = none ∧ H3 = H2) I2 ⟨rfl, rfl⟩) fun vu s3 ⟨u, H3, I3, pu, eu, e3⟩ => ?_
  subst eu e3
  refine thn (hst.run pins s3 σ H3 (fun o H4 => o = some (-1) ∧ H4 = H3) I3 ⟨1, rfl, -1, rfl, rfl, rfl⟩) fun vs s4 ⟨o, H4, I4, ps, eo, e4⟩ => ?_
  subst eo e4
  cases pl
  cases pu
  cases ps with
  | int _ t =>
  have I5 : Inv X pins σ H4 { s4 with heap := s4.heap.push { cls := .type "slice", data := .fields #[.none, .none, .int (-1) t] } } := I4.kept (t' := s4.toks) fun b ob q => Heap.get?_push_of_some _ q
  obtain ⟨its, r, ht, hz⟩ := I5.tuple hx
  have hlen := r.length
  show wpAny (model X.prog X.w) X.A (subscriptTail e (.Slice none none (some (.UnaryOp .USub (.Constant (.int 1) k p1) p2)) p3) (.ref a) (.ref s4.heap.objs.size)) (EP X pins σ Q) X.xe { s4 with heap := s4.heap.push { cls := .type "slice", data := .fields #[.none, .none, .int (-1) t] } }
  refine tail_any (ops := [.ref a, .ref s4.heap.objs.size]) ht.typeIs (PyProof.Rows.slot_tuple_getitem.lookup) ?_ (by with_unfolding_all rfl)
  refine getItem_tuple_rev ht (Heap.IsSliceOf.new _ .none .none (.int (-1) t)) ?_ (by rw [List.size_toArray, ← hlen]; exact hz)
  refine ⟨.ref _, _, I5.laid (t' := s4.toks) (o := .tup xs.reverse) (fun b ob q => Heap.get?_push_of_some _ q) (Nat.le_refl _) ?_, rfl, q _ (I5.hok.fresh (Nat.le_refl _))⟩
  exact ⟨by rw [List.length_reverse]; exact hz, _, r.reverse, IsTup.new _ _⟩
/-! ### a range as a value, and walked -/
theorem cr_range1 : CallR X (.type "range") (fun vs H Q => ∃ j, vs = [V.int j] ∧ ∀ p, H p = none → Q (.ref p) (upd H p (.rng 0 j))) := by
  intro pins s σ H vs us Q I r h
  obtain ⟨j, rfl, q⟩ := h
  obtain ⟨u1, rfl, rj⟩ := vals1 r
  obtain ⟨t, rfl⟩ := rj
  refine call_range_1 ⟨.ref s.heap.objs.size, upd H s.heap.objs.size (.rng 0 j), I.laid (t' := s.toks + 1 + 1) (fun b o e => Heap.get?_push_of_some _ e) (Nat.le_refl _) ?_, rfl, q _ (I.hok.fresh (Nat.le_refl _))⟩
  exact ⟨s.toks, t, s.toks + 1, Heap.get?_push_size _ rfl⟩
def iRngV (tl : TE) : TI := fun σ H R => tl σ H fun x H1 => ∃ a lo hi, x = .ref a ∧ H1 a = some (.rng lo hi) ∧ (-(2 ^ 62) ≤ lo ∧ lo < 2 ^ 62 ∧ -(2 ^ 62) ≤ hi ∧ hi < 2 ^ 62) ∧ R (Itr lo (hi - lo).toNat) H1
theorem pi_rngV {tg l : Expr} {tl : TE} (hl : PE X l tl) : PI X tg l (iRngV tl) := by
  refine ⟨fun pins s σ H R I h => ?_⟩
  refine thn (hl.run pins s σ H _ I h) fun v s1 ⟨x, H1, I1, r1, q1⟩ => ?_
  obtain ⟨a, lo, hi, e, hq, ⟨h1, h2, h3, h4⟩, q⟩ := q1
  subst e
  cases r1
  obtain ⟨t, u, v, ha⟩ := (show ObjOk X.prog X.w H1 s1.heap a (.rng lo hi) from I1.hok a _ hq)
  refine wpAny_pyIter_range (a := lo) (b := hi) (c := 1) (t := t) (u := u) (v := v) ha (small_one h1 h2 h3 h4) ?_
  refine ⟨s1.heap.objs.size, [s1.heap.objs.size], _, _, H1, rfl, I1.kept (t' := s1.toks) fun b o e => Heap.get?_push_of_some _ e, turn_range _ lo (hi - lo).toNat, ?_, fun b hb => ?_, q⟩
  · have e1 : lo + ((0 : Nat) : Int) * 1 = lo := by simp
    have e2 : (((hi - lo).toNat : Nat) : Int) - ((0 : Nat) : Int) = Builtin.Range.rangeSize lo hi 1 := by rw [rangeSize_one]; split <;> omega
    show IsRangeIter _ _ (lo + ((0 : Nat) : Int) * 1) ((((hi - lo).toNat : Nat) : Int) - ((0 : Nat) : Int)) 1
    rw [e1, e2]
    exact Heap.get?_push_size _ rfl
  · have e : b = s1.heap.objs.size := by simpa using hb
    subst e
    exact I1.fpOk (Nat.le_refl _) (I1.hok.fresh (Nat.le_refl _))
end
end Rg
namespace Dl
open PySem PySem.Spec PyProof.Rows L2 Ss
def rngD (lo hi : Int) : Dat := .dict [(.none, .int lo), (.none, .int hi)]
def dRevA (da : DE) : DE := fun E R => da E fun x E1 => ∃ ds, x = .tuple ds ∧ R (.tuple ds.reverse) E1
theorem rf_revA {C : Ct} {K : PySem.W.Frag} {te : TE} {da : DE} (ha : RfE C te da) : RfE C (Rg.tRevA K te) (dRevA da) := fun W H σ E Q R Re r k =>
  ha W H σ E _ _ Re r fun v d H1 E1 R1 g1 f1 ⟨ds, e, r1⟩ => by
    subst e
    obtain ⟨a, us, rfl, hl, l⟩ := Ft.tup (.inl f1)
    refine ⟨a, us, rfl, .of hl, fun q hq => ?_⟩
    have s := same_new (o := .tup us.reverse) hq
    exact k (.ref q) _ _ E1 (R1.same s) (g1.trans (Gr.same s)) (.tup upd_same (l.rev.keep (Kp.same s))) r1
theorem z_revA {da : DE} {E : DEnv} {R : Dat → DEnv → Prop} (h : da E fun x E1 => ∃ ds, x = .tuple ds ∧ R (.tuple ds.reverse) E1) : dRevA da E R := h
def rRng1 : List V → Hp → VK → Prop := fun vs H Q => ∃ j, vs = [V.int j] ∧ ∀ p, H p = none → Q (.ref p) (upd H p (.rng 0 j))
def dRngV1 (da : DA) : DE := fun E R => da E fun ds E1 => ∃ j : Int, ds = [.int j] ∧ R (rngD 0 j) E1
theorem rf_rngV1 {C : Ct} {ta : TA} {da : DA} (ha : RfA C ta da) : RfE C (tCB rRng1 ta) (dRngV1 da) := fun W H σ E Q R Re r k =>
  ha W H σ E _ _ Re r fun vs ds H1 E1 R1 g1 f1 ⟨j, e, r1⟩ => by
    subst e
    cases f1 with
    | cons f0 f1 =>
    cases f1
    cases f0
    refine ⟨j, rfl, fun p hp => ?_⟩
    have s := same_new (o := .rng 0 j) hp
    exact k (.ref p) _ _ E1 (R1.same s) (g1.trans (Gr.same s)) (.rng upd_same (R1.free0 hp).2) r1
theorem z_rngV1 {da : DA} {E : DEnv} {R : Dat → DEnv → Prop} (h : da E fun ds E1 => ∃ j : Int, ds = [.int j] ∧ R (rngD 0 j) E1) : dRngV1 da E R := h
def diRngV (da : DE) : DI := fun E R => da E fun x E1 => ∃ lo hi : Int, x = rngD lo hi ∧ (-(2 ^ 62) ≤ lo ∧ lo < 2 ^ 62 ∧ -(2 ^ 62) ≤ hi ∧ hi < 2 ^ 62) ∧ R ⟨(hi - lo).toNat, fun k d => d = .int (lo + (k : Int))⟩ E1
theorem ri_rngV {C : Ct} {ta : TE} {da : DE} (ha : RfE C ta da) : RfI C (Rg.iRngV ta) (diRngV da) := fun W H σ E Q R Re h k => ha W H σ E _ _ Re h fun v d H1 E1 R1 g1 f1 ⟨lo, hi, e, hb, r⟩ => by
  generalize e' : d = d' at f1
  cases f1 with
  | @rng a lo' hi' hp n =>
    rw [e] at e'
    unfold rngD at e'
    cases e'
    refine ⟨a, lo, hi, rfl, hp, hb, k _ _ H1 E1 R1 g1 ⟨_, _, walk_range, fun _ _ => trivial, fun N' H' m x H'' kp hm y => ?_⟩ r⟩
    obtain ⟨rfl, rfl⟩ := y
    exact ⟨Same.refl _, .int (lo + (m : Int)), rfl, .int _⟩
  | dic ea n l =>
    rw [e] at e'
    exact (rng_dic e'.symm).elim
  | _ => rw [e] at e'; cases e'
theorem z_rngV {da : DE} {E : DEnv} {RI : DIt → DEnv → Prop} (h : da E fun x E1 => ∃ lo hi : Int, x = rngD lo hi ∧ (-(2 ^ 62) ≤ lo ∧ lo < 2 ^ 62 ∧ -(2 ^ 62) ≤ hi ∧ hi < 2 ^ 62) ∧ RI ⟨(hi - lo).toNat, fun k d => d = .int (lo + (k : Int))⟩ E1) : diRngV da E RI := h
/-! ### str(i) -/
def rStrI : List V → Hp → VK → Prop := fun xs H Q => ∃ i, xs = [.int i] ∧ i.natAbs.log2 < 1920 ∧ Q (.str (toString i)) H
def oStrI : List Dat → (Dat → Prop) → Prop := fun ds R => ∃ i : Int, ds = [.int i] ∧ i.natAbs.log2 < 1920 ∧ R (.str (toString i))
theorem rfb_strI : RfB rStrI oStrI := fun N H xs ds Q R fl ⟨i, e, hz, r⟩ k => by
  subst e
  cases fl with
  | cons f fl =>
  cases fl
  have := f.int
  subst this
  exact ⟨i, rfl, hz, k _ _ H (Same.refl _) (.str _) r⟩
end Dl
namespace Kw
open PySem PySem.Spec PyProof.Rows L2 Ss Xm Dl
/-! ### f(e, .., k = v, ..): the keyword-only parameters are written -/
def tApp (n m : Nat) (t tk : TA) : TA := fun σ H Q => t σ H fun vs H1 => tk σ H1 fun zs H2 => vs.length = n ∧ zs.length = m ∧ Q (vs ++ zs) H2
structure ClK (CX : CXT) (P : Program) (w : World) (K : PySem.W.Frag) (mg : Str → Option Value) (base : Heap) (k : Nat) (x : Str) (ps : List Str) (n : Nat) (ks : List Str) (sp : Sp) : Prop where
  ex : ∃ f fd, FnOk P w K mg base CX k f fd ps sp ∧ mg x = some (.ref f) ∧ PySem.W.keepIn K (.ref f) = true ∧ KBn K fd ps n ks (fun us ws => us ++ ws) (fun vs zs => vs ++ zs)
theorem kbn_of {K : PySem.W.Frag} {fd : FuncData} {ps ks : List Str} {n : Nat} (h : ∀ us ws : List Value, us.length = n → ws.length = ks.length → bindArgs fd ⟨us, ks.zip ws⟩ = pure (ps.zip (us ++ ws))) : KBn K fd ps n ks (fun us ws => us ++ ws) (fun vs zs => vs ++ zs) :=
  ⟨fun s us ws _ h1 h2 => .of_eq (h us ws h1 h2), fun r1 r2 => r1.append r2⟩
section
variable {X : Cx} {CX : CXT} {k n : Nat} {f : Addr} {fd : FuncData} {ps ks : List Str} {sp : Sp} {E : L2.St → XK} {x : Str} {p pos : Pos} {e : Expr} {es : List Expr} {kws : List Keyword} {t tk : TA} {g : List Value → List Value → List Value} {gV : List V → List V → List V}
theorem run_fnNS {pins : List (Addr × Obj)} {σ : L2.St} {H : Hp} {s : Shared} {Q : VK} {us ws : List Value} {vs zs : List V} (F : FnOk X.prog X.w X.K X.mg X.base CX k f fd ps sp) (hr : Room k X.A) (hb : KBn X.K fd ps n ks g gV) (hx : PassesAt CX X σ (E σ))
    (I : Inv X pins σ H s) (r : Vals vs us) (rz : Vals zs ws) (l1 : vs.length = n) (l2 : zs.length = ks.length) (h : sp (gV vs zs) H Q (E σ)) : wpAny (model X.prog X.w) X.A (call (.ref f) us (ks.zip ws)) (EP X pins σ Q) X.xe s := by
  have r2 := hb.rel r rz
  refine wpAny_call (codeAny_mono (F.run X.A X.stack s H ⟨us, ks.zip ws⟩ (g us ws) (gV vs zs) Q (E σ) hr I.env0 (hb.to s us ws I.kIn (r.length.symm.trans l1) (rz.length.symm.trans l2)) r2 h) fun r s' hq => ?_)
  cases r with
  | error e => exact hx pins H s e s' I hq
  | ok fl =>
    cases fl with
    | ret u => exact I.after hq
    | next => exact False.elim hq
    | brk => exact False.elim hq
    | cont => exact False.elim hq
theorem pe_callNS (F : FnOk X.prog X.w X.K X.mg X.base CX k f fd ps sp) (hr : Room k X.A) (hg : Gl X x) (hm : X.mg x = some (.ref f)) (hk : PySem.W.keepIn X.K (.ref f) = true) (hb : KBn X.K fd ps n ks (fun us ws => us ++ ws) (fun vs zs => vs ++ zs)) (hx : ∀ σ, PassesAt CX X σ (E σ))
    (ha : PA X (e :: es) t) (hkw : PK X kws tk) (hall : (backToKw pos (keywordEach kws X.env)).all (·.1.isSome) = true := by rfl) (hks : (backToKw pos (keywordEach kws X.env)).filterMap (·.1) = ks := by rfl)
    (hdb : (x == ("__debug__" : Str)) = false := by decide) (he : starEach (e :: es) X.env = (false, eval e X.env) :: starEach es X.env := by rfl)
    (hpl : ((backTo pos (starEach (e :: es) X.env)).any (·.1) || (backToKw pos (keywordEach kws X.env)).any (·.1.isNone)) = false := by rfl) :
    PE X (.Call (.Name x p) (e :: es) kws pos) (tCallS sp E (tApp n ks.length t tk)) := by
  refine ⟨fun pins s σ H Q I h => ?_⟩
  refine wpAny_Call_Name_kw (ld_glob I hg hm ?_ hdb)
  refine PySem.W.callWith_KW (h₀ := X.base) I.ok.mod.kin hk hall (thn (ha.run pos pins s σ H _ I h) fun us s1 ⟨vs, H1, I1, r, q⟩ => ?_) hpl he
  refine thn (hkw.run pos pins s1 σ H1 _ I1 q) fun ws s2 ⟨zs, H2, I2, rz, l1, l2, q2⟩ => ⟨I2.kIn, ?_⟩
  rw [hks]
  exact run_fnNS F hr hb (hx σ) I2 r rz l1 l2 q2
end
section
variable {X : Cx} {k n : Nat} {x : Str} {ps ks : List Str} {sp : Sp} {p pos : Pos} {e : Expr} {es : List Expr} {kws : List Keyword} {t tk : TA} {Wx : WX}
theorem pe_clXK (C : ClK (L2.CX X.prog X.w) X.prog X.w X.K X.mg X.base k x ps n ks sp) (tx : Takes X Wx) (hr : Room k X.A) (hg : Gl X x)
    (ha : PA X (e :: es) t) (hkw : PK X kws tk) (hall : (backToKw pos (keywordEach kws X.env)).all (·.1.isSome) = true := by rfl) (hks : (backToKw pos (keywordEach kws X.env)).filterMap (·.1) = ks := by rfl)
    (hdb : (x == ("__debug__" : Str)) = false := by decide) (he : starEach (e :: es) X.env = (false, eval e X.env) :: starEach es X.env := by rfl)
    (hpl : ((backTo pos (starEach (e :: es) X.env)).any (·.1) || (backToKw pos (keywordEach kws X.env)).any (·.1.isNone)) = false := by rfl) :
    PE X (.Call (.Name x p) (e :: es) kws pos) (tCallS sp (WE Wx) (tApp n ks.length t tk)) := by
  obtain ⟨f, fd, F, hm, hk, b⟩ := C.ex
  exact pe_callNS F hr hg hm hk b (fun σ => passAt tx σ) ha hkw hall hks hdb he hpl
end
def dApp2 (n m : Nat) (da dk : DA) : DA := fun E R => da E fun xs E1 => dk E1 fun ys E2 => xs.length = n ∧ ys.length = m ∧ R (xs ++ ys) E2
theorem rf_app2 {C : Ct} {n m : Nat} {t tk : TA} {da dk : DA} (ha : RfA C t da) (hk : RfA C tk dk) : RfA C (tApp n m t tk) (dApp2 n m da dk) := fun W H σ E Q R Re r k =>
  ha W H σ E _ _ Re r fun vs xs H1 E1 R1 g1 f1 r1 => hk W H1 σ E1 _ _ R1 r1 fun zs ys H2 E2 R2 g2 f2 ⟨l1, l2, r2⟩ =>
    ⟨f1.len.trans l1, f2.len.trans l2, k (vs ++ zs) (xs ++ ys) H2 E2 R2 (g1.trans g2) ((f1.gr R1 g2).app f2) r2⟩
theorem z_app2 {n m : Nat} {da dk : DA} {E : DEnv} {R : List Dat → DEnv → Prop} (h : da E fun xs E1 => dk E1 fun ys E2 => xs.length = n ∧ ys.length = m ∧ R (xs ++ ys) E2) : dApp2 n m da dk E R := h
end Kw
namespace Dl
open PySem PySem.Spec PyProof.Rows L2 Ss
/-! ### [e for x in xs for y in x] -/
theorem it_gen {J : It} {n : Nat} {G : Hp → Prop} {Y : Nat → Hp → V → Hp → Prop} (w : Walk J n G Y) {Qd : Hp → Prop} {H0 : Hp} {B : (Hp → Prop) → V → Hp → Prop} (Pv : Nat → Hp → Prop) (h0 : Pv 0 H0) (hG : ∀ i H, i ≤ n → Pv i H → G H)
    (hs : ∀ i x H H', i < n → Pv i H → Y i H x H' → B (Pv (i + 1)) x H') (hd : ∀ H, Pv n H → Qd H) :
    ∃ W : Nat → Nat → Hp → Prop, (∃ m, W 0 m H0) ∧ ∀ i m H, W i m H → (J.stop i H ∧ Qd H) ∨ (J.go i H ∧ ∃ Nx : Hp → Prop, (∀ H', Nx H' → ∃ m', m' < m ∧ W (i + 1) m' H') ∧ ∀ x H', J.yld i H x H' → B Nx x H') := by
  refine ⟨fun i m H => m = n - i ∧ i ≤ n ∧ Pv i H, ⟨n, by simp, Nat.zero_le _, h0⟩, ?_⟩
  rintro i m H ⟨rfl, hi, p⟩
  have q := hG i H hi p
  by_cases hlt : i < n
  · exact .inr ⟨w.goes i H hlt q, Pv (i + 1), fun H' p' => ⟨n - (i + 1), by omega, rfl, hlt, p'⟩, fun x H' y => hs i x H H' hlt p (w.yields i H x H' hlt q y)⟩
  · have e : i = n := by omega
    subst e
    exact .inl ⟨w.stops H q, hd H p⟩
theorem Kp.trans {N N1 N2 : Ow} {H H1 H2 : Hp} (a : Kp N N1 H H1) (b : Kp N1 N2 H1 H2) : Kp N N2 H H2 := fun c o e q => by
  obtain ⟨⟨o1, e1, r1⟩, n1⟩ := a c o e q
  have q1 : (∃ xs, o1 = .tup xs) ∨ ¬ N1 c := by
    rcases q with ⟨xs, rfl⟩ | q
    · rcases r1 with rfl | ⟨kvs, z | ⟨_, z⟩, _⟩
      · exact .inl ⟨xs, rfl⟩
      · cases z
      · cases z
    · exact .inr (n1 q)
  obtain ⟨⟨o2, e2, r2⟩, n2⟩ := b c o1 e1 q1
  refine ⟨⟨o2, e2, ?_⟩, fun n => n2 (n1 n)⟩
  rcases r1 with rfl | ⟨kvs, z1, z2⟩
  · exact r2
  · rcases r2 with rfl | ⟨kvs2, z3, z4⟩
    · exact .inr ⟨kvs, z1, z2⟩
    · have ek : kvs = kvs2 := by
        rcases z2 with rfl | ⟨x, rfl⟩ <;> rcases z3 with z | ⟨y, z⟩ <;> cases z <;> rfl
      subst ek
      exact .inr ⟨kvs, z1, z4⟩
/-- the walk of a tuple -/
def WalkOkT (C : Ct) (W : Ow) (H : Hp) (J : It) (I : DIt) : Prop := ∃ (Gh : Hp → Prop) (Y : Nat → Hp → V → Hp → Prop), Walk J I.n Gh Y ∧
  (∀ H', (∀ b xs, H b = some (.tup xs) → H' b = some (.tup xs)) → Gh H') ∧ (∀ N' H' k x H'', Kp (Nn C W) N' H H' → k < I.n → Y k H' x H'' → Same H' H'' ∧ ∃ d, I.item k d ∧ Fz N' H'' x d)
def RfIT (C : Ct) (wi : TI) (di : DI) : Prop := ∀ (W : Ow) (H : Hp) (σ : L2.St) (E : DEnv) (Q : It → Hp → Prop) (R : DIt → DEnv → Prop), Rep C W H σ E → di E R →
  (∀ J I H' E', Rep C W H' σ E' → Gr W H W H' → WalkOkT C W H' J I → R I E' → Q J H') → wi σ H Q
theorem ri_tupT {C : Ct} {K : PySem.W.Frag} {ta : TE} {da : DE} (ha : RfE C ta da) : RfIT C (iTup K ta) (dItT da) := fun W H σ E Q R Re h k => ha W H σ E _ _ Re h fun v d H1 E1 R1 g1 f1 ⟨ds, e, r⟩ => by
  subst e
  cases f1 with
  | @tup a xs _ hp l =>
    have hl := l.len
    refine ⟨a, rfl, ⟨xs, .of hp⟩, k _ _ H1 E1 R1 g1 ⟨_, _, hl ▸ walk_tup (xs := xs), fun H' g => .of (g _ _ hp), fun N' H' m x H'' kp hm y => ?_⟩ r⟩
    obtain ⟨rfl, hx⟩ := y
    obtain ⟨d, hd, fd⟩ := (l.keep kp).at hx
    exact ⟨Same.refl _, d, hd, fd⟩
def Lc2Go (vs vs1 : List Nat) (I : DIt) (dg : DG) (dt : DT) (di1 : DI) (dg1 : DG) (dt1 : DT) (de : DE) (R : Dat → DEnv → Prop) (E1 : DEnv) : Prop := ∃ Wd : Nat → List Dat → DEnv → Prop, Wd 0 [] (wipeE E1 vs) ∧
  (∀ k x acc E, k < I.n → I.item k x → Wd k acc E → dg x E fun E2 => dt E2 fun b E3 => if b = true then di1 E3 fun I1 E4 => ∃ W1 : Nat → List Dat → DEnv → Prop, W1 0 acc (wipeE E4 vs1) ∧
    (∀ j y acc E, j < I1.n → I1.item j y → W1 j acc E → dg1 y E fun E5 => dt1 E5 fun b E6 => if b = true then de E6 fun z E7 => acc.length < sizeLine ∧ W1 (j + 1) (acc ++ [z]) (wipeE E7 vs1) else W1 (j + 1) acc (wipeE E6 vs1)) ∧
    (∀ acc E, W1 I1.n acc E → Wd (k + 1) acc (wipeE E vs)) else Wd (k + 1) acc (wipeE E3 vs)) ∧ ∀ acc E, Wd I.n acc E → R (.list acc) E
def dLc2 (vs vs1 : List Nat) (di : DI) (dg : DG) (dt : DT) (di1 : DI) (dg1 : DG) (dt1 : DT) (de : DE) : DE := fun E R => di E fun I E1 => Lc2Go vs vs1 I dg dt di1 dg1 dt1 de R E1
theorem rf_lc2 {S : Sx} {dy : Dy} {vs vs1 : List Nat} {wi wi1 : TI} {g g1 : TG} {tt tt1 : TT} {te : TE} {di di1 : DI} {dg dg1 : DG} {dt dt1 : DT} {de : DE} (hv : ∀ i ∈ vs1, i ∈ vs) (hi : RfI ⟨dy, S⟩ wi di) (hg : ∀ dy, RfGc ⟨dy, S⟩ vs g dg) (ht : ∀ dy, RfT ⟨dy, S⟩ tt dt)
    (hi1 : ∀ dy, RfIT ⟨dy, S⟩ wi1 di1) (hg1 : ∀ dy, RfGc ⟨dy, S⟩ vs1 g1 dg1) (ht1 : ∀ dy, RfT ⟨dy, S⟩ tt1 dt1) (he : ∀ dy, RfE ⟨dy, S⟩ te de) : RfF ⟨dy, S⟩ (tLc2 wi g tt wi1 g1 tt1 te vs vs1) (dLc2 vs vs1 di dg dt di1 dg1 dt1 de) := fun W H σ E Q R Re h k => hi W H σ E _ _ Re h fun J I H1 E1 R1 gr1 wo hw => by
  obtain ⟨Gh, Y, wk, w1, w2⟩ := wo
  obtain ⟨Wd, h0, hs, hd⟩ := hw
  intro p np
  have fr := R1.free0 np
  have fb := R1.freeb np
  have nwp : ¬ W p := fun w => fr.2 (.inr w)
  refine it_gen wk (fun i H' => ∃ E' acc xs, Rep (Ct.more ⟨dy, S⟩ p) W H' (wipe σ vs) E' ∧ Gr W H1 W H' ∧ H' p = some (.lst xs) ∧ FzL (Nn (Ct.more ⟨dy, S⟩ p) W) H' xs acc ∧ NoD E' vs ∧ Wd i acc E')
    ⟨_, [], [], (R1.more (same_new np) np (.inl ⟨[], upd_same⟩)).wipe vs, Gr.same (same_new np), upd_same, .nil, nod_wipe, h0⟩ (fun i H' _ ⟨E', acc, xs, R', g', _⟩ => w1 H' (g'.kx R1.ld)) (fun i x H' H'' hi ⟨E', acc, xs, R', g', hp, la, nd, hw⟩ y => ?_) (fun H' ⟨E', acc, xs, R', g', hp, la, nd, hw⟩ => ?_)
  · obtain ⟨s, d, hd', fd⟩ := w2 _ H' i x H'' (kp_more R1 g' np) hi y
    have R2 := R'.same s
    have la2 := la.keep (Kp.same s)
    have gs := Gr.same (W := W) s
    refine hg _ W H'' _ E' x d _ _ R2 fd (hs i d acc E' hi hd' hw) fun σ3 E3 R3 e3 r3 => ⟨e3.trans wipe_wipe, ht _ W H'' σ3 E3 _ _ R3 r3 fun b H4 E4 R4 g4 r4 => ?_⟩
    have e3' := e3.trans wipe_wipe
    have hp4 := g4.st p _ nwp (s _ _ hp)
    have la4 := la2.gr R3 g4
    cases b with
    | false =>
      refine ⟨_, acc, xs, ?_, (g'.trans gs).trans g4, hp4, la4, nod_wipe, r4⟩
      have := R4.wipe vs
      rw [e3'] at this
      exact this
    | true =>
      refine hi1 _ W H4 σ3 E4 _ _ R4 r4 fun J1 I1 H5 E5 R5 g5 wo1 hw1 => ?_
      obtain ⟨Gh1, Y1, wk1, v1, v2⟩ := wo1
      obtain ⟨W1, k0, ks, kd⟩ := hw1
      have hp5 := g5.st p _ nwp hp4
      have la5 := la4.gr R4 g5
      have gto5 : Gr W H1 W H5 := ((g'.trans gs).trans g4).trans g5
      have tp : ∀ {Ha Hb : Hp} {Wa Wb : Ow}, Gr Wa Ha Wb Hb → (∀ b, Wa b → LD Ha b) → ∀ b xs, Ha b = some (.tup xs) → Hb b = some (.tup xs) := fun g l b xs e => g.st b _ (fun w => ld_tup (l b w) e) e
      refine it_gen wk1 (fun j H' => ∃ E' acc xs, Rep (Ct.more ⟨dy, S⟩ p) W H' (wipe σ3 vs1) E' ∧ Gr W H1 W H' ∧ H' p = some (.lst xs) ∧ FzL (Nn (Ct.more ⟨dy, S⟩ p) W) H' xs acc ∧ (∀ b xs, H5 b = some (.tup xs) → H' b = some (.tup xs)) ∧ Kp (Nn (Ct.more ⟨dy, S⟩ p) W) (Nn (Ct.more ⟨dy, S⟩ p) W) H5 H' ∧ W1 j acc E')
        ⟨_, acc, xs, R5.wipe vs1, gto5, hp5, la5, fun _ _ e => e, .ex fun b o e _ => ⟨e, id⟩, k0⟩ (fun j H' _ ⟨E', acc, xs, R', g', _, _, tt', _⟩ => v1 H' tt') (fun j x1 H6 H7 hj ⟨E6, acc6, xs6, R6, g6, hp6, la6, t6, kp6, hw6⟩ y1 => ?_) (fun H6 ⟨E6, acc6, xs6, R6, g6, hp6, la6, t6, kp6, hw6⟩ => ?_)
      · obtain ⟨s1, d1, hd1, fd1⟩ := v2 _ H6 j x1 H7 kp6 hj y1
        have R7 := R6.same s1
        have la7 := la6.keep (Kp.same s1)
        have gs1 := Gr.same (W := W) s1
        have t7 : ∀ b xs, H5 b = some (.tup xs) → H7 b = some (.tup xs) := fun b xs e => s1 _ _ (t6 b xs e)
        have kp7 := kp6.trans (Kp.same (N := Nn (Ct.more ⟨dy, S⟩ p) W) s1)
        refine hg1 _ W H7 _ E6 x1 d1 _ _ R7 fd1 (ks j d1 acc6 E6 hj hd1 hw6) fun σ8 E8 R8 e8 r8 => ⟨e8.trans wipe_wipe, ht1 _ W H7 σ8 E8 _ _ R8 r8 fun b H9 E9 R9 g9 r9 => ?_⟩
        have e8' := e8.trans wipe_wipe
        have hp9 := g9.st p _ nwp (s1 _ _ hp6)
        have la9 := la7.gr R8 g9
        have t9 : ∀ b xs, H5 b = some (.tup xs) → H9 b = some (.tup xs) := fun b xs e => tp g9 (fun b w => R8.ld b (.inr w)) b xs (t7 b xs e)
        have kp9 := kp7.trans (g9.kp R8.ld)
        cases b with
        | true =>
          refine he _ W H9 σ8 E9 _ _ R9 r9 fun v d2 H10 E10 R10 g10 f10 ⟨hl, r10⟩ => ?_
          have hp10 := g10.st p _ nwp hp9
          have la10 := (la9.gr R9 g10).app (.cons f10 .nil)
          refine ⟨xs6, hp10, by rw [la6.len]; exact hl, _, acc6 ++ [d2], xs6 ++ [v], ?_, gr_new g6 ((gs1.trans g9).trans g10) np, upd_same, la10.keep (kp_put (.inl (.inr rfl)) hp10), fun b zs e => ?_, ?_, r10⟩
          · have := (R10.wipe vs1).putN (ys := xs6 ++ [v]) (.inr rfl) nwp fr.1 fb hp10
            rw [e8'] at this
            exact this
          · have e10 := tp g10 (fun b w => R9.ld b (.inr w)) b zs (t9 b zs e)
            rw [upd_ne (fun z => by rw [z, hp10] at e10; cases e10)]
            exact e10
          · exact (kp9.trans (g10.kp R9.ld)).trans (kp_put (.inl (.inr rfl)) hp10)
        | false =>
          refine ⟨_, acc6, xs6, ?_, (g6.trans gs1).trans g9, hp9, la9, t9, kp9, r9⟩
          have := R9.wipe vs1
          rw [e8'] at this
          exact this
      · refine ⟨_, acc6, xs6, ?_, g6, hp6, la6, nod_wipe, kd acc6 E6 hw6⟩
        have := R6.wipe vs
        rw [wipe_sub hv, e3'] at this
        exact this
  · have sub : ∀ b, Nn ⟨dy, S⟩ (And1 W p) b → Nn (Ct.more ⟨dy, S⟩ p) W b := fun b n => by
      rcases n with n | n | n
      · exact .inl (.inl n)
      · exact .inr n
      · exact .inl (.inr n)
    have R2 := R'.unwipe nd
    have np0 : H p = none := by
      cases e : H p with
      | none => rfl
      | some o =>
        by_cases w : W p
        · exact absurd w nwp
        · rw [gr1.st p o w e] at np; cases np
    refine k p (.list acc) H' E' ⟨R2.out, fun b w => ?_, fun b n => R2.ld b (sub b n), fun j e hj => ?_, R2.inj, R2.len, ⟨R2.gb.st, R2.gb.th, fun b w => by
      rcases w with w | rfl
      · exact R2.gb.nw b w
      · exact .inr fb⟩⟩ (gr1.trans g') np0 (.inl ⟨xs, acc, rfl, hp, la.keep (Kp.sub sub)⟩) (fun j e oj hj z => ?_) (hd acc E' hw)
    · rcases w with w | rfl
      · exact R2.w b w
      · exact .inr fr.1
    · obtain ⟨v, h1, h2⟩ := R2.slot j e hj
      refine ⟨v, h1, ?_⟩
      unfold SlotOk at *
      split
      · next hh =>
        rw [if_pos (show (Ct.more ⟨dy, S⟩ p).O j = true from hh)] at h2
        obtain ⟨a, rfl, wa, oc, m⟩ := h2
        exact ⟨a, rfl, .inl wa, oc.keep (Kp.sub sub) rfl, m⟩
      · next hh =>
        rw [if_neg (show ¬ (Ct.more ⟨dy, S⟩ p).O j = true from hh)] at h2
        exact h2.keep (Kp.sub sub)
    · obtain ⟨a, h1, wa, _⟩ := R2.own oj hj
      rw [z] at h1
      cases h1
      exact nwp wa
theorem z_lc2 {vs vs1 : List Nat} {di di1 : DI} {dg dg1 : DG} {dt dt1 : DT} {de : DE} {E : DEnv} {R : Dat → DEnv → Prop} (h : di E fun I E1 => Lc2Go vs vs1 I dg dt di1 dg1 dt1 de R E1) : dLc2 vs vs1 di dg dt di1 dg1 dt1 de E R := h
theorem pi_tupK {X : Cx} {K : PySem.W.Frag} {tg e : Expr} {te : TE} (hK : X.K = K) (h : PE X e te) : PI X tg e (iTup K te) := by
  subst hK
  exact pi_tup h
end Dl
namespace Mm
open PySem PySem.Spec PyProof.Rows L2 Ss Dl
/-! ### keys in their order -/
def kLt : Key → Key → Bool
  | .inl i, .inl j => decide (i < j)
  | .inl _, .inr _ => true
  | .inr _, .inl _ => false
  | .inr x, .inr y => decide (x.cps.toList < y.cps.toList)
theorem kLt_irr : ∀ a : Key, kLt a a = false
  | .inl i => decide_eq_false (Int.lt_irrefl i)
  | .inr x => decide_eq_false (p := x.cps.toList < x.cps.toList) (List.lt_irrefl _)
theorem kLt_trans : ∀ {a b c : Key}, kLt a b = true → kLt b c = true → kLt a c = true
  | .inl i, .inl j, .inl k, h1, h2 => decide_eq_true (Int.lt_trans (of_decide_eq_true h1) (of_decide_eq_true h2))
  | .inl _, .inl _, .inr _, _, _ => rfl
  | .inl _, .inr _, .inl _, _, h => nomatch h
  | .inl _, .inr _, .inr _, _, _ => rfl
  | .inr _, .inl _, _, h, _ => nomatch h
  | .inr _, .inr _, .inl _, _, h => nomatch h
  | .inr x, .inr y, .inr z, h1, h2 => decide_eq_true (List.lt_trans (of_decide_eq_true h1) (of_decide_eq_true h2))
theorem str_cps {x y : Str} (h : x.cps.toList = y.cps.toList) : x = y := by
  obtain ⟨⟨a⟩⟩ := x
  obtain ⟨⟨b⟩⟩ := y
  have h' : a = b := h
  rw [h']
theorem kLt_tri : ∀ {a b : Key}, kLt a b = false → a ≠ b → kLt b a = true
  | .inl i, .inl j, h, n => by
    have h1 := of_decide_eq_false h
    exact decide_eq_true (by
      have : i ≠ j := fun e => n (by rw [e])
      omega)
  | .inl _, .inr _, h, _ => nomatch h
  | .inr _, .inl _, _, _ => rfl
  | .inr x, .inr y, h, n => by
    have h1 : y.cps.toList ≤ x.cps.toList := List.not_lt.mp (of_decide_eq_false h)
    refine decide_eq_true ?_
    rcases Classical.em (y.cps.toList < x.cps.toList) with q | q
    · exact q
    · exact absurd (congrArg Sum.inr (str_cps (List.le_antisymm (List.not_lt.mp q) h1))) n
theorem kLt_asymm {a b : Key} (h : kLt a b = true) : kLt b a = false := by
  cases q : kLt b a with
  | false => rfl
  | true =>
    have := kLt_trans h q
    rw [kLt_irr] at this
    cases this
/-- a ≤ b, b < c -/
theorem kLe_lt {a b c : Key} (h1 : kLt b a = false) (h2 : kLt b c = true) : kLt a c = true := by
  by_cases e : a = b
  · rw [e]; exact h2
  · exact kLt_trans (kLt_tri h1 (Ne.symm e)) h2
def kLe (a b : Key) : Bool := !kLt b a
theorem kLt_le {a b c : Key} (h1 : kLt c a = true) (h2 : kLt b a = false) : kLt c b = true := by
  by_cases e : a = b
  · rw [← e]; exact h1
  · exact kLt_trans h1 (kLt_tri h2 (Ne.symm e))
theorem kLe_trans (a b c : Key) (h1 : kLe a b = true) (h2 : kLe b c = true) : kLe a c = true := by
  unfold kLe at *
  rw [Bool.not_eq_true'] at *
  cases q : kLt c a with
  | false => rfl
  | true =>
    rw [kLt_le q h1] at h2
    cases h2
theorem kLe_tot (a b : Key) : kLe a b = true ∨ kLe b a = true := by
  unfold kLe
  cases q : kLt b a with
  | false => exact .inl rfl
  | true => exact .inr (by rw [kLt_asymm q]; rfl)
theorem kLe_total : PySem.W.TotalLe kLe := ⟨kLe_trans, kLe_tot⟩
def ordD : Dat → Dat
  | .str x => .tuple [.bool true, .str x]
  | d => .tuple [.bool false, d]
def ordL : Dat → Dat
  | .str x => .tuple [.int 1, .int 0, .str x]
  | d => .tuple [.int 0, d, .str ""]
theorem lex_nil : PyProof.Rows.lexLt itemOrd (PySem.W.keyToksAll []) (PySem.W.keyToksAll []) = false := lex_irrefl _
theorem lt_ordD : ∀ a b : Key, PySem.W.dataLt (ordD (kD a)) (ordD (kD b)) = kLt a b
  | .inl i, .inl j => by
    show PySem.W.dataLt (.tuple [.bool false, .int i]) (.tuple [.bool false, .int j]) = decide (i < j)
    rw [PySem.W.dataLt_pair (by simp [PySem.W.alike]) (by simp [PySem.W.alike]), if_pos (by simp [PyData.eqv]), PySem.W.dataLt_int]
    simp only [PyData.eqv, beq_iff_eq]
    by_cases h : i = j
    · rw [if_pos h, decide_eq_false (by omega)]
    · rw [if_neg h]
  | .inl i, .inr y => by
    show PySem.W.dataLt (.tuple [.bool false, .int i]) (.tuple [.bool true, .str y]) = true
    rw [PySem.W.dataLt_tuple, PySem.W.dataLt_cons (by simp [PySem.W.alike]), if_neg (by simp [PyData.eqv])]
    rfl
  | .inr x, .inl j => by
    show PySem.W.dataLt (.tuple [.bool true, .str x]) (.tuple [.bool false, .int j]) = false
    rw [PySem.W.dataLt_tuple, PySem.W.dataLt_cons (by simp [PySem.W.alike]), if_neg (by simp [PyData.eqv])]
    rfl
  | .inr x, .inr y => by
    show PySem.W.dataLt (.tuple [.bool true, .str x]) (.tuple [.bool true, .str y]) = decide (x.cps.toList < y.cps.toList)
    rw [PySem.W.dataLt_pair (by simp [PySem.W.alike]) (by simp [PySem.W.alike]), if_pos (by simp [PyData.eqv]), PySem.W.dataLt_str]
    simp only [PyData.eqv, beq_iff_eq]
    by_cases h : x = y
    · rw [if_pos h, decide_eq_false (by rw [h]; exact List.lt_irrefl _)]
    · rw [if_neg h]
theorem lt_ordL : ∀ a b : Key, PySem.W.dataLt (ordL (kD a)) (ordL (kD b)) = kLt a b
  | .inl i, .inl j => by
    show PySem.W.dataLt (.tuple [.int 0, .int i, .str ""]) (.tuple [.int 0, .int j, .str ""]) = decide (i < j)
    rw [PySem.W.dataLt_tuple, PySem.W.dataLt_cons (by simp [PySem.W.alike]), if_pos (by simp [PyData.eqv]), PySem.W.dataLt_cons (by simp [PySem.W.alike]), PySem.W.dataLt_int, PySem.W.dataLt_cons (x := .str "") (y := .str "") (by simp [PySem.W.alike]), if_pos (show PyData.eqv (.str "") (.str "") = true by simp [PyData.eqv]), lex_nil]
    simp only [PyData.eqv, beq_iff_eq]
    by_cases h : i = j
    · rw [if_pos h, decide_eq_false (by omega)]
    · rw [if_neg h]
  | .inl i, .inr y => by
    show PySem.W.dataLt (.tuple [.int 0, .int i, .str ""]) (.tuple [.int 1, .int 0, .str y]) = true
    rw [PySem.W.dataLt_tuple, PySem.W.dataLt_cons (by simp [PySem.W.alike]), if_neg (by simp [PyData.eqv]), PySem.W.dataLt_int]
    rfl
  | .inr x, .inl j => by
    show PySem.W.dataLt (.tuple [.int 1, .int 0, .str x]) (.tuple [.int 0, .int j, .str ""]) = false
    rw [PySem.W.dataLt_tuple, PySem.W.dataLt_cons (by simp [PySem.W.alike]), if_neg (by simp [PyData.eqv]), PySem.W.dataLt_int]
    rfl
  | .inr x, .inr y => by
    show PySem.W.dataLt (.tuple [.int 1, .int 0, .str x]) (.tuple [.int 1, .int 0, .str y]) = decide (x.cps.toList < y.cps.toList)
    rw [PySem.W.dataLt_tuple, PySem.W.dataLt_cons (by simp [PySem.W.alike]), if_pos (by simp [PyData.eqv]), PySem.W.dataLt_cons (by simp [PySem.W.alike]), if_pos (by simp [PyData.eqv]), PySem.W.dataLt_cons (by simp [PySem.W.alike]), PySem.W.dataLt_str, lex_nil]
    simp only [PyData.eqv, beq_iff_eq]
    by_cases h : x = y
    · rw [if_pos h, decide_eq_false (by rw [h]; exact List.lt_irrefl _)]
    · rw [if_neg h]
def sortK (ks : List Key) : List Key := ks.mergeSort kLe
theorem sortK_D (ks : List Key) : (ks.map kD).mergeSort (PySem.W.dataLe false ordD) = (sortK ks).map kD := (PySem.W.sort_maps (r := kLe) kD fun a _ b _ => by
  show kLe a b = !PySem.W.dataLt (ordD (kD b)) (ordD (kD a))
  rw [lt_ordD]
  rfl).symm
theorem sortK_L (ks : List Key) : (ks.map kD).mergeSort (PySem.W.dataLe false ordL) = (sortK ks).map kD := (PySem.W.sort_maps (r := kLe) kD fun a _ b _ => by
  show kLe a b = !PySem.W.dataLt (ordL (kD b)) (ordL (kD a))
  rw [lt_ordL]
  rfl).symm
theorem keysOk_D (ks : List Key) : Sk.KeysOk ((ks.map kD).map ordD) := .inr fun d hd => by
  obtain ⟨x, hx, rfl⟩ := List.mem_map.mp hd
  obtain ⟨k, _, rfl⟩ := List.mem_map.mp hx
  cases k with
  | inl i => exact ⟨false, _, rfl, i, rfl⟩
  | inr y => exact ⟨true, _, rfl, y, rfl⟩
theorem keysOk_L (ks : List Key) : Sk.KeysOk ((ks.map kD).map ordL) := by
  rw [List.map_map]
  refine .inl ⟨PySem.W.AllAlike.of fun a b => ?_, PySem.W.Sortable.tuples fun a => ?_, fun d hd => ?_⟩
  · cases a <;> cases b <;> simp [ordL, kD, PySem.W.alike, PySem.W.alikeAll]
  · cases a <;> exact ⟨_, _, rfl⟩
  · obtain ⟨k, _, rfl⟩ := List.mem_map.mp hd
    cases k <;> simp [ordL, kD, PyData.depth, PyData.depthAll]
abbrev KO (k : Key) : Prop := (kD k).canLay0 = true
theorem lay_D {k : Key} (h : KO k) : (ordD (kD k)).canLay0 = true := by
  cases k with
  | inl i => rfl
  | inr x =>
    show (true && ((kD (.inr x)).canLay0 && true)) = true
    rw [h]
    rfl
theorem lay_L {k : Key} (h : KO k) : (ordL (kD k)).canLay0 = true := by
  cases k with
  | inl i =>
    show (true && (true && (PyData.strOk "" && true))) = true
    decide +kernel
  | inr x =>
    show (true && (true && ((kD (.inr x)).canLay0 && true))) = true
    rw [h]
    rfl
theorem sortK_len (ks : List Key) : (sortK ks).length = ks.length := List.length_mergeSort _
theorem sortK_mem {ks : List Key} {k : Key} : k ∈ sortK ks ↔ k ∈ ks := List.mem_mergeSort
theorem sortK_asc {ks : List Key} (h : ks.Nodup) : (sortK ks).Pairwise fun a b => kLt a b = true := by
  have p := PySem.W.sort_pairwise kLe_total ks
  have n : (sortK ks).Nodup := (List.mergeSort_perm ks kLe).nodup_iff.mpr h
  have both := p.and n
  refine both.imp fun {a b} ⟨h1, h2⟩ => ?_
  have h1 : (!kLt b a) = true := h1
  rw [Bool.not_eq_true'] at h1
  exact kLt_tri h1 (Ne.symm h2)
/-! ### rows: the map that they are -/
abbrev Rw := Key × Dat
def fn (m : List Rw) (k : Key) : Dat := (valD m k).getD .none
structure IsMap (rows : List Rw) (f : Key → Dat) : Prop where
  asc : rows.Pairwise fun a b => kLt a.1 b.1 = true
  val : ∀ k, fn rows k = f k
  nn : ∀ r ∈ rows, isNo r.2 = false
theorem valD_none {m : List Rw} {k : Key} : valD m k = none ↔ ∀ r ∈ m, r.1 ≠ k := by
  induction m with
  | nil => exact ⟨fun _ _ h => absurd h List.not_mem_nil, fun _ => rfl⟩
  | cons p m ih =>
    obtain ⟨j, d⟩ := p
    show (if j = k then some d else valD m k) = none ↔ _
    by_cases e : j = k
    · rw [if_pos e]
      exact ⟨fun h => (by cases h), fun h => absurd e (h _ List.mem_cons_self)⟩
    · rw [if_neg e, ih]
      constructor
      · intro h r hr
        rcases List.mem_cons.mp hr with rfl | hr
        · exact e
        · exact h r hr
      · exact fun h r hr => h r (List.mem_cons_of_mem _ hr)
theorem valD_mem {m : List Rw} {k : Key} {d : Dat} (h : valD m k = some d) : (k, d) ∈ m := by
  induction m with
  | nil => cases h
  | cons p m ih =>
    obtain ⟨j, e⟩ := p
    have h' : (if j = k then some e else valD m k) = some d := h
    by_cases q : j = k
    · rw [if_pos q] at h'
      cases h'
      rw [q]
      exact List.mem_cons_self
    · rw [if_neg q] at h'
      exact List.mem_cons_of_mem _ (ih h')
theorem valD_of {m : List Rw} (hd : m.Pairwise fun a b => a.1 ≠ b.1) {r : Rw} (h : r ∈ m) : valD m r.1 = some r.2 := by
  induction m with
  | nil => exact absurd h List.not_mem_nil
  | cons p m ih =>
    have hp := List.pairwise_cons.mp hd
    show (if p.1 = r.1 then some p.2 else valD m r.1) = some r.2
    rcases List.mem_cons.mp h with rfl | h
    · rw [if_pos rfl]
    · rw [if_neg (hp.1 r h)]
      exact ih hp.2 h
theorem asc_ne {rows : List Rw} (h : rows.Pairwise fun a b => kLt a.1 b.1 = true) : rows.Pairwise fun a b => a.1 ≠ b.1 := h.imp fun {a b} q e => by
  rw [e, kLt_irr] at q
  cases q
theorem fn_mem {rows : List Rw} {f : Key → Dat} (h : IsMap rows f) {r : Rw} (hr : r ∈ rows) : f r.1 = r.2 := by
  rw [← h.val, fn, valD_of (asc_ne h.asc) hr]
  rfl
theorem mem_fn {rows : List Rw} {f : Key → Dat} (h : IsMap rows f) {k : Key} (hk : isNo (f k) = false) : (k, f k) ∈ rows := by
  cases e : valD rows k with
  | none =>
    have := h.val k
    rw [fn, e] at this
    rw [← this] at hk
    cases hk
  | some d =>
    have := h.val k
    rw [fn, e] at this
    have e2 : d = f k := this
    rw [← e2]
    exact valD_mem e
/-- the rows of a map are one list -/
theorem asc_uniq : ∀ {a b : List Rw}, a.Pairwise (fun a b => kLt a.1 b.1 = true) → b.Pairwise (fun a b => kLt a.1 b.1 = true) → (∀ r, r ∈ a ↔ r ∈ b) → a = b
  | [], [], _, _, _ => rfl
  | [], q :: b, _, _, h => absurd ((h q).mpr List.mem_cons_self) List.not_mem_nil
  | p :: a, [], _, _, h => absurd ((h p).mp List.mem_cons_self) List.not_mem_nil
  | p :: a, q :: b, ha, hb, h => by
    have pa := List.pairwise_cons.mp ha
    have pb := List.pairwise_cons.mp hb
    have e : p = q := by
      rcases List.mem_cons.mp ((h p).mp List.mem_cons_self) with z | z
      · exact z
      · rcases List.mem_cons.mp ((h q).mpr List.mem_cons_self) with w | w
        · exact w.symm
        · have h1 := pb.1 p z
          have h2 := pa.1 q w
          rw [kLt_asymm h1] at h2
          cases h2
    subst e
    congr 1
    refine asc_uniq pa.2 pb.2 fun r => ?_
    have hr := h r
    constructor
    · intro z
      rcases List.mem_cons.mp (hr.mp (List.mem_cons_of_mem _ z)) with w | w
      · have := pa.1 r z
        rw [w, kLt_irr] at this
        cases this
      · exact w
    · intro z
      rcases List.mem_cons.mp (hr.mpr (List.mem_cons_of_mem _ z)) with w | w
      · have := pb.1 r z
        rw [w, kLt_irr] at this
        cases this
      · exact w
theorem map_uniq {a b : List Rw} {f g : Key → Dat} (ha : IsMap a f) (hb : IsMap b g) (h : ∀ k, f k = g k) : a = b := by
  refine asc_uniq ha.asc hb.asc fun r => ?_
  constructor
  · intro hr
    have e := fn_mem ha hr
    have n := ha.nn r hr
    rw [← e, h] at n
    have := mem_fn hb n
    rw [← h, e] at this
    exact this
  · intro hr
    have e := fn_mem hb hr
    have n := hb.nn r hr
    rw [← e, ← h] at n
    have := mem_fn ha n
    rw [h, e] at this
    exact this
/-- rows made of keys in order -/
def rowsOf (f : Key → Dat) (ks : List Key) : List Rw := (ks.filter fun k => !isNo (f k)).map fun k => (k, f k)
theorem rowsOf_snoc (f : Key → Dat) (ks : List Key) (k : Key) : rowsOf f (ks ++ [k]) = rowsOf f ks ++ if isNo (f k) = true then [] else [(k, f k)] := by
  unfold rowsOf
  rw [List.filter_append, List.map_append]
  congr 1
  cases e : isNo (f k) with
  | true => rw [List.filter_cons_of_neg (by rw [e]; decide)]; rfl
  | false => rw [List.filter_cons_of_pos (by rw [e]; rfl)]; rfl
theorem rowsOf_len (f : Key → Dat) (ks : List Key) : (rowsOf f ks).length ≤ ks.length := by
  unfold rowsOf
  rw [List.length_map]
  exact List.length_filter_le _ _
theorem rowsOf_map {f : Key → Dat} {ks : List Key} (h : ks.Pairwise fun a b => kLt a b = true) (cov : ∀ k, isNo (f k) = false → k ∈ ks) : IsMap (rowsOf f ks) f := by
  have asc : (rowsOf f ks).Pairwise fun a b => kLt a.1 b.1 = true := by
    unfold rowsOf
    rw [List.pairwise_map]
    exact h.filter _
  refine ⟨asc, fun k => ?_, fun r hr => ?_⟩
  · cases e : isNo (f k) with
    | false =>
      have hm : (k, f k) ∈ rowsOf f ks := List.mem_map.mpr ⟨k, List.mem_filter.mpr ⟨cov k e, by rw [e]; rfl⟩, rfl⟩
      rw [fn, valD_of (asc_ne asc) hm]
      rfl
    | true =>
      have hn : valD (rowsOf f ks) k = none := valD_none.mpr fun r hr q => by
        obtain ⟨j, hj, rfl⟩ := List.mem_map.mp hr
        have := (List.mem_filter.mp hj).2
        have q : j = k := q
        rw [q, e] at this
        cases this
      rw [fn, hn]
      cases h2 : f k with
      | none => rfl
      | _ => rw [h2] at e; cases e
  · obtain ⟨j, hj, rfl⟩ := List.mem_map.mp hr
    have := (List.mem_filter.mp hj).2
    rw [Bool.not_eq_true'] at this
    exact this
/-! ### dicts that are written -/
theorem fn_put (m : List Rw) (k : Key) (d : Dat) (j : Key) : fn (putD m k d) j = if j = k then d else fn m j := by
  unfold putD
  cases e : valD m k with
  | some x =>
    rw [if_pos (show (some x : Option Dat).isSome = true from rfl)]
    have key : ∀ m : List Rw, valD (m.map fun p => if p.1 = k then (p.1, d) else p) j = if j = k then (valD m j).map (fun _ => d) else valD m j := fun m => by
      induction m with
      | nil => split <;> rfl
      | cons p m ih =>
        show (if (if p.1 = k then (p.1, d) else p).1 = j then some (if p.1 = k then (p.1, d) else p).2 else valD (m.map _) j) = _
        rw [ih]
        show _ = if j = k then (if p.1 = j then some p.2 else valD m j).map (fun _ => d) else if p.1 = j then some p.2 else valD m j
        by_cases h1 : p.1 = k
        · rw [if_pos h1]
          show (if p.1 = j then some d else _) = _
          by_cases h2 : p.1 = j
          · have h3 : j = k := h2.symm.trans h1
            rw [if_pos h2, if_pos h3, if_pos h2]
            rfl
          · have h3 : ¬ j = k := fun z => h2 (h1.trans z.symm)
            rw [if_neg h2, if_neg h3, if_neg h3, if_neg h2]
        · rw [if_neg h1]
          show (if p.1 = j then some p.2 else _) = _
          by_cases h2 : p.1 = j
          · have h3 : ¬ j = k := fun z => h1 (h2.trans z)
            rw [if_pos h2, if_neg h3, if_pos h2]
          · rw [if_neg h2, if_neg h2]
    unfold fn
    rw [key]
    by_cases h : j = k
    · rw [if_pos h, if_pos h, h, e]
      rfl
    · rw [if_neg h, if_neg h]
  | none =>
    rw [if_neg (show ¬ (none : Option Dat).isSome = true from Bool.false_ne_true)]
    have app : ∀ m : List Rw, valD (m ++ [(k, d)]) j = (valD m j).or (if k = j then some d else none) := fun m => by
      induction m with
      | nil => rfl
      | cons p m ih =>
        show (if p.1 = j then some p.2 else valD (m ++ [(k, d)]) j) = (if p.1 = j then some p.2 else valD m j).or _
        split
        · rfl
        · exact ih
    unfold fn
    rw [app]
    by_cases h : j = k
    · rw [if_pos h, h, e, if_pos rfl]
      rfl
    · rw [if_neg h, if_neg (Ne.symm h)]
      cases valD m j <;> rfl
theorem put_keys {m : List Rw} {k : Key} {d : Dat} {j : Key} : (valD (putD m k d) j).isSome = true ↔ j = k ∨ (valD m j).isSome = true := by
  have mem : ∀ {m : List Rw} {j : Key}, (valD m j).isSome = true ↔ ∃ r ∈ m, r.1 = j := fun {m j} => by
    cases e : valD m j with
    | none => exact ⟨fun h => (by cases h), fun ⟨r, hr, q⟩ => absurd q (valD_none.mp e r hr)⟩
    | some d => exact ⟨fun _ => ⟨_, valD_mem e, rfl⟩, fun _ => rfl⟩
  rw [mem, mem]
  unfold putD
  cases e : valD m k with
  | some x =>
    rw [if_pos (show (some x : Option Dat).isSome = true from rfl)]
    constructor
    · rintro ⟨r, hr, rfl⟩
      obtain ⟨p, hp, rfl⟩ := List.mem_map.mp hr
      by_cases q : p.1 = k
      · rw [if_pos q]
        exact .inl q
      · rw [if_neg q]
        exact .inr ⟨p, hp, rfl⟩
    · rintro (rfl | ⟨r, hr, rfl⟩)
      · exact ⟨(j, d), List.mem_map.mpr ⟨(j, x), valD_mem e, by rw [if_pos rfl]⟩, rfl⟩
      · by_cases q : r.1 = k
        · exact ⟨(r.1, d), List.mem_map.mpr ⟨r, hr, by rw [if_pos q]⟩, rfl⟩
        · exact ⟨r, List.mem_map.mpr ⟨r, hr, by rw [if_neg q]⟩, rfl⟩
  | none =>
    rw [if_neg (show ¬ (none : Option Dat).isSome = true from Bool.false_ne_true)]
    constructor
    · rintro ⟨r, hr, rfl⟩
      rcases List.mem_append.mp hr with hr | hr
      · exact .inr ⟨r, hr, rfl⟩
      · rw [List.mem_singleton.mp hr]
        exact .inl rfl
    · rintro (rfl | ⟨r, hr, rfl⟩)
      · exact ⟨(j, d), List.mem_append_right _ List.mem_cons_self, rfl⟩
      · exact ⟨r, List.mem_append_left _ hr, rfl⟩
def KN (m : List Rw) : Prop := (m.map fun r => r.1).Nodup
theorem kn_nil : KN [] := List.nodup_nil
theorem kn_put {m : List Rw} (h : KN m) (k : Key) (d : Dat) : KN (putD m k d) := by
  unfold KN putD
  cases e : valD m k with
  | some x =>
    rw [if_pos (show (some x : Option Dat).isSome = true from rfl), List.map_map]
    have : ((fun r : Rw => r.1) ∘ fun p : Rw => if p.1 = k then (p.1, d) else p) = fun r => r.1 := funext fun p => by
      show (if p.1 = k then (p.1, d) else p).1 = p.1
      split <;> rfl
    rw [this]
    exact h
  | none =>
    rw [if_neg (show ¬ (none : Option Dat).isSome = true from Bool.false_ne_true), List.map_append]
    refine List.nodup_append.mpr ⟨h, List.pairwise_singleton _ _, fun a ha b hb q => ?_⟩
    obtain ⟨r, hr, rfl⟩ := List.mem_map.mp ha
    exact valD_none.mp e r hr (q.trans (List.mem_singleton.mp hb))
theorem put_len (m : List Rw) (k : Key) (d : Dat) : (putD m k d).length ≤ m.length + 1 := by
  unfold putD
  split
  · rw [List.length_map]; omega
  · rw [List.length_append]; exact Nat.le_refl _
theorem put_vals {m : List Rw} {k : Key} {d : Dat} {P : Dat → Prop} (h : ∀ r ∈ m, P r.2) (hd : P d) : ∀ r ∈ putD m k d, P r.2 := fun r hr => by
  unfold putD at hr
  split at hr
  · obtain ⟨p, hp, rfl⟩ := List.mem_map.mp hr
    split
    · exact hd
    · exact h p hp
  · rcases List.mem_append.mp hr with hr | hr
    · exact h r hr
    · rw [List.mem_singleton.mp hr]
      exact hd
theorem put_ks {m : List Rw} {k : Key} {d : Dat} {P : Key → Prop} (h : ∀ r ∈ m, P r.1) (hd : P k) : ∀ r ∈ putD m k d, P r.1 := fun r hr => by
  unfold putD at hr
  split at hr
  · obtain ⟨p, hp, rfl⟩ := List.mem_map.mp hr
    split
    · exact h p hp
    · exact h p hp
  · rcases List.mem_append.mp hr with hr | hr
    · exact h r hr
    · rw [List.mem_singleton.mp hr]
      exact hd
theorem merge_snoc (m rows : List Rw) (r : Rw) : mergeD m (rows ++ [r]) = putD (mergeD m rows) r.1 r.2 := by
  unfold mergeD
  rw [List.foldl_append]
  rfl
/-- the entries of a dict -/
def entsOf (m : List Rw) : List Rw := rowsOf (fn m) (sortK (m.map fun r => r.1))
theorem ents_map {m : List Rw} (h : KN m) : IsMap (entsOf m) (fn m) := rowsOf_map (sortK_asc h) fun k hk => by
  refine sortK_mem.mpr (List.mem_map.mpr ?_)
  unfold fn at hk
  cases e : valD m k with
  | none => rw [e] at hk; cases hk
  | some d => exact ⟨_, valD_mem e, rfl⟩
theorem ents_len (m : List Rw) : (entsOf m).length ≤ m.length := by
  have := rowsOf_len (fn m) (sortK (m.map fun r => r.1))
  rw [sortK_len, List.length_map] at this
  exact this
theorem map_self {rows : List Rw} {f : Key → Dat} (h : IsMap rows f) : IsMap rows (fn rows) := ⟨h.asc, fun _ => rfl, h.nn⟩
theorem map_kn {rows : List Rw} {f : Key → Dat} (h : IsMap rows f) : KN rows := List.pairwise_map.mpr (asc_ne h.asc)
/-- rows put one after another: the dict of them -/
theorem merge_kn (rows : List Rw) : KN (mergeD [] rows) := by
  have : ∀ (rows m : List Rw), KN m → KN (mergeD m rows) := fun rows => by
    induction rows with
    | nil => exact fun m h => h
    | cons r rows ih => exact fun m h => ih _ (kn_put h _ _)
  exact this rows [] kn_nil
theorem merge_len (rows : List Rw) : (mergeD [] rows).length ≤ rows.length := by
  have : ∀ (rows m : List Rw), (mergeD m rows).length ≤ m.length + rows.length := fun rows => by
    induction rows with
    | nil => exact fun m => Nat.le_refl _
    | cons r rows ih =>
      intro m
      have a := ih (putD m r.1 r.2)
      have := put_len m r.1 r.2
      rw [List.length_cons]
      show (mergeD (putD m r.1 r.2) rows).length ≤ _
      omega
  have := this rows []
  rw [List.length_nil, Nat.zero_add] at this
  exact this
/-- rows of different keys, put one after another, are themselves -/
theorem merge_self {rows : List Rw} (h : KN rows) : mergeD [] rows = rows := by
  have : ∀ (rows m : List Rw), (∀ r ∈ rows, valD m r.1 = none) → KN rows → mergeD m rows = m ++ rows := fun rows => by
    induction rows with
    | nil => exact fun m _ _ => (List.append_nil m).symm
    | cons r rows ih =>
      intro m hm hk
      have hp := List.nodup_cons.mp (show (r.1 :: rows.map fun r => r.1).Nodup from hk)
      have e : putD m r.1 r.2 = m ++ [r] := by
        unfold putD
        rw [hm r List.mem_cons_self]
        rfl
      show mergeD (putD m r.1 r.2) rows = _
      rw [e, ih (m ++ [r]) (fun q hq => ?_) hp.2, List.append_assoc]
      · rfl
      · refine valD_none.mpr fun p hp' z => ?_
        rcases List.mem_append.mp hp' with w | w
        · exact valD_none.mp (hm q (List.mem_cons_of_mem _ hq)) p w z
        · rw [List.mem_singleton.mp w] at z
          exact hp.1 (z ▸ List.mem_map.mpr ⟨q, hq, rfl⟩)
  exact this rows [] (fun _ _ => rfl) h
end Mm
namespace Dl
open PySem PySem.Spec PyProof.Rows L2 Ss
/-! ### a def that writes its first argument and one more, or only reads that one while its caller writes it -/
abbrev DSp2 := List Dat → (Dat → Dat → Dat → Prop) → Prop
def spOf2 (n p : Nat) (sp : DSp2) : Sp := fun vs H Q _ => vs.length = n ∧ ∃ (ds : List Dat) (N0 : Ow) (a b : Addr), (∀ x, N0 x → LD H x) ∧ N0 a ∧ N0 b ∧ a ≠ b ∧ vs.length = ds.length ∧
  (∀ i v d, vs[i]? = some v → ds[i]? = some d → if i = 0 then v = .ref a ∧ OwnC N0 H a d else if i = p then v = .ref b ∧ OwnC N0 H b d else Fz N0 H v d) ∧
  ∃ Qd : Dat → Dat → Dat → Prop, sp ds Qd ∧ ∀ r o1 o2, Qd r o1 o2 → ∀ v H', (∀ x y, x ≠ a → x ≠ b → H x = some y → H' x = some y) → (∀ x, N0 x → LD H' x) → OwnC N0 H' a o1 → OwnC N0 H' b o2 → Fz N0 H' v r → Q v H'
section
variable {C : Ct} {n p : Nat} {XE : XK}
/-- arguments, of which the one at p is the written slot j -/
structure AB (N : Ow) (H : Hp) (b : Addr) (d : Dat) (p : Nat) (vs : List V) (ds : List Dat) : Prop where
  len : vs.length = ds.length
  at_ : ∀ i v e, vs[i]? = some v → ds[i]? = some e → if i = p then v = .ref b ∧ e = d else Fz N H v e
def RfAb (C : Ct) (j p : Nat) (ta : TA) (da : DA) : Prop := ∀ (W : Ow) (H : Hp) (σ : L2.St) (E : DEnv) (Q : List V → Hp → Prop) (R : List Dat → DEnv → Prop), Rep C W H σ E → da E R →
  (∀ vs ds H' E' b d, Rep C W H' σ E' → Gr W H W H' → σ[j]? = some (some (.ref b)) → E'[j]? = some (some d) → AB (Nn C W) H' b d p vs ds → R ds E' → Q vs H') → ta σ H Q
def dBCons (j : Nat) (dr : DA) : DA := fun E R => (∃ d, E[j]? = some (some d)) ∧ dr E fun xs E2 => ∃ d, E2[j]? = some (some d) ∧ R (d :: xs) E2
theorem rab_here {j : Nat} {tr : TA} {dr : DA} (hO : C.O j = true) (hr : RfA C tr dr) : RfAb C j 0 (tCons (tVar j) tr) (dBCons j dr) := fun W H σ E Q R Re ⟨⟨d0, h0⟩, r⟩ k => by
  obtain ⟨b, h1, _⟩ := Re.own hO h0
  refine ⟨.ref b, h1, hr W H σ E _ _ Re r fun xs ds H2 E2 R2 g2 f2 ⟨d, hd, r2⟩ => k _ _ H2 E2 b d R2 g2 h1 hd ⟨congrArg (· + 1) f2.len, fun i v e e1 e2 => ?_⟩ r2⟩
  cases i with
  | zero =>
    cases e1
    cases e2
    exact ⟨rfl, rfl⟩
  | succ i =>
    obtain ⟨e', h3, f⟩ := f2.at (show xs[i]? = some v by simpa using e1)
    rw [show ds[i]? = some e by simpa using e2] at h3
    cases h3
    exact f
theorem rab_next {j : Nat} {ta : TE} {da : DE} {tr : TA} {dr : DA} (ha : RfE C ta da) (hr : RfAb C j p tr dr) : RfAb C j (p + 1) (tCons ta tr) (dCons da dr) := fun W H σ E Q R Re r k =>
  ha W H σ E _ _ Re r fun x dx H1 E1 R1 g1 f1 r1 => hr W H1 σ E1 _ _ R1 r1 fun vs ds H2 E2 b d R2 g2 hb hd ab r2 => k (x :: vs) (dx :: ds) H2 E2 b d R2 (g1.trans g2) hb hd ⟨congrArg (· + 1) ab.len, fun i v e e1 e2 => by
    cases i with
    | zero =>
      cases e1
      cases e2
      exact f1.gr R1 g2
    | succ i =>
      have := ab.at_ i v e (by simpa using e1) (by simpa using e2)
      by_cases q : i = p
      · rw [if_pos q] at this
        rw [if_pos (congrArg (· + 1) q)]
        exact this
      · rw [if_neg q] at this
        rw [if_neg (fun z => q (Nat.succ.inj z))]
        exact this⟩ r2
def dCallM2 (n : Nat) (sp : DSp2) (i j : Nat) (dr : DA) : DE := fun E R => (∃ d, E[i]? = some (some d)) ∧ dr E fun ds E1 => ds.length + 1 = n ∧ ∃ d, E1[i]? = some (some d) ∧ sp (d :: ds) fun r o1 o2 => R r ((E1.set i (some o1)).set j (some o2))
theorem rf_callM2 {sp : DSp2} {i j : Nat} {tr : TA} {dr : DA} (hO : C.O i = true) (hj : C.O j = true) (hij : (i == j) = false) (ha : RfAb C j p tr dr) : RfE C (tCall (spOf2 n (p + 1) sp) [] XE (tCons (tVar i) tr)) (dCallM2 n sp i j dr) := fun W H σ E Q R Re ⟨⟨d0, h0⟩, r⟩ k => by
  have nij : i ≠ j := fun z => by
    subst z
    simp at hij
  obtain ⟨a, h1, _⟩ := Re.own hO h0
  refine ⟨.ref a, h1, ha W H σ E _ _ Re r fun vs ds H1 E1 b d2 R1 g1 hb hd2 ab ⟨hn, d, hd, r1⟩ => ?_⟩
  show spOf2 n _ sp ((V.ref a :: vs) ++ []) H1 Q XE
  rw [List.append_nil]
  obtain ⟨c, h2, wa, oc, mo⟩ := R1.own hO hd
  rw [h1] at h2
  cases h2
  obtain ⟨c, h3, wb, ob, mb⟩ := R1.own hj hd2
  rw [hb] at h3
  cases h3
  have nab : a ≠ b := fun z => by
    subst z
    exact R1.inj i j _ _ _ hO hj nij hd hd2 h1 hb
  refine ⟨(congrArg (· + 1) ab.len).trans hn, d :: ds, Nn C W, a, b, R1.ld, .inr wa, .inr wb, nab, congrArg (· + 1) ab.len, fun i' v e e1 e2 => ?_, _, r1, fun r o1 o2 q v H' st ld oa' ob' ro => ?_⟩
  · cases i' with
    | zero =>
      cases e1
      cases e2
      exact ⟨rfl, oc⟩
    | succ i' =>
      have := ab.at_ i' v e (by simpa using e1) (by simpa using e2)
      rw [if_neg (Nat.succ_ne_zero _)]
      by_cases q : i' = p
      · rw [if_pos q] at this
        rw [if_pos (congrArg (· + 1) q)]
        obtain ⟨rfl, rfl⟩ := this
        exact ⟨rfl, ob⟩
      · rw [if_neg q] at this
        rw [if_neg (fun z => q (Nat.succ.inj z))]
        exact this
  -- by way of the heap in which only the first one has changed
  obtain ⟨x0, hx0⟩ : ∃ o, H1 b = some o := by
    rcases ob.ld with ⟨xs, h⟩ | ⟨xs, h⟩ <;> exact ⟨_, h⟩
  let Hm : Hp := fun x => if x = b then H1 b else H' x
  have mb1 : Hm b = some x0 := (if_pos rfl).trans hx0
  have mne : ∀ {x}, x ≠ b → Hm x = H' x := fun {x} h => if_neg h
  have kb : Kp (Nn C W) (Nn C W) H' Hm := .ex fun x o e h => by
    have nx : x ≠ b := fun z => by
      subst z
      rcases h with ⟨xs, rfl⟩ | h
      · exact ld_tup ob'.ld e
      · exact h (.inr wb)
    exact ⟨(mne nx).trans e, id⟩
  obtain ⟨R2, g2⟩ := R1.put (H' := Hm) hO hd h1 wa mo (fun x nx o e => by
    by_cases z : x = b
    · subst z
      rw [mb1, ← hx0, e]
    · exact (mne z).trans (st x o nx z e)) (oa'.keep kb (mne nab))
  have hd3 : (E1.set i (some o1))[j]? = some (some d2) := (List.getElem?_set_ne nij).trans hd2
  have mkb : Kp (Nn C W) (Nn C W) H' H' := Kp.sub fun _ z => z
  obtain ⟨R3, g3⟩ := R2.put (H' := H') hj hd3 hb wb mb (fun x nx o e => (mne nx).symm.trans e) (ob'.keep mkb rfl)
  exact k v r H' _ R3 ((g1.trans g2).trans g3) ro q
theorem z_callM2 {sp : DSp2} {i j : Nat} {dr : DA} {E : DEnv} {R : Dat → DEnv → Prop} {d : Dat} (hv : E[i]? = some (some d)) (h : dr E fun ds E1 => ds.length + 1 = n ∧ ∃ d, E1[i]? = some (some d) ∧ sp (d :: ds) fun r o1 o2 => R r ((E1.set i (some o1)).set j (some o2))) : dCallM2 n sp i j dr E R := ⟨⟨d, hv⟩, h⟩
theorem z_bcons {j : Nat} {dr : DA} {E : DEnv} {R : List Dat → DEnv → Prop} {d : Dat} (hv : E[j]? = some (some d)) (h : dr E fun xs E2 => ∃ d, E2[j]? = some (some d) ∧ R (d :: xs) E2) : dBCons j dr E R := ⟨⟨d, hv⟩, h⟩
end
theorem entryM2 {O : Nat → Bool} {n p : Nat} {sp : DSp2} {t : TS} {d : DS} {N : List Str} {vs : List V} {H : Hp} {Q : VK} {E : XK} (h : spOf2 n p sp vs H Q E) (ht : ∀ dy, RfS ⟨dy, ⟨O, some 0, false, some p⟩⟩ t d) (h0 : O 0 = true) (hp : O p = true) (pn : p < n) (p0 : 0 < p) (hO : ∀ i, i < n → i ≠ 0 → i ≠ p → O i = false)
    (hd : ∀ ds Qd, ds.length = n → sp ds Qd → d ⟨fun E => ∃ o1 o2, E[0]? = some (some o1) ∧ E[p]? = some (some o2) ∧ Qd .none o1 o2, fun r E => ∃ o1 o2, E[0]? = some (some o1) ∧ E[p]? = some (some o2) ∧ Qd r o1 o2, fun _ => False, fun _ => False⟩ (envOf N.length ds)) : t { nx := fun _ H' => Q .non H', rt := Q } (L2.start N vs) H := by
  obtain ⟨hn, ds, N0, a, b, ld, na, nb, nab, al, ag, Qd, hsp, k⟩ := h
  have dl : ds.length = n := al.symm.trans hn
  have PN : ∀ x, (fun x => x = a ∨ x = b) x → N0 x := fun x h => by
    rcases h with rfl | rfl
    · exact na
    · exact nb
  let C : Ct := ⟨⟨H, fun x => x = a ∨ x = b, N0, PN, fun x => x = a ∨ x = b, H, fun x => x = a, fun x => x = b⟩, ⟨O, some 0, false, some p⟩⟩
  have unN : ∀ x, Nn C (fun x => x = a ∨ x = b) x → N0 x := fun x z => by
    rcases z with z | z
    · exact z
    · exact PN x z
  have cls : ∀ {i}, i < n → O i = true → i = 0 ∨ i = p := fun {i} hi oi => by
    by_cases z : i = 0
    · exact .inl z
    · by_cases z2 : i = p
      · exact .inr z2
      · rw [hO i hi z z2] at oi
        cases oi
  have R0 : Rep C (fun x => x = a ∨ x = b) H (L2.start N vs) (envOf N.length ds) := by
    refine ⟨fun x o _ e => e, fun x w => .inl w, fun x z => ld x (unN x z), fun i e he => ?_, fun i j d1 d2 v oi oj nij h1 h2 h3 => ?_, ?_, Gr.refl _ H⟩
    · obtain ⟨hi, hde⟩ := env_get he
      have hv : i < vs.length := by rw [al]; exact hi
      refine ⟨vs[i], by rw [start_get hv, List.getElem?_eq_getElem hv]; rfl, ?_⟩
      have hvi : vs[i]? = some vs[i] := List.getElem?_eq_getElem hv
      have A := ag i _ e hvi hde
      unfold SlotOk
      by_cases oi : O i = true
      · rw [if_pos (show C.O i = true from oi)]
        rcases cls (by omega) oi with z | z
        · rw [if_pos z] at A
          obtain ⟨ev, oc⟩ := A
          refine ⟨a, ev, .inl rfl, oc.keep (Kp.sub unN) rfl, fun w => absurd (by rw [z]) w, fun _ => rfl, fun w => ?_⟩
          have w : some p = some i := w
          cases w
          omega
        · rw [if_neg (by omega), if_pos z] at A
          obtain ⟨ev, oc⟩ := A
          refine ⟨b, ev, .inr rfl, oc.keep (Kp.sub unN) rfl, fun _ w => absurd (by rw [z]) w, fun w => ?_, fun _ => rfl⟩
          have w : some 0 = some i := w
          cases w
          omega
      · rw [if_neg (show ¬ C.O i = true from oi)]
        rw [if_neg (fun z => oi (by rw [z]; exact h0)), if_neg (fun z => oi (by rw [z]; exact hp))] at A
        exact A.keep (Kp.sub unN)
    · obtain ⟨hi, e1⟩ := env_get h1
      obtain ⟨hj, e2⟩ := env_get h2
      have hvi : i < vs.length := by omega
      have hvj : j < vs.length := by omega
      rw [start_get hvi, List.getElem?_eq_getElem hvi] at h3
      rw [start_get hvj, List.getElem?_eq_getElem hvj]
      have A := ag i _ _ (List.getElem?_eq_getElem hvi) e1
      have B := ag j _ _ (List.getElem?_eq_getElem hvj) e2
      intro z
      have z1 : vs[i] = v := Option.some.inj (Option.some.inj h3)
      have z2 : vs[j] = v := Option.some.inj (Option.some.inj z)
      rw [z1] at A
      rw [z2] at B
      rcases cls (by omega) oi with q1 | q1 <;> rcases cls (by omega) oj with q2 | q2
      · omega
      · rw [if_pos q1] at A
        rw [if_neg (by omega), if_pos q2] at B
        have := A.1.symm.trans B.1
        cases this
        exact nab rfl
      · rw [if_pos q2] at B
        rw [if_neg (by omega), if_pos q1] at A
        have := A.1.symm.trans B.1
        cases this
        exact nab rfl
      · omega
    · unfold L2.start envOf
      simp only [List.length_append, List.length_map, List.length_replicate, al]
  have fin : ∀ W' H' σ E v r, Rep C W' H' σ E → RtOk C W' H' v r → (∃ o1 o2, E[0]? = some (some o1) ∧ E[p]? = some (some o2) ∧ Qd r o1 o2) → Q v H' := fun W' H' σ E v r R ro ⟨o1, o2, e1, e2, q⟩ => by
    obtain ⟨a', h1, wa, oa, ma⟩ := R.own (C := C) h0 e1
    obtain ⟨b', h2, wb, ob, mb⟩ := R.own (C := C) hp e2
    have ea : a' = a := ma.2.1 rfl
    have eb : b' = b := mb.2.2 rfl
    subst ea
    subst eb
    have sub : ∀ x, N0 x → Nn C W' x := fun x z => .inl z
    refine k r o1 o2 q v H' (fun x y n1 n2 e => R.out x y (fun z => z.elim n1 n2) e) (fun x z => R.ld x (.inl z)) (oa.keep (Kp.sub sub) rfl) (ob.keep (Kp.sub sub) rfl) ?_
    unfold RtOk at ro
    rw [if_neg (show ¬ C.fr = true from Bool.false_ne_true)] at ro
    exact ro
  refine ht C.toDy (fun x z => ld_some (ld x z)) _ H _ _ _ _ R0 (hd ds Qd dl hsp) ⟨fun W' H' σ E R g q => ?_, fun W' H' σ E v r R g ro q => fin W' H' σ E v r R ro q, fun W' H' σ E R g q => q.elim, fun W' H' σ E R g q => q.elim⟩
  refine fin W' H' σ E .non .none R ?_ q
  unfold RtOk
  rw [if_neg (show ¬ C.fr = true from Bool.false_ne_true)]
  exact .non
theorem z_bc {j : Nat} {E : DEnv} {d : Dat} {Q : Dat → Prop} (h : E[j]? = some (some d)) (q : Q d) : ∃ d, E[j]? = some (some d) ∧ Q d := ⟨d, h, q⟩
theorem z_mret2 {p : Nat} {E : DEnv} {o1 o2 : Dat} {Q : Dat → Dat → Prop} (h : E[0]? = some (some o1)) (h2 : E[p]? = some (some o2)) (q : Q o1 o2) : ∃ o1 o2, E[0]? = some (some o1) ∧ E[p]? = some (some o2) ∧ Q o1 o2 := ⟨o1, o2, h, h2, q⟩
/-! ### a new list of values without lists and dicts, read from any slots -/
def tBorG (t : TE) : TE := t
theorem pe_borG {X : Cx} {e : Expr} {t : TE} (h : PE X e t) : PE X e (tBorG t) := ⟨h.run⟩
def dBorG (d : DE) : DE := fun E R => d E fun x _ => ∃ ds : List Dat, x = .list ds ∧ (∀ r ∈ ds, Free r) ∧ R x E
theorem rf_borG {C : Ct} {t : TE} {d : DE} (h : ∀ dy, RfF ⟨dy, sxB⟩ t d) : RfF C (tBorG t) (dBorG d) := fun W H σ E Q R Re r k =>
  h (dyB H) (fun _ => False) H σ E Q (fun x _ => ∃ ds : List Dat, x = .list ds ∧ (∀ r ∈ ds, Free r) ∧ R x E) (rep_bor Re) r fun p x H' E' _ g np oc _ ⟨m, ex, hm, r1⟩ => by
    subst ex
    have s : Same H H' := fun b o e => g.st b o (fun z => z) e
    rcases oc with ⟨xs, ds, e, hp, l⟩ | ⟨kvs, ds, e, _, _⟩
    · cases e
      obtain ⟨R2, av⟩ := Re.grow s np (.inl ⟨xs, hp⟩)
      exact k p _ H' E R2 (Gr.same s) np (.inl ⟨xs, m, rfl, hp, free_all l hm⟩) av r1
    · exact (dicD_list e.symm).elim
theorem z_borG {d : DE} {E : DEnv} {R : Dat → DEnv → Prop} (h : d E fun x _ => ∃ ds : List Dat, x = .list ds ∧ (∀ r ∈ ds, Free r) ∧ R x E) : dBorG d E R := h
/-- the right side is a written slot, the answer a new list -/
theorem rf_opWF {C : Ct} {r : R2} {o : Dat → Dat → (Dat → Prop) → Prop} {i : Nat} {ta : TE} {da : DE} (hO : C.O i = true) (hr : RfOF r o) (ha : RfE C ta da) : RfF C (tOp r ta (tVar i)) (dOpW o da i) := fun W H σ E Q R Re r k =>
  ha W H σ E _ _ Re r fun x dx H1 E1 R1 g1 f1 ⟨y, hy, r1⟩ => by
    obtain ⟨a, h1, _⟩ := R1.own hO hy
    exact ⟨.ref a, h1, hr _ H1 x (.ref a) dx y Q _ (.inl f1) (R1.ft hO hy h1) r1 (rf_new Re R1 g1 k)⟩
end Dl
namespace Dl
open PySem PySem.Spec PyProof.Rows L2 Ss Sk
/-! ### a key is taken out of a written dict -/
def dropD (m : List (Key × Dat)) (k : Key) : List (Key × Dat) := m.filter fun p => !decide (p.1 = k)
theorem FzK.drop {N : Ow} {H : Hp} {k : Key} : ∀ {kvs : List (Key × V)} {m : List (Key × Dat)}, FzK N H kvs m → FzK N H (dropK kvs k) (dropD m k)
  | _, _, .nil => .nil
  | _, _, @FzK.cons _ _ j v vs d ds a l => by
    have ih := FzK.drop (k := k) l
    show FzK N H (List.filter (fun kv => decide (kv.1 ≠ k)) ((j, v) :: vs)) (List.filter (fun p => !decide (p.1 = k)) ((j, d) :: ds))
    rw [List.filter_cons, List.filter_cons]
    by_cases e : j = k
    · rw [show decide ((j, v).1 ≠ k) = false from decide_eq_false (fun z => z e), show (!decide ((j, d).1 = k)) = false by rw [decide_eq_true (show (j, d).1 = k from e)]; rfl, if_neg Bool.false_ne_true, if_neg Bool.false_ne_true]
      exact ih
    · rw [show decide ((j, v).1 ≠ k) = true from decide_eq_true e, show (!decide ((j, d).1 = k)) = true by rw [decide_eq_false (show ¬ (j, d).1 = k from e)]; rfl, if_pos rfl, if_pos rfl]
      exact .cons a ih
/-- d.pop(k), d a written dict that has k, as a statement -/
def dDPop (i : Nat) (dy : DE) : DS := fun DD E => (∃ m, E[i]? = some (some (dicD m))) ∧ dy E fun y E2 => ∃ k m d, y = kD k ∧ E2[i]? = some (some (dicD m)) ∧ valD m k = some d ∧ DD.nx (E2.set i (some (dicD (dropD m k))))
theorem rf_dpop {C : Ct} {ty : TE} {dy : DE} {i : Nat} (hO : C.O i = true) (hy : RfE C ty dy) : RfS C (tDrop (tDPop1 (tVar i) ty)) (dDPop i dy) := fun _ W H σ E B DD R ⟨⟨m0, hx⟩, r1⟩ c => by
  obtain ⟨a, h1, wa, o0, _⟩ := R.own hO hx
  obtain ⟨kvs0, h0, _⟩ := o0.dic
  refine ⟨.ref a, h1, a, rfl, .inl ⟨kvs0, .inl h0⟩, hy W H σ E _ _ R r1 fun y ky H2 E2 R2 g2 f2 ⟨kk, m, d, e1, e2, hv, n⟩ => ?_⟩
  subst e1
  obtain rfl := kV_fz f2
  obtain ⟨b, h3, wb, o, mo⟩ := R2.own hO e2
  rw [h1] at h3
  cases h3
  obtain ⟨kvs, hb, l⟩ := o.dic
  rcases l.val (k := kk) with ⟨_, q⟩ | ⟨v, d', q1, _, _⟩
  · rw [hv] at q
    cases q
  · refine ⟨kvs, kk, v, hb, rfl, q1, ?_⟩
    have g3 : Gr W H2 W (upd H2 a (.dK (dropK kvs kk))) := gr_put wb
    have l2 := (l.drop (k := kk)).keep (g3.kp R2.ld)
    obtain ⟨R3, _⟩ := R2.put (d' := dicD (dropD m kk)) hO e2 h1 wb mo (fun b nb o e => (upd_ne nb).trans e) (.inr ⟨_, _, rfl, upd_same, l2⟩)
    exact c.nx W _ σ _ R3 (g2.trans g3) n
theorem z_dpop {i : Nat} {dy : DE} {DD : DEnds} {E : DEnv} {m0 : List (Key × Dat)} (hv : E[i]? = some (some (dicD m0))) (h : dy E fun y E2 => ∃ k m d, y = kD k ∧ E2[i]? = some (some (dicD m)) ∧ valD m k = some d ∧ DD.nx (E2.set i (some (dicD (dropD m k))))) : dDPop i dy DD E := ⟨⟨m0, hv⟩, h⟩
/-! ### len of a written dict -/
def rLenDk : List V → Hp → VK → Prop := fun xs H Q => ∃ a kvs, xs = [V.ref a] ∧ H a = some (.dK kvs) ∧ Q (.int ((kvs.length : Nat) : Int)) H
theorem cr_lenD {X : Cx} : CallR X (.builtin "len") rLenDk := call_lenD
def dLenDV (i : Nat) : DE := fun E R => ∃ m : List (Key × Dat), E[i]? = some (some (dicD m)) ∧ R (.int ((m.length : Nat) : Int)) E
theorem rf_lenD {C : Ct} {i : Nat} (hO : C.O i = true) : RfE C (tCB rLenDk (tCons (tVar i) tNil)) (dLenDV i) := fun W H σ E Q R Re ⟨m, hm, r⟩ k => by
  obtain ⟨a, h1, _, o, _⟩ := Re.own hO hm
  obtain ⟨kvs, ha, l⟩ := o.dic
  refine ⟨.ref a, h1, a, kvs, rfl, ha, ?_⟩
  rw [l.len]
  exact k _ _ H E Re (Gr.refl _ _) (.int _) r
theorem z_lenDV {i : Nat} {E : DEnv} {R : Dat → DEnv → Prop} {m : List (Key × Dat)} (hv : E[i]? = some (some (dicD m))) (h : R (.int ((m.length : Nat) : Int)) E) : dLenDV i E R := ⟨m, hv, h⟩
end Dl
namespace Gl
open PySem PySem.Spec PyProof.Rows L2 Ss Dl Xm
/-! ### objects that may be written and are known by where they stand -/
inductive Ob
  | ins (C : Addr) (fs : List (Str × Dat))
  | lst (ds : List Dat)
  | dic (m : List (Key × Dat))
abbrev GS := Addr → Option Ob
def updG (G : GS) (a : Addr) (o : Ob) : GS := fun b => if b = a then some o else G b
theorem updG_same {G : GS} {a : Addr} {o : Ob} : updG G a o a = some o := if_pos rfl
theorem updG_ne {G : GS} {a b : Addr} {o : Ob} (h : b ≠ a) : updG G a o b = G b := if_neg h
theorem updG_nn {G : GS} {a b : Addr} {o : Ob} (h : updG G a o b ≠ none) : b = a ∨ G b ≠ none := by
  by_cases q : b = a
  · exact .inl q
  · rw [updG_ne q] at h
    exact .inr h
theorem updG_in {G : GS} {a b : Addr} {o : Ob} (h : G b ≠ none) : updG G a o b ≠ none := by
  by_cases q : b = a
  · rw [q, updG_same]
    intro z
    cases z
  · rw [updG_ne q]
    exact h
inductive FzF (N : Ow) (H : Hp) : List (Str × V) → List (Str × Dat) → Prop
  | nil : FzF N H [] []
  | cons {f : Str} {v : V} {vs : List (Str × V)} {d : Dat} {ds : List (Str × Dat)} : Fz N H v d → FzF N H vs ds → FzF N H ((f, v) :: vs) ((f, d) :: ds)
def putFD (f : Str) (d : Dat) : List (Str × Dat) → List (Str × Dat)
  | [] => [(f, d)]
  | (g, x) :: r => if g = f then (g, d) :: r else (g, x) :: putFD f d r
section
variable {N N' : Ow} {H H' : Hp}
theorem FzF.keep (h : Kp N N' H H') : ∀ {vs : List (Str × V)} {ds : List (Str × Dat)}, FzF N H vs ds → FzF N' H' vs ds
  | _, _, .nil => .nil
  | _, _, .cons a l => .cons (a.keep h) (l.keep h)
theorem FzF.len : ∀ {vs : List (Str × V)} {ds : List (Str × Dat)}, FzF N H vs ds → vs.length = ds.length
  | _, _, .nil => rfl
  | _, _, .cons _ l => congrArg (· + 1) l.len
theorem FzF.look {f : Str} : ∀ {vs : List (Str × V)} {ds : List (Str × Dat)}, FzF N H vs ds → (ds.lookup f = none ∧ vs.lookup f = none) ∨ ∃ v d, ds.lookup f = some d ∧ vs.lookup f = some v ∧ Fz N H v d
  | _, _, .nil => .inl ⟨rfl, rfl⟩
  | _, _, .cons (f := g) (v := v) (d := d) a l => by
    by_cases h : f = g
    · have hb : (f == g) = true := beq_iff_eq.mpr h
      exact .inr ⟨v, d, by simp only [List.lookup, hb], by simp only [List.lookup, hb], a⟩
    · have hb : (f == g) = false := beq_eq_false_iff_ne.mpr h
      simp only [List.lookup, hb]
      exact l.look
theorem FzF.get {f : Str} {d : Dat} {vs : List (Str × V)} {ds : List (Str × Dat)} (l : FzF N H vs ds) (h : ds.lookup f = some d) : ∃ v, vs.lookup f = some v ∧ Fz N H v d := by
  rcases l.look (f := f) with ⟨h1, _⟩ | ⟨v, d', h1, h2, a⟩
  · rw [h] at h1; cases h1
  · rw [h] at h1
    cases h1
    exact ⟨v, h2, a⟩
theorem FzF.no {f : Str} {vs : List (Str × V)} {ds : List (Str × Dat)} (l : FzF N H vs ds) (h : ds.lookup f = none) : vs.lookup f = none := by
  rcases l.look (f := f) with ⟨_, h1⟩ | ⟨v, d', h1, _, _⟩
  · exact h1
  · rw [h] at h1; cases h1
theorem FzF.put {f : Str} {v : V} {d : Dat} (a : Fz N H v d) : ∀ {vs : List (Str × V)} {ds : List (Str × Dat)}, FzF N H vs ds → FzF N H (putF f v vs) (putFD f d ds)
  | _, _, .nil => .cons a .nil
  | _, _, .cons (f := g) (v := w) (vs := vs) (d := e) (ds := ds) b l => by
    show FzF N H (if g = f then _ else _) (if g = f then _ else _)
    by_cases h : g = f
    · rw [if_pos h, if_pos h]
      exact .cons a l
    · rw [if_neg h, if_neg h]
      exact .cons b (l.put a)
end
def ObOk (N : Ow) (H : Hp) (a : Addr) : Ob → Prop
  | .ins C fs => ∃ dx vs, H a = some (.ins C dx vs) ∧ FzF N H vs fs
  | .lst ds => ∃ xs, H a = some (.lst xs) ∧ FzL N H xs ds
  | .dic m => ∃ kvs, H a = some (.dK kvs) ∧ FzK N H kvs m
def ntI (C dx : Addr) (vs : List (Str × V)) : NT := ⟨.ins C dx vs, fun _ z => nomatch z⟩
theorem ObOk.ld {N : Ow} {H : Hp} {a : Addr} : ∀ {o : Ob}, ObOk N H a o → LD H a
  | .ins _ _, ⟨dx, vs, h, _⟩ => .inr ⟨ntI _ dx vs, h⟩
  | .lst _, ⟨xs, h, _⟩ => .inl ⟨xs, h⟩
  | .dic _, ⟨kvs, h, _⟩ => .inr ⟨ntD kvs, h⟩
theorem ObOk.keep {N N' : Ow} {H H' : Hp} {a : Addr} (k : Kp N N' H H') (e : ∀ o, H a = some o → H' a = some o) : ∀ {o : Ob}, ObOk N H a o → ObOk N' H' a o
  | .ins _ _, ⟨dx, vs, h, l⟩ => ⟨dx, vs, e _ h, l.keep k⟩
  | .lst _, ⟨xs, h, l⟩ => ⟨xs, e _ h, l.keep k⟩
  | .dic _, ⟨kvs, h, l⟩ => ⟨kvs, e _ h, l.keep k⟩
theorem fz_ref {N : Ow} {H : Hp} {v : V} {a : Addr} (f : Fz N H v (refD a)) : v = .ref a := by
  generalize e : refD a = d at f
  cases f with
  | dic ea n l => exact (ref_dic (show dicD _ = refD a from e.symm)).elim
  | rng ea n => unfold refD at e; cases e
  | unk => unfold refD unkD at e; cases e
  | obj =>
    unfold refD at e
    have h := PyData.dict.inj e
    have h1 := (List.cons.inj h).1
    have h2 := (Prod.mk.inj h1).2
    have h3 := PyData.int.inj h2
    have h4 := Int.ofNat.inj h3
    rw [h4]
  | _ => cases e
theorem ref_inj {a b : Addr} (h : refD a = refD b) : a = b := by
  unfold refD at h
  exact Int.ofNat.inj (PyData.int.inj (Prod.mk.inj (List.cons.inj (PyData.dict.inj h)).1).2)
/-! ### a state -/
def cG (C : Ct) (G : GS) : Ct := { C with N0 := fun b => C.N0 b ∨ G b ≠ none, pn := fun b h => .inl (C.pn b h) }
structure Zx where
  W0 : Ow
  Hz : Hp
  G0 : GS
/-- from (W, H, G) on to (W', H', G') -/
structure Gg (W : Ow) (H : Hp) (G : GS) (W' : Ow) (H' : Hp) (G' : GS) : Prop where
  st : ∀ b o, ¬ W b → G b = none → H b = some o → H' b = some o
  th : ∀ b, H b ≠ none → H' b ≠ none
  nw : ∀ b, W' b → W b ∨ H b = none
  gd : ∀ b, G' b ≠ none → G b ≠ none ∨ H b = none
  gk : ∀ b, G b ≠ none → G' b ≠ none
theorem Gg.refl (W : Ow) (H : Hp) (G : GS) : Gg W H G W H G := ⟨fun _ _ _ _ h => h, fun _ h => h, fun _ h => .inl h, fun _ h => .inl h, fun _ h => h⟩
theorem non_of {α : Type} {x : Option α} (h : ¬ x ≠ none) : x = none := by
  cases x with
  | none => rfl
  | some a => exact absurd (fun z => by cases z) h
theorem Gg.trans {W W1 W2 : Ow} {H H1 H2 : Hp} {G G1 G2 : GS} (a : Gg W H G W1 H1 G1) (b : Gg W1 H1 G1 W2 H2 G2) : Gg W H G W2 H2 G2 := by
  have back : ∀ c, H1 c = none → H c = none := fun c h => non_of fun z => a.th c z h
  refine ⟨fun c o n g e => b.st c o (fun w => ?_) (non_of fun z => ?_) (a.st c o n g e), fun c w => b.th c (a.th c w), fun c w => ?_, fun c w => ?_, fun c w => b.gk c (a.gk c w)⟩
  · rcases a.nw c w with h | h
    · exact n h
    · rw [h] at e; cases e
  · rcases a.gd c z with h | h
    · exact h g
    · rw [h] at e; cases e
  · rcases b.nw c w with h | h
    · exact a.nw c h
    · exact .inr (back c h)
  · rcases b.gd c w with h | h
    · exact a.gd c h
    · exact .inr (back c h)
theorem Gg.of {W W' : Ow} {H H' : Hp} {G : GS} (g : Gr W H W' H') : Gg W H G W' H' G := ⟨fun b o n _ e => g.st b o n e, g.th, g.nw, fun _ h => .inl h, fun _ h => h⟩
structure Rep2 (C : Ct) (Z : Zx) (W : Ow) (H : Hp) (σ : L2.St) (E : DEnv) (G : GS) : Prop where
  rep : Rep (cG C G) W H σ E
  ob : ∀ a o, G a = some o → ObOk (Nn (cG C G) W) H a o
  nw : ∀ a, G a ≠ none → ¬ W a
  gw : ∀ a, G a ≠ none → C.P a ∨ C.H0 a = none
  wb : ∀ b, C.Wb b
  gg : Gg Z.W0 Z.Hz Z.G0 W H G
theorem Gg.kp {C : Ct} {W W' : Ow} {H H' : Hp} {G G' : GS} (g : Gg W H G W' H' G') (ld : ∀ b, Nn (cG C G) W b → LD H b) : Kp (Nn (cG C G) W) (Nn (cG C G') W') H H' := .ex fun b o e h => by
  have nn : ¬ Nn (cG C G) W b := by
    rcases h with ⟨xs, rfl⟩ | h
    · exact fun z => ld_tup (ld b z) e
    · exact h
  refine ⟨g.st b o (fun w => nn (.inr w)) (non_of fun z => nn (.inl (.inr z))) e, fun n n' => ?_⟩
  rcases n' with (n' | n') | n'
  · exact n (.inl (.inl n'))
  · rcases g.gd b n' with w | w
    · exact n (.inl (.inr w))
    · rw [w] at e; cases e
  · rcases g.nw b n' with w | w
    · exact n (.inr w)
    · rw [w] at e; cases e
theorem Rep2.after {C : Ct} {Z : Zx} {W W' : Ow} {H H' : Hp} {σ σ' : L2.St} {E E' : DEnv} {G : GS} (R : Rep2 C Z W H σ E G) (R' : Rep (cG C G) W' H' σ' E') (g : Gr W H W' H') : Rep2 C Z W' H' σ' E' G ∧ Gg W H G W' H' G := by
  have gG : Gg W H G W' H' G := Gg.of g
  refine ⟨⟨R', fun a o h => (R.ob a o h).keep (gG.kp R.rep.ld) fun x e => g.st a x (R.nw a (by rw [h]; intro z; cases z)) e, fun a h w => ?_, R.gw, R.wb, R.gg.trans gG⟩, gG⟩
  rcases g.nw a w with z | z
  · exact R.nw a h z
  · cases e : G a with
    | none => exact h e
    | some o => exact ld_some (R.ob a o e).ld z
/-- one of the objects is written -/
theorem Rep2.mut {C : Ct} {Z : Zx} {W : Ow} {H H' : Hp} {σ : L2.St} {E : DEnv} {G : GS} (R : Rep2 C Z W H σ E G) {a : Addr} {o : Ob} (ha : G a ≠ none) (k : ∀ b, b ≠ a → ∀ x, H b = some x → H' b = some x) (ho : ObOk (Nn (cG C G) W) H' a o) : Rep2 C Z W H' σ E (updG G a o) ∧ Gg W H G W H' (updG G a o) := by
  have an : H a ≠ none := by
    cases e : G a with
    | none => exact absurd e ha
    | some o => exact ld_some (R.ob a o e).ld
  have gG : Gg W H G W H' (updG G a o) := ⟨fun b x n g e => k b (fun z => ha (z ▸ g)) x e, fun b n => (by
    by_cases q : b = a
    · rw [q]
      exact ld_some ho.ld
    · cases e : H b with
      | none => exact absurd e n
      | some x => rw [k b q x e]; intro z; cases z), fun _ w => .inl w, fun b h => (updG_nn h).elim (fun q => .inl (q ▸ ha)) .inl, fun b h => updG_in h⟩
  have kp := gG.kp (C := C) R.rep.ld
  have sub : Kp (Nn (cG C G) W) (Nn (cG C (updG G a o)) W) H' H' := Kp.sub fun b z => by
    rcases z with (z | z) | z
    · exact .inl (.inl z)
    · exact .inl (.inr ((updG_nn z).elim (fun q => q ▸ ha) id))
    · exact .inr z
  refine ⟨⟨⟨fun b x p e => ?_, R.rep.w, fun b n => ?_, fun i d e => ?_, R.rep.inj, R.rep.len, ⟨fun b _ n _ => absurd (R.wb b) n, fun b n => gG.th b (R.rep.gb.th b n), fun b _ => .inl (R.wb b)⟩⟩, fun b x h => ?_, fun b h => ?_, fun b h => ?_, R.wb, R.gg.trans gG⟩, gG⟩
  · by_cases q : b = a
    · subst q
      rcases R.gw b ha with z | z
      · exact absurd z p
      · rw [show C.H0 b = some x from e] at z; cases z
    · exact k b q x (R.rep.out b x p e)
  · by_cases q : b = a
    · rw [q]
      exact ho.ld
    · have l : LD H b := by
        rcases n with (n | n) | n
        · exact R.rep.ld b (.inl (.inl n))
        · rw [updG_ne q] at n
          exact R.rep.ld b (.inl (.inr n))
        · exact R.rep.ld b (.inr n)
      rcases l with ⟨xs, h⟩ | ⟨xs, h⟩
      · exact .inl ⟨xs, k b q _ h⟩
      · exact .inr ⟨xs, k b q _ h⟩
  · obtain ⟨v, h1, h2⟩ := R.rep.slot i d e
    refine ⟨v, h1, ?_⟩
    unfold SlotOk at *
    split
    · next hh =>
      rw [if_pos (show (cG C G).O i = true from hh)] at h2
      obtain ⟨c, rfl, wc, oc, m⟩ := h2
      have nca : c ≠ a := fun z => R.nw a ha (z ▸ wc)
      refine ⟨c, rfl, wc, ?_, m⟩
      rcases oc with ⟨xs, ds, e, hc, l⟩ | ⟨xs, ds, e, hc, l⟩
      · exact .inl ⟨xs, ds, e, k c nca _ hc, l.keep kp⟩
      · exact .inr ⟨xs, ds, e, k c nca _ hc, l.keep kp⟩
    · next hh =>
      rw [if_neg (show ¬ (cG C G).O i = true from hh)] at h2
      exact h2.keep kp
  · by_cases q : b = a
    · subst q
      rw [updG_same] at h
      cases h
      exact ho.keep sub fun _ e => e
    · rw [updG_ne q] at h
      exact (R.ob b x h).keep kp fun y e => k b q y e
  · rcases updG_nn h with q | q
    · exact q ▸ R.nw a ha
    · exact R.nw b q
  · rcases updG_nn h with q | q
    · exact q ▸ R.gw a ha
    · exact R.gw b q
/-- a new object joins them -/
theorem Rep2.add {C : Ct} {Z : Zx} {W : Ow} {H H' : Hp} {σ : L2.St} {E : DEnv} {G : GS} (R : Rep2 C Z W H σ E G) {a : Addr} {o : Ob} (ha : H a = none) (s : Same H H') (ho : ObOk (Nn (cG C (updG G a o)) W) H' a o) : Rep2 C Z W H' σ E (updG G a o) ∧ Gg W H G W H' (updG G a o) := by
  have gn : G a = none := by
    cases e : G a with
    | none => rfl
    | some o => exact absurd ha (ld_some (R.ob a o e).ld)
  have ne : ∀ {b x}, H b = some x → b ≠ a := fun {b x} e z => by rw [z, ha] at e; cases e
  have gG : Gg W H G W H' (updG G a o) := ⟨fun b x _ _ e => s b x e, th_same s, fun _ w => .inl w, fun b h => (updG_nn h).elim (fun q => .inr (q ▸ ha)) .inl, fun b h => updG_in h⟩
  have kp := gG.kp (C := C) R.rep.ld
  refine ⟨⟨⟨fun b x p e => s b x (R.rep.out b x p e), R.rep.w, fun b n => ?_, fun i d e => ?_, R.rep.inj, R.rep.len, ⟨fun b _ n _ => absurd (R.wb b) n, fun b n => gG.th b (R.rep.gb.th b n), fun b _ => .inl (R.wb b)⟩⟩, fun b x h => ?_, fun b h => ?_, fun b h => ?_, R.wb, R.gg.trans gG⟩, gG⟩
  · by_cases q : b = a
    · rw [q]
      exact ho.ld
    · have l : LD H b := by
        rcases n with (n | n) | n
        · exact R.rep.ld b (.inl (.inl n))
        · rw [updG_ne q] at n
          exact R.rep.ld b (.inl (.inr n))
        · exact R.rep.ld b (.inr n)
      rcases l with ⟨xs, h⟩ | ⟨xs, h⟩
      · exact .inl ⟨xs, s b _ h⟩
      · exact .inr ⟨xs, s b _ h⟩
  · obtain ⟨v, h1, h2⟩ := R.rep.slot i d e
    refine ⟨v, h1, ?_⟩
    unfold SlotOk at *
    split
    · next hh =>
      rw [if_pos (show (cG C G).O i = true from hh)] at h2
      obtain ⟨c, rfl, wc, oc, m⟩ := h2
      refine ⟨c, rfl, wc, ?_, m⟩
      rcases oc with ⟨xs, ds, e, hc, l⟩ | ⟨xs, ds, e, hc, l⟩
      · exact .inl ⟨xs, ds, e, s c _ hc, l.keep kp⟩
      · exact .inr ⟨xs, ds, e, s c _ hc, l.keep kp⟩
    · next hh =>
      rw [if_neg (show ¬ (cG C G).O i = true from hh)] at h2
      exact h2.keep kp
  · by_cases q : b = a
    · subst q
      rw [updG_same] at h
      cases h
      exact ho
    · rw [updG_ne q] at h
      exact (R.ob b x h).keep kp fun y e => s b y e
  · rcases updG_nn h with q | q
    · exact fun w => (ld_some (R.rep.ld a (.inr (q ▸ w)))) ha
    · exact R.nw b q
  · rcases updG_nn h with q | q
    · subst q
      by_cases z : C.P b
      · exact .inl z
      · refine .inr ?_
        cases e : C.H0 b with
        | none => rfl
        | some x => rw [R.rep.out b x z e] at ha; cases ha
    · exact R.gw b q
end Gl
namespace Gl
open PySem PySem.Spec PyProof.Rows L2 Ss Dl Xm
/-! ### expressions -/
abbrev DE2 := DEnv → GS → (Dat → DEnv → GS → Prop) → Prop
abbrev DT2 := DEnv → GS → (Bool → DEnv → GS → Prop) → Prop
abbrev DA2 := DEnv → GS → (List Dat → DEnv → GS → Prop) → Prop
def RfE2 (S : Sx) (dy : Dy) (Z : Zx) (te : TE) (de : DE2) : Prop := ∀ (W : Ow) (H : Hp) (σ : L2.St) (E : DEnv) (G : GS) (Q : VK) (R : Dat → DEnv → GS → Prop), Rep2 ⟨dy, S⟩ Z W H σ E G → de E G R →
  (∀ v d H' E' G', Rep2 ⟨dy, S⟩ Z W H' σ E' G' → Gg W H G W H' G' → Fz (Nn (cG ⟨dy, S⟩ G') W) H' v d → R d E' G' → Q v H') → te σ H Q
def RfT2 (S : Sx) (dy : Dy) (Z : Zx) (te : TT) (de : DT2) : Prop := ∀ (W : Ow) (H : Hp) (σ : L2.St) (E : DEnv) (G : GS) (Q : Bool → Hp → Prop) (R : Bool → DEnv → GS → Prop), Rep2 ⟨dy, S⟩ Z W H σ E G → de E G R →
  (∀ b H' E' G', Rep2 ⟨dy, S⟩ Z W H' σ E' G' → Gg W H G W H' G' → R b E' G' → Q b H') → te σ H Q
def RfA2 (S : Sx) (dy : Dy) (Z : Zx) (te : TA) (de : DA2) : Prop := ∀ (W : Ow) (H : Hp) (σ : L2.St) (E : DEnv) (G : GS) (Q : List V → Hp → Prop) (R : List Dat → DEnv → GS → Prop), Rep2 ⟨dy, S⟩ Z W H σ E G → de E G R →
  (∀ vs ds H' E' G', Rep2 ⟨dy, S⟩ Z W H' σ E' G' → Gg W H G W H' G' → FzL (Nn (cG ⟨dy, S⟩ G') W) H' vs ds → R ds E' G' → Q vs H') → te σ H Q
/-- what meets no object -/
def tPu (t : TE) : TE := t
def tPuT (t : TT) : TT := t
def tPuA (t : TA) : TA := t
theorem pe_pu {X : Cx} {e : Expr} {t : TE} (h : PE X e t) : PE X e (tPu t) := ⟨h.run⟩
theorem pt_pu {X : Cx} {e : Expr} {t : TT} (h : PT X e t) : PT X e (tPuT t) := h
theorem pa_pu {X : Cx} {e : List Expr} {t : TA} (h : PA X e t) : PA X e (tPuA t) := ⟨h.run⟩
def dPu (d : DE) : DE2 := fun E G R => d E fun x E' => R x E' G
def dPuT (d : DT) : DT2 := fun E G R => d E fun x E' => R x E' G
def dPuA (d : DA) : DA2 := fun E G R => d E fun x E' => R x E' G
section
variable {S : Sx} {dy : Dy} {Z : Zx} {K : PySem.W.Frag} {C : Addr} {f m : Str} {te : TE} {de : DE2} {tt tu : TT} {dt du : DT2} {ta tr : TA} {da dr : DA2}
theorem rf2_pu {t : TE} {d : DE} (h : ∀ dy, RfE ⟨dy, S⟩ t d) : RfE2 S dy Z (tPu t) (dPu d) := fun W H σ E G Q R Re r k => h (cG ⟨dy, S⟩ G).toDy W H σ E Q (fun x E' => R x E' G) Re.rep r fun v x H' E' R' g f r' => by
  obtain ⟨R2, g2⟩ := Re.after R' g
  exact k v x H' E' G R2 g2 f r'
theorem rf2_puT {t : TT} {d : DT} (h : ∀ dy, RfT ⟨dy, S⟩ t d) : RfT2 S dy Z (tPuT t) (dPuT d) := fun W H σ E G Q R Re r k => h (cG ⟨dy, S⟩ G).toDy W H σ E Q (fun x E' => R x E' G) Re.rep r fun v H' E' R' g r' => by
  obtain ⟨R2, g2⟩ := Re.after R' g
  exact k v H' E' G R2 g2 r'
theorem rf2_puA {t : TA} {d : DA} (h : ∀ dy, RfA ⟨dy, S⟩ t d) : RfA2 S dy Z (tPuA t) (dPuA d) := fun W H σ E G Q R Re r k => h (cG ⟨dy, S⟩ G).toDy W H σ E Q (fun x E' => R x E' G) Re.rep r fun v x H' E' R' g f r' => by
  obtain ⟨R2, g2⟩ := Re.after R' g
  exact k v x H' E' G R2 g2 f r'
/-- e.f -/
def dFld (C : Addr) (f : Str) (de : DE2) : DE2 := fun E G R => de E G fun x E1 G1 => ∃ a fs d, x = refD a ∧ G1 a = some (.ins C fs) ∧ fs.lookup f = some d ∧ R d E1 G1
theorem rf2_fld (n : NoAttr K C f) (c : Cls K C) (h : RfE2 S dy Z te de) : RfE2 S dy Z (tFld K te f) (dFld C f de) := fun W H σ E G Q R Re r k => h W H σ E G _ _ Re r fun v x H1 E1 G1 R1 g1 f1 ⟨a, fs, d, ex, ga, hl, r1⟩ => by
  subst ex
  obtain rfl := fz_ref f1
  obtain ⟨dx, vs, ha, l⟩ := R1.ob a _ ga
  obtain ⟨w, hw, fw⟩ := l.get hl
  exact ⟨a, C, dx, vs, w, rfl, ha, c, n, hw, k w d H1 E1 G1 R1 g1 fw r1⟩
def dNil2 : DA2 := fun E G R => R [] E G
theorem rf2_nil : RfA2 S dy Z tNil dNil2 := fun W H σ E G Q R Re r k => k [] [] H E G Re (Gg.refl W H G) .nil r
def dCons2 (de : DE2) (dr : DA2) : DA2 := fun E G R => de E G fun x E1 G1 => dr E1 G1 fun xs E2 G2 => R (x :: xs) E2 G2
theorem rf2_cons (he : RfE2 S dy Z te de) (hr : RfA2 S dy Z tr dr) : RfA2 S dy Z (tCons te tr) (dCons2 de dr) := fun W H σ E G Q R Re r k =>
  he W H σ E G _ _ Re r fun x dx H1 E1 G1 R1 g1 f1 r1 => hr W H1 σ E1 G1 _ _ R1 r1 fun xs ds H2 E2 G2 R2 g2 f2 r2 => k (x :: xs) (dx :: ds) H2 E2 G2 R2 (g1.trans g2) (.cons (f1.keep (g2.kp R1.rep.ld)) f2) r2
def dOp2 (o : Dat → Dat → (Dat → Prop) → Prop) (da db : DE2) : DE2 := fun E G R => da E G fun x E1 G1 => db E1 G1 fun y E2 G2 => o x y fun z => R z E2 G2
theorem rf2_op {r : R2} {o : Dat → Dat → (Dat → Prop) → Prop} {ta tb : TE} {da db : DE2} (hr : RfO r o) (ha : RfE2 S dy Z ta da) (hb : RfE2 S dy Z tb db) : RfE2 S dy Z (tOp r ta tb) (dOp2 o da db) := fun W H σ E G Q R Re r k =>
  ha W H σ E G _ _ Re r fun x dx H1 E1 G1 R1 g1 f1 r1 => hb W H1 σ E1 G1 _ _ R1 r1 fun y dy' H2 E2 G2 R2 g2 f2 r2 =>
    hr _ H2 x y dx dy' Q _ (.inl (f1.keep (g2.kp R1.rep.ld))) (.inl f2) r2 fun v d H' s f r => by
      obtain ⟨R3, g3⟩ := R2.after (R2.rep.same s) (Gr.same s)
      exact k v d H' E2 G2 R3 ((g1.trans g2).trans g3) f r
def dCB2 (o : List Dat → (Dat → Prop) → Prop) (da : DA2) : DE2 := fun E G R => da E G fun xs E1 G1 => o xs fun z => R z E1 G1
theorem rf2_cb {r : List V → Hp → VK → Prop} {o : List Dat → (Dat → Prop) → Prop} (hr : RfB r o) (ha : RfA2 S dy Z ta da) : RfE2 S dy Z (tCB r ta) (dCB2 o da) := fun W H σ E G Q R Re r k =>
  ha W H σ E G _ _ Re r fun xs ds H1 E1 G1 R1 g1 f1 r1 => hr _ H1 xs ds Q _ (ft_all f1) r1 fun v d H' s f r => by
    obtain ⟨R3, g3⟩ := R1.after (R1.rep.same s) (Gr.same s)
    exact k v d H' E1 G1 R3 (g1.trans g3) f r
def dTup2 (da : DA2) : DE2 := fun E G R => da E G fun ds E1 G1 => ds.length ≤ sizeLine ∧ R (.tuple ds) E1 G1
theorem rf2_tup (ha : RfA2 S dy Z ta da) : RfE2 S dy Z (tTup ta) (dTup2 da) := fun W H σ E G Q R Re r k =>
  ha W H σ E G _ _ Re r fun xs ds H1 E1 G1 R1 g1 f1 ⟨hl, r1⟩ => ⟨by rw [f1.len]; exact hl, fun p np => by
    have s := same_new (o := .tup xs) np
    obtain ⟨R3, g3⟩ := R1.after (R1.rep.same s) (Gr.same s)
    exact k (.ref p) (.tuple ds) _ E1 G1 R3 (g1.trans g3) (.tup upd_same (f1.keep (Kp.same s))) r1⟩
def dTest2 (da : DE2) : DT2 := fun E G R => da E G fun x E1 G1 => ∃ k, x = .bool k ∧ R k E1 G1
theorem rf2_test (ha : RfE2 S dy Z te de) : RfT2 S dy Z (tTest te) (dTest2 de) := fun W H σ E G Q R Re r k =>
  ha W H σ E G _ _ Re r fun x dx H1 E1 G1 R1 g1 f1 ⟨b, e, r1⟩ => by
    subst e
    cases f1
    exact ⟨b, rfl, k b H1 E1 G1 R1 g1 r1⟩
theorem rf2_B (ha : RfE2 S dy Z te de) : RfT2 S dy Z (tB te) (dTest2 de) := rf2_test ha
/-- is a list among the objects empty -/
def dTruR (de : DE2) : DT2 := fun E G R => de E G fun x E1 G1 => ∃ a ds, x = refD a ∧ G1 a = some (.lst ds) ∧ R (!ds.isEmpty) E1 G1
theorem rf2_truR (ha : RfE2 S dy Z te de) : RfT2 S dy Z (tTru K te) (dTruR de) := fun W H σ E G Q R Re r k =>
  ha W H σ E G _ _ Re r fun x dx H1 E1 G1 R1 g1 f1 ⟨a, ds, e, ga, r1⟩ => by
    subst e
    obtain rfl := fz_ref f1
    obtain ⟨xs, h, l⟩ := R1.ob a _ ga
    exact ⟨!ds.isEmpty, .inl ⟨xs, .of h, by rw [emp_of l.len]⟩, k _ H1 E1 G1 R1 g1 r1⟩
def dNot2 (dt : DT2) : DT2 := fun E G R => dt E G fun b E1 G1 => R (!b) E1 G1
theorem rf2_not (h : RfT2 S dy Z tt dt) : RfT2 S dy Z (tNot tt) (dNot2 dt) := fun W H σ E G Q R Re r k => h W H σ E G _ _ Re r fun b H1 E1 G1 R1 g1 r1 => k _ H1 E1 G1 R1 g1 r1
def dAnd2 (dt du : DT2) : DT2 := fun E G R => dt E G fun b E1 G1 => if b = true then du E1 G1 R else R false E1 G1
theorem rf2_and (h : RfT2 S dy Z tt dt) (h2 : RfT2 S dy Z tu du) : RfT2 S dy Z (tAnd tt tu) (dAnd2 dt du) := fun W H σ E G Q R Re r k => h W H σ E G _ _ Re r fun b H1 E1 G1 R1 g1 r1 => by
  cases b with
  | true => exact h2 W H1 σ E1 G1 _ _ R1 r1 fun b H2 E2 G2 R2 g2 r2 => k b H2 E2 G2 R2 (g1.trans g2) r2
  | false => exact k false H1 E1 G1 R1 g1 r1
def dOr2 (dt du : DT2) : DT2 := fun E G R => dt E G fun b E1 G1 => if b = true then R true E1 G1 else du E1 G1 R
theorem rf2_or (h : RfT2 S dy Z tt dt) (h2 : RfT2 S dy Z tu du) : RfT2 S dy Z (tOr tt tu) (dOr2 dt du) := fun W H σ E G Q R Re r k => h W H σ E G _ _ Re r fun b H1 E1 G1 R1 g1 r1 => by
  cases b with
  | false => exact h2 W H1 σ E1 G1 _ _ R1 r1 fun b H2 E2 G2 R2 g2 r2 => k b H2 E2 G2 R2 (g1.trans g2) r2
  | true => exact k true H1 E1 G1 R1 g1 r1
def dAndV2 (da db : DE2) : DE2 := fun E G R => da E G fun x E1 G1 => ∃ c, x = .bool c ∧ if c = true then db E1 G1 R else R (.bool false) E1 G1
theorem rf2_andV {ta tb : TE} {da db : DE2} (ha : RfE2 S dy Z ta da) (hb : RfE2 S dy Z tb db) : RfE2 S dy Z (tAndV ta tb) (dAndV2 da db) := fun W H σ E G Q R Re r k =>
  ha W H σ E G _ _ Re r fun x dx H1 E1 G1 R1 g1 f1 ⟨c, e, r1⟩ => by
    subst e
    cases f1
    refine ⟨c, rfl, ?_⟩
    cases c with
    | true => exact hb W H1 σ E1 G1 _ _ R1 r1 fun v d H2 E2 G2 R2 g2 f2 r2 => k v d H2 E2 G2 R2 (g1.trans g2) f2 r2
    | false => exact k _ _ H1 E1 G1 R1 g1 (.bl false) r1
end
/-! ### promises of defs that meet objects -/
abbrev DSpG := List Dat → GS → (Dat → Dat → GS → Prop) → Prop
abbrev DSpGX := List Dat → GS → (Dat → Dat → GS → Prop) → (Er → Dat → GS → Prop) → Prop
def N1 (N0 : Ow) (G : GS) : Ow := fun b => N0 b ∨ G b ≠ none
/-- how the heap may stand behind a call -/
structure Beh (N0 P : Ow) (m : Option Nat) (vs : List V) (H : Hp) (G : GS) (H' : Hp) (G' : GS) (o : Dat) : Prop where
  gg : Gg P H G P H' G'
  ld : ∀ b, N1 N0 G' b → LD H' b
  ob : ∀ a u, G' a = some u → ObOk (N1 N0 G') H' a u
  mo : ∀ j, m = some j → ∃ a, vs[j]? = some (.ref a) ∧ OwnC (N1 N0 G') H' a o
/-- how it stands ahead of one -/
structure Ahd (m : Option Nat) (N0 P : Ow) (G : GS) (H : Hp) (vs : List V) (ds : List Dat) : Prop where
  ld : ∀ b, N0 b → LD H b
  pn : ∀ b, P b → N0 b
  gn : ∀ b, G b ≠ none → N0 b ∧ ¬ P b
  ar : ArgsOk m N0 P H vs ds
  ob : ∀ a o, G a = some o → ObOk N0 H a o
def spG (n : Nat) (m : Option Nat) (sp : DSpG) : Sp := fun vs H Q _ => vs.length = n ∧ ∃ (ds : List Dat) (N0 P : Ow) (G : GS), Ahd m N0 P G H vs ds ∧
  ∃ Qd : Dat → Dat → GS → Prop, sp ds G Qd ∧ ∀ r o G', Qd r o G' → ∀ v H', Beh N0 P m vs H G H' G' o → Fz (N1 N0 G') H' v r → Q v H'
def spGX (mg : Str → Option Value) (n : Nat) (m : Option Nat) (sp : DSpGX) : Sp := fun vs H Q XE => vs.length = n ∧ ∃ (ds : List Dat) (N0 P : Ow) (G : GS), Ahd m N0 P G H vs ds ∧
  ∃ (Qd : Dat → Dat → GS → Prop) (Xd : Er → Dat → GS → Prop), sp ds G Qd Xd ∧ (∀ r o G', Qd r o G' → ∀ v H', Beh N0 P m vs H G H' G' o → Fz (N1 N0 G') H' v r → Q v H') ∧
    ∀ e o G', Xd e o G' → ∀ cls d H', Beh N0 P m vs H G H' G' o → ErrAt mg H' e cls d → XE cls d H'
def spNG (sp : DSpGX) : DSpG := fun ds G Q => sp ds G Q fun _ _ _ => False
theorem spGN {mg : Str → Option Value} {n : Nat} {m : Option Nat} {sp : DSpGX} {vs : List V} {H : Hp} {Q : VK} {XE : XK} (h : spG n m (spNG sp) vs H Q XE) : spGX mg n m sp vs H Q XE := by
  obtain ⟨hn, ds, N0, P, G, A, Qd, hs, k⟩ := h
  exact ⟨hn, ds, N0, P, G, A, Qd, _, hs, k, fun e o G' z => z.elim⟩
section
variable {S : Sx} {dy : Dy} {Z : Zx} {W : Ow} {H H' : Hp} {σ : L2.St} {E : DEnv} {G G' : GS}
theorem same_N {C : Ct} (gk : ∀ b, G b ≠ none → G' b ≠ none) : ∀ b, Nn (cG C G') W b ↔ N1 (Nn (cG C G) W) G' b := fun b => ⟨fun z => by
  rcases z with (z | z) | z
  · exact .inl (.inl (.inl z))
  · exact .inr z
  · exact .inl (.inr z), fun z => by
  rcases z with ((z | z) | z) | z
  · exact .inl (.inl z)
  · exact .inl (.inr (gk b z))
  · exact .inr z
  · exact .inl (.inr z)⟩
/-- a call that writes objects alone -/
theorem Rep2.step {C : Ct} (R : Rep2 C Z W H σ E G) (g : Gg (fun _ => False) H G (fun _ => False) H' G') (ld : ∀ b, N1 (Nn (cG C G) W) G' b → LD H' b) (ob : ∀ a u, G' a = some u → ObOk (N1 (Nn (cG C G) W) G') H' a u) : Rep2 C Z W H' σ E G' ∧ Gg W H G W H' G' := by
  have gG : Gg W H G W H' G' := ⟨fun b o _ n e => g.st b o id n e, g.th, fun _ w => .inl w, g.gd, g.gk⟩
  have kp := gG.kp (C := C) R.rep.ld
  have sn := same_N (W := W) (C := C) g.gk
  have st : ∀ {b x}, W b → H b = some x → H' b = some x := fun {b x} w e => g.st b x id (non_of fun z => R.nw b z w) e
  refine ⟨⟨⟨fun b x p e => ?_, R.rep.w, fun b n => ld b ((sn b).mp n), fun i d e => ?_, R.rep.inj, R.rep.len, ⟨fun b _ n _ => absurd (R.wb b) n, fun b n => g.th b (R.rep.gb.th b n), fun b _ => .inl (R.wb b)⟩⟩, fun a u h => (ob a u h).keep (Kp.sub fun b z => (sn b).mp z) fun _ e => e, fun b h w => ?_, fun b h => ?_, R.wb, R.gg.trans gG⟩, gG⟩
  · have h1 := R.rep.out b x p e
    refine g.st b x id (non_of fun z => ?_) h1
    rcases R.gw b z with q | q
    · exact p q
    · rw [show C.H0 b = some x from e] at q; cases q
  · obtain ⟨v, h1, h2⟩ := R.rep.slot i d e
    refine ⟨v, h1, ?_⟩
    unfold SlotOk at *
    split
    · next hh =>
      rw [if_pos (show (cG C G).O i = true from hh)] at h2
      obtain ⟨c, rfl, wc, oc, m⟩ := h2
      refine ⟨c, rfl, wc, ?_, m⟩
      rcases oc with ⟨xs, ds, e, hc, l⟩ | ⟨xs, ds, e, hc, l⟩
      · exact .inl ⟨xs, ds, e, st wc hc, l.keep kp⟩
      · exact .inr ⟨xs, ds, e, st wc hc, l.keep kp⟩
    · next hh =>
      rw [if_neg (show ¬ (cG C G).O i = true from hh)] at h2
      exact h2.keep kp
  · rcases g.gd b h with z | z
    · exact R.nw b z w
    · exact ld_some (R.rep.ld b (.inr w)) z
  · rcases g.gd b h with z | z
    · exact R.gw b z
    · by_cases p : C.P b
      · exact .inl p
      · refine .inr ?_
        cases e : C.H0 b with
        | none => rfl
        | some x => rw [R.rep.out b x p e] at z; cases z
theorem Rep2.ahd {C : Ct} (R : Rep2 C Z W H σ E G) {vs : List V} {ds : List Dat} (f : FzL (Nn (cG C G) W) H vs ds) : Ahd none (Nn (cG C G) W) (fun _ => False) G H vs ds := ⟨R.rep.ld, fun _ z => z.elim, fun b h => ⟨.inl (.inr h), id⟩, args0 f, R.ob⟩
end
section
variable {S : Sx} {dy : Dy} {Z : Zx} {K : PySem.W.Frag} {C : Addr} {f m : Str} {n : Nat} {te : TE} {de : DE2} {ta tr : TA} {da dr : DA2} {sp : DSpG} {spx : DSpGX} {XE : XK} {mg : Str → Option Value}
theorem run_G {W : Ow} {H : Hp} {σ : L2.St} {E : DEnv} {G : GS} {vs : List V} {ds : List Dat} {Q : VK} {R : Dat → DEnv → GS → Prop} (Re : Rep2 ⟨dy, S⟩ Z W H σ E G) (f : FzL (Nn (cG ⟨dy, S⟩ G) W) H vs ds) (hn : ds.length = n) (r : sp ds G fun r _ G3 => R r E G3)
    (k : ∀ v d H' G', Rep2 ⟨dy, S⟩ Z W H' σ E G' → Gg W H G W H' G' → Fz (Nn (cG ⟨dy, S⟩ G') W) H' v d → R d E G' → Q v H') : spG n none sp vs H Q XE := by
  refine ⟨f.len.trans hn, ds, _, _, G, Re.ahd f, _, r, fun r o G' q v H' B fr => ?_⟩
  obtain ⟨R2, g2⟩ := Re.step B.gg B.ld B.ob
  exact k v r H' G' R2 g2 (fr.keep (Kp.sub fun b z => (same_N (W := W) (C := ⟨dy, S⟩) B.gg.gk b).mp z)) q
/-- a call of such a def -/
def dCallG (n : Nat) (sp : DSpG) (da : DA2) : DE2 := fun E G R => da E G fun ds E1 G1 => ds.length = n ∧ sp ds G1 fun r _ G2 => R r E1 G2
theorem rf2_call (ha : RfA2 S dy Z ta da) : RfE2 S dy Z (tCall (spG n none sp) [] XE ta) (dCallG n sp da) := fun W H σ E G Q R Re r k => ha W H σ E G _ _ Re r fun vs ds H1 E1 G1 R1 g1 f1 ⟨hn, r1⟩ => by
  rw [List.append_nil]
  exact run_G R1 f1 hn r1 fun v d H' G' R2 g2 f2 q => k v d H' E1 G' R2 (g1.trans g2) f2 q
/-- .. that may raise, and does not -/
theorem rf2_callN (ha : RfA2 S dy Z ta da) : RfE2 S dy Z (tCall (spGX mg n none spx) [] XE ta) (dCallG n (spNG spx) da) := fun W H σ E G Q R Re r k => ha W H σ E G _ _ Re r fun vs ds H1 E1 G1 R1 g1 f1 ⟨hn, r1⟩ => by
  rw [List.append_nil]
  exact spGN (run_G R1 f1 hn r1 fun v d H' G' R2 g2 f2 q => k v d H' E1 G' R2 (g1.trans g2) f2 q)
/-- o.m(..) -/
def dMeth (C : Addr) (m : Str) (n : Nat) (sp : DSpG) (de : DE2) (dr : DA2) : DE2 := fun E G R => de E G fun x E1 G1 => ∃ a fs, x = refD a ∧ G1 a = some (.ins C fs) ∧ fs.lookup m = none ∧ dr E1 G1 fun ds E2 G2 => ds.length + 1 = n ∧ sp (refD a :: ds) G2 fun r _ G3 => R r E2 G3
theorem rf2_meth (he : RfE2 S dy Z te de) (hr : RfA2 S dy Z tr dr) : RfE2 S dy Z (tMeth C m (spG n none sp) [] XE te tr) (dMeth C m n sp de dr) := fun W H σ E G Q R Re r k => he W H σ E G _ _ Re r fun x dx H1 E1 G1 R1 g1 f1 ⟨a, fs, ex, ga, hl, r1⟩ => by
  subst ex
  obtain rfl := fz_ref f1
  obtain ⟨dx, vs, ha, l⟩ := R1.ob a _ ga
  refine ⟨a, dx, vs, rfl, ha, l.no hl, hr W H1 σ E1 G1 _ _ R1 r1 fun ws ds H2 E2 G2 R2 g2 f2 ⟨hn, r2⟩ => ?_⟩
  rw [List.append_nil]
  exact run_G R2 (.cons .obj f2) hn r2 fun v d H' G' R3 g3 f3 q => k v d H' E2 G' R3 ((g1.trans g2).trans g3) f3 q
theorem rf2_methN (he : RfE2 S dy Z te de) (hr : RfA2 S dy Z tr dr) : RfE2 S dy Z (tMeth C m (spGX mg n none spx) [] XE te tr) (dMeth C m n (spNG spx) de dr) := fun W H σ E G Q R Re r k => he W H σ E G _ _ Re r fun x dx H1 E1 G1 R1 g1 f1 ⟨a, fs, ex, ga, hl, r1⟩ => by
  subst ex
  obtain rfl := fz_ref f1
  obtain ⟨dx, vs, ha, l⟩ := R1.ob a _ ga
  refine ⟨a, dx, vs, rfl, ha, l.no hl, hr W H1 σ E1 G1 _ _ R1 r1 fun ws ds H2 E2 G2 R2 g2 f2 ⟨hn, r2⟩ => ?_⟩
  rw [List.append_nil]
  exact spGN (run_G R2 (.cons .obj f2) hn r2 fun v d H' G' R3 g3 f3 q => k v d H' E2 G' R3 ((g1.trans g2).trans g3) f3 q)
/-- o.p, a property -/
def dProp (C : Addr) (sp : DSpG) (de : DE2) : DE2 := fun E G R => de E G fun x E1 G1 => ∃ a fs, x = refD a ∧ G1 a = some (.ins C fs) ∧ sp [refD a] G1 fun r _ G3 => R r E1 G3
theorem rf2_prop (he : RfE2 S dy Z te de) : RfE2 S dy Z (tProp C (spG 1 none sp) [] XE te) (dProp C sp de) := fun W H σ E G Q R Re r k => he W H σ E G _ _ Re r fun x dx H1 E1 G1 R1 g1 f1 ⟨a, fs, ex, ga, r1⟩ => by
  subst ex
  obtain rfl := fz_ref f1
  obtain ⟨dx, vs, ha, l⟩ := R1.ob a _ ga
  exact ⟨a, dx, vs, rfl, ha, run_G R1 (.cons .obj .nil) rfl r1 fun v d H' G' R3 g3 f3 q => k v d H' E1 G' R3 (g1.trans g3) f3 q⟩
/-- C(..) -/
def dMake (C : Addr) (n : Nat) (sp : DSpG) (da : DA2) : DE2 := fun E G R => da E G fun ds E1 G1 => ds.length + 1 = n ∧ ∀ x, G1 x = none → sp (refD x :: ds) (updG G1 x (.ins C [])) fun r _ G3 => r = .none ∧ R (refD x) E1 G3
theorem same_made {H : Hp} {x dx C : Addr} (nx : H x = none) (nd : H dx = none) : Same H (upd (upd H dx (.own x)) x (.ins C dx [])) := fun b o e => by
  have n1 : b ≠ x := fun z => by rw [z, nx] at e; cases e
  have n2 : b ≠ dx := fun z => by rw [z, nd] at e; cases e
  rw [upd_ne n1, upd_ne n2]
  exact e
theorem rf2_make (ha : RfA2 S dy Z ta da) : RfE2 S dy Z (tMake C (spG n none sp) [] XE ta) (dMake C n sp da) := fun W H σ E G Q R Re r k => ha W H σ E G _ _ Re r fun vs ds H1 E1 G1 R1 g1 f1 ⟨hn, r1⟩ => fun x dx nx nd nxd => by
  rw [List.append_nil]
  have gx : G1 x = none := by
    cases e : G1 x with
    | none => rfl
    | some o => exact absurd nx (ld_some (R1.ob x o e).ld)
  have s := same_made (C := C) nx nd
  obtain ⟨R2, g2⟩ := R1.add (o := .ins C []) nx s ⟨dx, [], upd_same, .nil⟩
  refine run_G (R := fun r E1 G3 => r = .none ∧ R (refD x) E1 G3) R2 (.cons .obj (f1.keep (g2.kp R1.rep.ld))) hn (r1 x gx) fun v d H' G' R3 g3 f3 q => ?_
  obtain ⟨e, q⟩ := q
  subst e
  cases f3
  exact ⟨rfl, k _ _ H' E1 G' R3 ((g1.trans g2).trans g3) .obj q⟩
end
end Gl
namespace Gl
open PySem PySem.Spec PyProof.Rows L2 Ss Dl Xm
/-! ### statements -/
structure DN2 where
  nx : DEnv → GS → Prop
  rt : Dat → DEnv → GS → Prop
  bk : DEnv → GS → Prop
  ct : DEnv → GS → Prop
abbrev DS2 := DN2 → DEnv → GS → Prop
def Rt2 (C : Ct) (H : Hp) (G : GS) (v : V) (d : Dat) : Prop := Fz (N1 C.N0 G) H v d
structure Cn2 (C : Ct) (Z : Zx) (W : Ow) (H : Hp) (G : GS) (DD : DN2) (B : Ends) : Prop where
  nx : ∀ W' H' σ E G', Rep2 C Z W' H' σ E G' → Gg W H G W' H' G' → DD.nx E G' → B.nx σ H'
  rt : ∀ W' H' σ E G' v d, Rep2 C Z W' H' σ E G' → Gg W H G W' H' G' → Rt2 C H' G' v d → DD.rt d E G' → B.rt v H'
  bk : ∀ W' H' σ E G', Rep2 C Z W' H' σ E G' → Gg W H G W' H' G' → DD.bk E G' → B.bk σ H'
  ct : ∀ W' H' σ E G', Rep2 C Z W' H' σ E G' → Gg W H G W' H' G' → DD.ct E G' → B.ct σ H'
theorem Cn2.gr {C : Ct} {Z : Zx} {W W1 : Ow} {H H1 : Hp} {G G1 : GS} {DD : DN2} {B : Ends} (c : Cn2 C Z W H G DD B) (g : Gg W H G W1 H1 G1) : Cn2 C Z W1 H1 G1 DD B :=
  ⟨fun W' H' σ E G' R g' n => c.nx W' H' σ E G' R (g.trans g') n, fun W' H' σ E G' v d R g' o n => c.rt W' H' σ E G' v d R (g.trans g') o n, fun W' H' σ E G' R g' n => c.bk W' H' σ E G' R (g.trans g') n, fun W' H' σ E G' R g' n => c.ct W' H' σ E G' R (g.trans g') n⟩
def RfS2 (S : Sx) (dy : Dy) (Z : Zx) (ts : TS) (ds : DS2) : Prop := (∀ b, dy.N0 b → dy.H0 b ≠ none) → ∀ (W : Ow) (H : Hp) (σ : L2.St) (E : DEnv) (G : GS) (B : Ends) (DD : DN2), Rep2 ⟨dy, S⟩ Z W H σ E G → ds DD E G → Cn2 ⟨dy, S⟩ Z W H G DD B → ts B σ H
section
variable {S : Sx} {dy : Dy} {Z : Zx} {K : PySem.W.Frag} {C : Addr} {f m : Str} {te tv : TE} {de dv : DE2} {tt : TT} {dt : DT2} {ta tr : TA} {da dr : DA2} {t u : TS} {a b : DS2}
def dNext2 : DS2 := fun DD E G => DD.nx E G
theorem rf2_next : RfS2 S dy Z tNext dNext2 := fun _ W H σ E G B DD R h c => c.nx W H σ E G R (Gg.refl W H G) h
def dSeq2 (a b : DS2) : DS2 := fun DD E G => a { DD with nx := b DD } E G
theorem rf2_seq (ha : RfS2 S dy Z t a) (hb : RfS2 S dy Z u b) : RfS2 S dy Z (tSeq t u) (dSeq2 a b) := fun n0 W H σ E G B DD R h c =>
  ha n0 W H σ E G _ { DD with nx := b DD } R h ⟨fun W' H' σ' E' G' R' g n => hb n0 W' H' σ' E' G' B DD R' n (c.gr g), c.rt, c.bk, c.ct⟩
def dBreak2 : DS2 := fun DD E G => DD.bk E G
theorem rf2_break : RfS2 S dy Z tBreak dBreak2 := fun _ W H σ E G B DD R h c => c.bk W H σ E G R (Gg.refl W H G) h
def dCont2 : DS2 := fun DD E G => DD.ct E G
theorem rf2_cont : RfS2 S dy Z tCont dCont2 := fun _ W H σ E G B DD R h c => c.ct W H σ E G R (Gg.refl W H G) h
def dRet2 (de : DE2) : DS2 := fun DD E G => de E G fun d E1 G1 => DD.rt d E1 G1
theorem rt_of {C : Ct} {W : Ow} {H : Hp} {G : GS} {v : V} {d : Dat} (f : Fz (Nn (cG C G) W) H v d) : Rt2 C H G v d := f.keep (Kp.sub fun b z => .inl z)
theorem rf2_ret (he : RfE2 S dy Z te de) : RfS2 S dy Z (tRet te) (dRet2 de) := fun _ W H σ E G B DD R h c => he W H σ E G _ _ R h fun v d H1 E1 G1 R1 g1 f1 q => c.rt W H1 σ E1 G1 v d R1 g1 (rt_of f1) q
def dRetN2 : DS2 := fun DD E G => DD.rt .none E G
theorem rf2_retN : RfS2 S dy Z tRetN dRetN2 := fun _ W H σ E G B DD R h c => c.rt W H σ E G .non .none R (Gg.refl W H G) .non h
def dIfS2 (dt : DT2) (a b : DS2) : DS2 := fun DD E G => dt E G fun k E1 G1 => if k = true then a DD E1 G1 else b DD E1 G1
theorem rf2_ifS (ht : RfT2 S dy Z tt dt) (ha : RfS2 S dy Z t a) (hb : RfS2 S dy Z u b) : RfS2 S dy Z (tIfS tt t u) (dIfS2 dt a b) := fun n0 W H σ E G B DD R h c => ht W H σ E G _ _ R h fun k H1 E1 G1 R1 g1 r1 => by
  cases k with
  | true => exact ha n0 W H1 σ E1 G1 B DD R1 r1 (c.gr g1)
  | false => exact hb n0 W H1 σ E1 G1 B DD R1 r1 (c.gr g1)
def dDrop2 (de : DE2) : DS2 := fun DD E G => de E G fun _ E1 G1 => DD.nx E1 G1
theorem rf2_drop (he : RfE2 S dy Z te de) : RfS2 S dy Z (tDrop te) (dDrop2 de) := fun _ W H σ E G B DD R h c => he W H σ E G _ _ R h fun v d H1 E1 G1 R1 g1 f1 q => c.nx W H1 σ E1 G1 R1 g1 q
/-- x = e, then the target -/
def dAsg2 (de : DE2) (dg : DG) : DS2 := fun DD E G => de E G fun d E1 G1 => dg d E1 fun E2 => DD.nx E2 G1
theorem rf2_asg {g : TG} {dg : DG} (he : RfE2 S dy Z te de) (hg : ∀ dy, RfG ⟨dy, S⟩ g dg) : RfS2 S dy Z (tAsg te g) (dAsg2 de dg) := fun _ W H σ E G B DD R h c => he W H σ E G _ _ R h fun v d H1 E1 G1 R1 g1 f1 q =>
  hg (cG ⟨dy, S⟩ G1).toDy W H1 σ E1 v d _ _ R1.rep f1 q fun W2 H2 σ2 E2 R2 g2 n => by
    obtain ⟨R3, g3⟩ := R1.after R2 g2
    exact c.nx W2 H2 σ2 E2 G1 R3 (g1.trans g3) n
/-- a written slot takes a new list -/
def dSetF2 (i : Nat) (de : DE) : DS2 := fun DD E G => de E fun d E1 => DD.nx (E1.set i (some d)) G
theorem rf2_setF {i : Nat} {te : TE} {de : DE} (hO : S.O i = true) (hM : S.M ≠ some i ∧ S.M2 ≠ some i) (he : ∀ dy, RfF ⟨dy, S⟩ te de) : RfS2 S dy Z (tAsg (tPu te) (gName i)) (dSetF2 i de) := fun n0 W H σ E G B DD R h c => by
  refine he (cG ⟨dy, S⟩ G).toDy W H σ E _ (fun d E1 => DD.nx (E1.set i (some d)) G) R.rep h fun p d H' E' R' g hp o av n => ?_
  have R2 : Rep (cG ⟨dy, S⟩ G) (And1 W p) H' (σ.set i (some (.ref p))) (E'.set i (some d)) := R'.setO hO hM o (R.rep.free0 hp).1 av
  obtain ⟨R3, g3⟩ := R.after R2 ⟨g.st, g.th, fun b w => by
    rcases w with w | rfl
    · exact .inl w
    · exact .inr hp⟩
  exact c.nx _ H' _ _ G R3 g3 n
/-- found.append(..) and other statements that meet no object -/
def tPuS (t : TS) : TS := t
theorem ps_pu {X : Cx} {st : Stmt} {t : TS} (h : PS X st t) : PS X st (tPuS t) := ⟨h.run⟩
def dPuS (d : DS) : DS2 := fun DD E G => d ⟨fun E1 => DD.nx E1 G, fun r E1 => DD.rt r E1 G, fun E1 => DD.bk E1 G, fun E1 => DD.ct E1 G⟩ E
/-- o.f = e -/
def dSFld (C : Addr) (f : Str) (dv de : DE2) : DS2 := fun DD E G => dv E G fun d E1 G1 => de E1 G1 fun x E2 G2 => ∃ a fs, x = refD a ∧ G2 a = some (.ins C fs) ∧ fs.length < 1000 ∧ DD.nx E2 (updG G2 a (.ins C (putFD f d fs)))
theorem rf2_sfld (n : NoAttr K C f) (cl : Cls K C) (hv : RfE2 S dy Z tv dv) (he : RfE2 S dy Z te de) : RfS2 S dy Z (sFld K te tv f) (dSFld C f dv de) := fun _ W H σ E G B DD R h c =>
  hv W H σ E G _ _ R h fun y d H1 E1 G1 R1 g1 f1 r1 => he W H1 σ E1 G1 _ _ R1 r1 fun x dx H2 E2 G2 R2 g2 f2 ⟨a, fs, ex, ga, hl, q⟩ => by
    subst ex
    obtain rfl := fz_ref f2
    obtain ⟨di, vs, ha, l⟩ := R2.ob a _ ga
    have fy := f1.keep (g2.kp R1.rep.ld)
    have gn : G2 a ≠ none := by rw [ga]; intro z; cases z
    have kp : Kp (Nn (cG ⟨dy, S⟩ G2) W) (Nn (cG ⟨dy, S⟩ G2) W) H2 (upd H2 a (.ins C di (putF f y vs))) := .ex fun b o e h => ⟨(upd_ne fun z => by
      subst z
      rcases h with ⟨xs, rfl⟩ | h
      · rw [ha] at e; cases e
      · exact h (.inl (.inr gn))).trans e, id⟩
    obtain ⟨R3, g3⟩ := R2.mut (a := a) (o := .ins C (putFD f d fs)) gn (fun b nb x e => (upd_ne nb).trans e) ⟨di, putF f y vs, upd_same, (l.put fy).keep kp⟩
    exact ⟨a, C, di, vs, rfl, ha, cl, n, by rw [l.len]; exact hl, c.nx W _ σ E2 _ R3 ((g1.trans g2).trans g3) q⟩
/-- a new list joins the objects -/
theorem Rep2.adopt {C : Ct} {Z : Zx} {W : Ow} {H H' : Hp} {σ : L2.St} {E E' : DEnv} {G : GS} {p : Addr} {d : Dat} {o : Ob} (R : Rep2 C Z W H σ E G) (R' : Rep (cG C G) (And1 W p) H' σ E') (g : Gr W H W H') (hp : H p = none) (av : ∀ j e, C.O j = true → E'[j]? = some (some e) → σ[j]? ≠ some (some (.ref p))) (ho : ObOk (Nn (cG C G) (And1 W p)) H' p o) : Rep2 C Z W H' σ E' (updG G p o) ∧ Gg W H G W H' (updG G p o) := by
  have gn : G p = none := by
    cases e : G p with
    | none => rfl
    | some o => exact absurd hp (ld_some (R.ob p o e).ld)
  have gG : Gg W H G W H' (updG G p o) := ⟨fun b x n _ e => g.st b x n e, g.th, fun _ w => .inl w, fun b h => (updG_nn h).elim (fun q => .inr (q ▸ hp)) .inl, fun b h => updG_in h⟩
  have kp0 := gG.kp (C := C) R.rep.ld
  have sub : ∀ b, Nn (cG C (updG G p o)) W b → Nn (cG C G) (And1 W p) b := fun b z => by
    rcases z with (z | z) | z
    · exact .inl (.inl z)
    · rcases updG_nn z with q | q
      · exact .inr (.inr q)
      · exact .inl (.inr q)
    · exact .inr (.inl z)
  have kp := Kp.sub (H := H') sub
  refine ⟨⟨⟨R'.out, fun b w => R'.w b (.inl w), fun b z => R'.ld b (sub b z), fun i x e => ?_, R'.inj, R'.len, ⟨fun b _ n _ => absurd (R.wb b) n, R'.gb.th, fun b _ => .inl (R.wb b)⟩⟩, fun b x h => ?_, fun b h w => ?_, fun b h => ?_, R.wb, R.gg.trans gG⟩, gG⟩
  · obtain ⟨v, h1, h2⟩ := R'.slot i x e
    refine ⟨v, h1, ?_⟩
    unfold SlotOk at *
    split
    · next hh =>
      rw [if_pos (show (cG C G).O i = true from hh)] at h2
      obtain ⟨c, rfl, wc, oc, m⟩ := h2
      have wc' : W c := by
        rcases wc with z | z
        · exact z
        · exact absurd (z ▸ h1) (av i x hh e)
      exact ⟨c, rfl, wc', oc.keep kp rfl, m⟩
    · next hh =>
      rw [if_neg (show ¬ (cG C G).O i = true from hh)] at h2
      exact h2.keep kp
  · by_cases q : b = p
    · subst q
      rw [updG_same] at h
      cases h
      exact ho.keep kp fun _ e => e
    · rw [updG_ne q] at h
      exact (R.ob b x h).keep kp0 fun y e => g.st b y (R.nw b (by rw [h]; intro z; cases z)) e
  · rcases updG_nn h with q | q
    · exact ld_some (R.rep.ld p (.inr (q ▸ w))) hp
    · exact R.nw b q w
  · rcases updG_nn h with q | q
    · subst q
      by_cases z : C.P b
      · exact .inl z
      · exact .inr (R.rep.free0 hp).1
    · exact R.gw b q
/-- o.f = a new list -/
def dSFldL (C : Addr) (f : Str) (dv : DE) (de : DE2) : DS2 := fun DD E G => dv E fun d E1 => ∃ ds, d = .list ds ∧ ∀ p, G p = none → de E1 (updG G p (.lst ds)) fun x E2 G2 => ∃ a fs, x = refD a ∧ G2 a = some (.ins C fs) ∧ fs.length < 1000 ∧ DD.nx E2 (updG G2 a (.ins C (putFD f (refD p) fs)))
def tNewL (t : TE) : TE := t
theorem pe_newL {X : Cx} {e : Expr} {t : TE} (h : PE X e t) : PE X e (tNewL t) := ⟨h.run⟩
theorem rf2_sfldL {tv : TE} {dv : DE} (n : NoAttr K C f) (cl : Cls K C) (hv : ∀ dy, RfF ⟨dy, S⟩ tv dv) (he : RfE2 S dy Z te de) : RfS2 S dy Z (sFld K te (tNewL tv) f) (dSFldL C f dv de) := fun _ W H σ E G B DD R h c => by
  refine hv (cG ⟨dy, S⟩ G).toDy W H σ E _ (fun d E1 => ∃ ds, d = .list ds ∧ ∀ p, G p = none → de E1 (updG G p (.lst ds)) fun x E2 G2 => ∃ a fs, x = refD a ∧ G2 a = some (.ins C fs) ∧ fs.length < 1000 ∧ DD.nx E2 (updG G2 a (.ins C (putFD f (refD p) fs)))) R.rep h fun p d H1 E1 R1 g1 hp oc av ⟨ds, ed, q⟩ => ?_
  subst ed
  have gn : G p = none := by
    cases e : G p with
    | none => rfl
    | some o => exact absurd hp (ld_some (R.ob p o e).ld)
  rcases oc with ⟨xs, ds', e, hx, l⟩ | ⟨xs, ds', e, hx, l⟩
  · cases e
    obtain ⟨R2, g2⟩ := R.adopt (o := .lst ds) (d := .none) R1 g1 hp av ⟨xs, hx, l⟩
    refine he W H1 σ E1 _ _ _ R2 (q p gn) fun x dx H2 E2 G2 R3 g3 f3 ⟨a, fs, ex, ga, hl, q⟩ => ?_
    subst ex
    obtain rfl := fz_ref f3
    obtain ⟨di, vs, ha, l⟩ := R3.ob a _ ga
    have gn : G2 a ≠ none := by rw [ga]; intro z; cases z
    have kp : Kp (Nn (cG ⟨dy, S⟩ G2) W) (Nn (cG ⟨dy, S⟩ G2) W) H2 (upd H2 a (.ins C di (putF f (.ref p) vs))) := .ex fun b o e h => ⟨(upd_ne fun z => by
      subst z
      rcases h with ⟨xs, rfl⟩ | h
      · rw [ha] at e; cases e
      · exact h (.inl (.inr gn))).trans e, id⟩
    obtain ⟨R4, g4⟩ := R3.mut (a := a) (o := .ins C (putFD f (refD p) fs)) gn (fun b nb x e => (upd_ne nb).trans e) ⟨di, putF f (.ref p) vs, upd_same, (l.put .obj).keep kp⟩
    exact ⟨a, C, di, vs, rfl, ha, cl, n, by rw [l.len]; exact hl, c.nx W _ σ E2 _ R4 ((g2.trans g3).trans g4) q⟩
  · exact (dicD_list e.symm).elim
/-- o.append(e), o a list among the objects -/
def dAppR (de dv : DE2) : DS2 := fun DD E G => de E G fun x E1 G1 => (∃ a ds, x = refD a ∧ G1 a = some (.lst ds)) ∧ dv E1 G1 fun d E2 G2 => ∃ a ds, x = refD a ∧ G2 a = some (.lst ds) ∧ ds.length < sizeLine ∧ DD.nx E2 (updG G2 a (.lst (ds ++ [d])))
theorem rf2_app (he : RfE2 S dy Z te de) (hv : RfE2 S dy Z tv dv) : RfS2 S dy Z (tDrop (tBM K "list" rAppend te (tCons tv tNil))) (dAppR de dv) := fun _ W H σ E G B DD R h c =>
  he W H σ E G _ _ R h fun x dx H1 E1 G1 R1 g1 f1 ⟨⟨a, ds, ex, ga⟩, r1⟩ => by
    subst ex
    obtain rfl := fz_ref f1
    obtain ⟨xs, ha, l⟩ := R1.ob a _ ga
    refine ⟨.inl ⟨rfl, _, .of ha⟩, hv W H1 σ E1 G1 _ _ R1 r1 fun y d H2 E2 G2 R2 g2 f2 ⟨a2, ds2, e2, ga2, hl, q⟩ => ?_⟩
    cases ref_inj e2
    obtain ⟨xs2, ha2, l2⟩ := R2.ob a _ ga2
    have gn : G2 a ≠ none := by rw [ga2]; intro z; cases z
    have kp : Kp (Nn (cG ⟨dy, S⟩ G2) W) (Nn (cG ⟨dy, S⟩ G2) W) H2 (upd H2 a (.lst (xs2 ++ [y]))) := .ex fun b o e h => ⟨(upd_ne fun z => by
      subst z
      rcases h with ⟨xs, rfl⟩ | h
      · rw [ha2] at e; cases e
      · exact h (.inl (.inr gn))).trans e, id⟩
    obtain ⟨R3, g3⟩ := R2.mut (a := a) (o := .lst (ds2 ++ [d])) gn (fun b nb x e => (upd_ne nb).trans e) ⟨xs2 ++ [y], upd_same, (l2.app (.cons f2 .nil)).keep kp⟩
    exact ⟨a, xs2, y, rfl, rfl, ha2, by rw [l2.len]; exact hl, c.nx W _ σ E2 _ R3 ((g1.trans g2).trans g3) q⟩
/-- o.pop() -/
def dPopR (de : DE2) : DE2 := fun E G R => de E G fun x E1 G1 => ∃ a ds d, x = refD a ∧ G1 a = some (.lst (ds ++ [d])) ∧ R d E1 (updG G1 a (.lst ds))
theorem fzl_snoc {N : Ow} {H : Hp} : ∀ {ds : List Dat} {xs : List V} {d : Dat}, FzL N H xs (ds ++ [d]) → ∃ ys y, xs = ys ++ [y] ∧ FzL N H ys ds ∧ Fz N H y d
  | [], _, _, .cons a .nil => ⟨[], _, rfl, .nil, a⟩
  | _ :: _, _, _, .cons a l => by
    obtain ⟨ys, y, rfl, l2, b⟩ := fzl_snoc l
    exact ⟨_ :: ys, y, rfl, .cons a l2, b⟩
theorem rf2_pop (he : RfE2 S dy Z te de) : RfE2 S dy Z (tBM0 K "list" rPop te) (dPopR de) := fun W H σ E G Q R Re r k => he W H σ E G _ _ Re r fun x dx H1 E1 G1 R1 g1 f1 ⟨a, ds, d, ex, ga, r1⟩ => by
  subst ex
  obtain rfl := fz_ref f1
  obtain ⟨xs, ha, l⟩ := R1.ob a _ ga
  obtain ⟨ys, y, rfl, l2, fy⟩ := fzl_snoc l
  have gn : G1 a ≠ none := by rw [ga]; intro z; cases z
  have kp : Kp (Nn (cG ⟨dy, S⟩ G1) W) (Nn (cG ⟨dy, S⟩ G1) W) H1 (upd H1 a (.lst ys)) := .ex fun b o e h => ⟨(upd_ne fun z => by
    subst z
    rcases h with ⟨xs, rfl⟩ | h
    · rw [ha] at e; cases e
    · exact h (.inl (.inr gn))).trans e, id⟩
  obtain ⟨R3, g3⟩ := R1.mut (a := a) (o := .lst ds) gn (fun b nb x e => (upd_ne nb).trans e) ⟨ys, upd_same, l2.keep kp⟩
  refine ⟨.inl ⟨rfl, _, .of ha⟩, a, ys ++ [y], y, rfl, rfl, ha, by rw [List.length_append]; exact List.getElem?_concat_length, ?_⟩
  rw [List.dropLast_concat]
  exact k y d _ E1 _ R3 (g1.trans g3) (fy.keep (g3.kp R1.rep.ld)) r1
end
/-! ### loops -/
abbrev DI2 := DEnv → GS → (DIt → DEnv → GS → Prop) → Prop
def RfI2 (S : Sx) (dy : Dy) (Z : Zx) (wi : TI) (di : DI2) : Prop := ∀ (W : Ow) (H : Hp) (σ : L2.St) (E : DEnv) (G : GS) (Q : It → Hp → Prop) (R : DIt → DEnv → GS → Prop), Rep2 ⟨dy, S⟩ Z W H σ E G → di E G R →
  (∀ J I H' E' G', Rep2 ⟨dy, S⟩ Z W H' σ E' G' → Gg W H G W H' G' → WalkOk (cG ⟨dy, S⟩ G') W H' J I → R I E' G' → Q J H') → wi σ H Q
def tPuI (t : TI) : TI := t
theorem pi_pu {X : Cx} {tg e : Expr} {t : TI} (h : PI X tg e t) : PI X tg e (tPuI t) := h
def dPuI (d : DI) : DI2 := fun E G R => d E fun x E' => R x E' G
section
variable {S : Sx} {dy : Dy} {Z : Zx}
theorem rf2_puI {t : TI} {d : DI} (h : ∀ dy, RfI ⟨dy, S⟩ t d) : RfI2 S dy Z (tPuI t) (dPuI d) := fun W H σ E G Q R Re r k => h (cG ⟨dy, S⟩ G).toDy W H σ E Q (fun x E' => R x E' G) Re.rep r fun J I H' E' R' g wo r' => by
  obtain ⟨R2, g2⟩ := Re.after R' g
  exact k J I H' E' G R2 g2 wo r'
theorem Gg.kx {C : Ct} {W W' : Ow} {H H' : Hp} {G G' : GS} (g : Gg W H G W' H' G') (ld : ∀ b, Nn (cG C G) W b → LD H b) : Kx (Nn (cG C G) W) H H' := fun b o e h => by
  have nn : ¬ Nn (cG C G) W b := by
    rcases h with ⟨xs, rfl⟩ | h
    · exact fun z => ld_tup (ld b z) e
    · exact h
  exact g.st b o (fun w => nn (.inr w)) (non_of fun z => nn (.inl (.inr z))) e
def dFor2 (di : DI2) (dg : DG) (db : DS2) : DS2 := fun DD E G => di E G fun I E1 G1 => ∃ Wd : Nat → DEnv → GS → Prop, Wd 0 E1 G1 ∧ (∀ k x E G, k < I.n → I.item k x → Wd k E G → dg x E fun E2 => db { DD with nx := Wd (k + 1), ct := Wd (k + 1), bk := DD.nx } E2 G) ∧ ∀ E G, Wd I.n E G → DD.nx E G
theorem rf2_for {wi : TI} {g : TG} {tb : TS} {di : DI2} {dg : DG} {db : DS2} (hi : RfI2 S dy Z wi di) (hg : ∀ dy, RfG ⟨dy, S⟩ g dg) (hb : RfS2 S dy Z tb db) : RfS2 S dy Z (tFor wi g tb) (dFor2 di dg db) := fun n0 W H σ E G B DD R h c => hi W H σ E G _ _ R h fun J I H1 E1 G1 R1 g1 wo hw => by
  obtain ⟨Gh, Y, wk, w1, w2⟩ := wo
  obtain ⟨Wd, h0, hs, hd⟩ := hw
  have c := c.gr g1
  refine for_it wk (fun k σ' H' => ∃ W' E' G', Rep2 ⟨dy, S⟩ Z W' H' σ' E' G' ∧ Gg W H1 G1 W' H' G' ∧ Wd k E' G') ⟨W, E1, G1, R1, Gg.refl _ _ _, h0⟩ (fun k σ' H' _ ⟨W', E', G', R', g', _⟩ => w1 H' (g'.kx R1.rep.ld)) (fun k x σ' H' H'' hk ⟨W', E', G', R', g', hw⟩ y => ?_) (fun σ' H' ⟨W', E', G', R', g', hw⟩ => c.nx W' H' σ' E' G' R' g' (hd E' G' hw))
  obtain ⟨s, d, hd', fd⟩ := w2 _ H' k x H'' (g'.kp R1.rep.ld) hk y
  obtain ⟨R2, gs⟩ := R'.after (R'.rep.same s) (Gr.same s)
  have g2 := g'.trans gs
  refine hg (cG ⟨dy, S⟩ G').toDy W' H'' σ' E' x d _ _ R2.rep fd (hs k d E' G' hk hd' hw) fun W3 H3 σ3 E3 R3 g3 r3 => ?_
  obtain ⟨R4, g4⟩ := R2.after R3 g3
  have g5 := g2.trans g4
  exact hb n0 W3 H3 σ3 E3 G' _ _ R4 r3 ⟨fun W4 H4 σ4 E4 G4 R4 g4 n => ⟨W4, E4, G4, R4, g5.trans g4, n⟩, fun W4 H4 σ4 E4 G4 v d R4 g4 o n => c.rt W4 H4 σ4 E4 G4 v d R4 (g5.trans g4) o n, fun W4 H4 σ4 E4 G4 R4 g4 n => c.nx W4 H4 σ4 E4 G4 R4 (g5.trans g4) n, fun W4 H4 σ4 E4 G4 R4 g4 n => ⟨W4, E4, G4, R4, g5.trans g4, n⟩⟩
end
/-! ### errors -/
abbrev DX2 := Er → DEnv → GS → Prop
def XOk2 (mg : Str → Option Value) (S : Sx) (dy : Dy) (Z : Zx) (Wx : WX) (Xc : DX2) : Prop := ∀ (W : Ow) (H : Hp) (σ : L2.St) (E : DEnv) (G : GS) (e : Er) (cls : Value) (d : Option Addr), Rep2 ⟨dy, S⟩ Z W H σ E G → ErrAt mg H e cls d → Xc e E G → Wx cls d σ H
theorem xok20 {mg : Str → Option Value} {S : Sx} {dy : Dy} {Z : Zx} : XOk2 mg S dy Z (fun _ _ _ _ => False) (fun _ _ _ => False) := fun _ _ _ _ _ _ _ _ _ _ z => z
section
variable {S : Sx} {dy : Dy} {Z : Zx} {mg : Str → Option Value} {Wx : WX} {Xc : DX2} {n : Nat} {ta : TA} {da : DA2}
def dRaiseF2 (n f : Str) (Xc : DX2) (da : DE2) : DS2 := fun DD E G => da E G fun x E1 G1 => ScX x ∧ Xc ⟨n, some (f, x)⟩ E1 G1
theorem rf2_raiseF {P : Program} {w : World} {K : PySem.W.Frag} {base : Heap} {n f : Str} {te : TE} {da : DE2} (Ge : ErrF P w K mg base n f) (hx : XOk2 mg S dy Z Wx Xc) (ha : RfE2 S dy Z te da) : RfS2 S dy Z (tRaiseF K (clA mg n) f Wx te) (dRaiseF2 n f Xc da) := fun _ W H σ E G B DD R h c =>
  ha W H σ E G _ _ R h fun v x H1 E1 G1 R1 g1 f1 ⟨hs, q⟩ => by
    obtain ⟨ev, hv⟩ := valx_of f1 hs
    refine ⟨(by show 1 ≤ 1000; decide), fun a ha => ?_⟩
    refine ⟨a, v, rfl, upd_same, Ge.T, Ge.fn, hv, fun dx hdx hne => ?_⟩
    refine ⟨rfl, dx, [(f, v)], upd_same, (upd_ne hne).trans upd_same, (upd_ne (H := H1) hne).symm.trans hdx, ?_⟩
    have h0 : H1 dx = none := (upd_ne (H := H1) hne).symm.trans hdx
    have s : Same H1 (upd (del (upd (upd (upd H1 a (exo a (clA mg n) none)) dx (exd dx [(f, v)])) a (exo a (clA mg n) (some dx))) a) dx (.xd [(f, v)])) := fun b o e => by
      have nb : b ≠ dx := fun z => by rw [z, h0] at e; cases e
      have na : b ≠ a := fun z => by rw [z, ha] at e; cases e
      rw [upd_ne nb, del_ne na, upd_ne na, upd_ne nb, upd_ne na]
      exact e
    exact hx W _ σ E1 G1 ⟨n, some (f, x)⟩ _ _ (R1.after (R1.rep.same s) (Gr.same s)).1 ⟨rfl, hs, dx, rfl, by rw [← ev]; exact upd_same⟩ q
def dRaise02 (n : Str) (Xc : DX2) : DS2 := fun DD E G => Xc ⟨n, none⟩ E G
theorem rf2_raise0 {n : Str} (hx : XOk2 mg S dy Z Wx Xc) : RfS2 S dy Z (tRaise0 (clA mg n) Wx) (dRaise02 n Xc) := fun _ W H σ E G B DD R h c => hx W H σ E G ⟨n, none⟩ _ _ R ⟨rfl, rfl⟩ h
/-- a def that meets no object and may raise -/
def dCallPX (n : Nat) (sp : DSpX) (Xc : DX2) (da : DA2) : DE2 := fun E G R => da E G fun ds E1 G1 => ds.length = n ∧ sp ds (fun r _ => R r E1 G1) (fun e _ => Xc e E1 G1)
theorem rf2_callPX {sp : DSpX} (hx : XOk2 mg S dy Z Wx Xc) (ha : RfA2 S dy Z ta da) : RfE2 S dy Z (tCallS (spOfX mg n none false sp) (WE Wx) ta) (dCallPX n sp Xc da) := fun W H σ E G Q R Re r k => ha W H σ E G _ _ Re r fun vs ds H1 E1 G1 R1 g1 f1 ⟨hn, r1⟩ => by
  refine ⟨f1.len.trans hn, ds, Nn (cG ⟨dy, S⟩ G1) W, fun _ => False, R1.rep.ld, fun _ z => z.elim, args0 f1, _, _, r1, fun r o q v H' st ld mo ro => ?_, fun e o q cls d H' st ld mo ea => ?_⟩
  · have s : Same H1 H' := fun b x e => st b x id e
    rw [if_neg Bool.false_ne_true] at ro
    obtain ⟨R2, g2⟩ := R1.after (R1.rep.same s) (Gr.same s)
    exact k v r H' E1 G1 R2 (g1.trans g2) ro q
  · have s : Same H1 H' := fun b x e => st b x id e
    exact hx W H' σ E1 G1 e cls d (R1.after (R1.rep.same s) (Gr.same s)).1 ea q
theorem run_GX {W : Ow} {H : Hp} {σ : L2.St} {E : DEnv} {G : GS} {vs : List V} {ds : List Dat} {Q : VK} {XE : XK} {sp : DSpGX} {R : Dat → DEnv → GS → Prop} (hx : ∀ (W : Ow) (H : Hp) (E : DEnv) (G : GS) (e : Er) (cls : Value) (d : Option Addr), Rep2 ⟨dy, S⟩ Z W H σ E G → ErrAt mg H e cls d → Xc e E G → XE cls d H) (Re : Rep2 ⟨dy, S⟩ Z W H σ E G) (f : FzL (Nn (cG ⟨dy, S⟩ G) W) H vs ds) (hn : ds.length = n) (r : sp ds G (fun r _ G3 => R r E G3) (fun e _ G3 => Xc e E G3))
    (k : ∀ v d H' G', Rep2 ⟨dy, S⟩ Z W H' σ E G' → Gg W H G W H' G' → Fz (Nn (cG ⟨dy, S⟩ G') W) H' v d → R d E G' → Q v H') : spGX mg n none sp vs H Q XE := by
  refine ⟨f.len.trans hn, ds, _, _, G, Re.ahd f, _, _, r, fun r o G' q v H' B fr => ?_, fun e o G' q cls d H' B he => ?_⟩
  · obtain ⟨R2, g2⟩ := Re.step B.gg B.ld B.ob
    exact k v r H' G' R2 g2 (fr.keep (Kp.sub fun b z => (same_N (W := W) (C := ⟨dy, S⟩) B.gg.gk b).mp z)) q
  · obtain ⟨R2, g2⟩ := Re.step B.gg B.ld B.ob
    exact hx W H' E G' e cls d R2 he q
def dCallGX (n : Nat) (sp : DSpGX) (Xc : DX2) (da : DA2) : DE2 := fun E G R => da E G fun ds E1 G1 => ds.length = n ∧ sp ds G1 (fun r _ G2 => R r E1 G2) (fun e _ G2 => Xc e E1 G2)
theorem rf2_callX {sp : DSpGX} (hx : XOk2 mg S dy Z Wx Xc) (ha : RfA2 S dy Z ta da) : RfE2 S dy Z (tCallS (spGX mg n none sp) (WE Wx) ta) (dCallGX n sp Xc da) := fun W H σ E G Q R Re r k => ha W H σ E G _ _ Re r fun vs ds H1 E1 G1 R1 g1 f1 ⟨hn, r1⟩ =>
  run_GX (fun W H E G e cls d => hx W H σ E G e cls d) R1 f1 hn r1 fun v d H' G' R2 g2 f2 q => k v d H' E1 G' R2 (g1.trans g2) f2 q
end
/-! ### the bodies of defs -/
def ends2 (m : Option Nat) (Qd : Dat → Dat → GS → Prop) (r : Dat) (E : DEnv) (G : GS) : Prop := match m with
  | none => Qd r .none G
  | some j => ∃ o, E[j]? = some (some o) ∧ Qd r o G
section
variable {S : Sx} {n : Nat} {N : List Str} {vs : List V} {H : Hp} {Q : VK} {E : XK} {ds : List Dat} {N0 P : Ow} {G : GS}
abbrev dyG (H : Hp) (P N0 : Ow) (G : GS) (pn : ∀ b, P b → N0 b) (gn : ∀ b, G b ≠ none → N0 b ∧ ¬ P b) : Dy := ⟨H, fun b => P b ∨ G b ≠ none, N0, fun b h => h.elim (pn b) fun z => (gn b z).1, fun _ => True, H, P, fun _ => False⟩
theorem rep_start (A : Ahd S.M N0 P G H vs ds) (dl : ds.length = n) (hO : ∀ i, i < n → (S.O i = true ↔ S.M = some i)) (h2 : S.M2 = none) : Rep2 ⟨dyG H P N0 G A.pn A.gn, S⟩ ⟨P, H, G⟩ P H (L2.start N vs) (Dl.envOf N.length ds) G := by
  obtain ⟨al, ag, aP⟩ := A.ar
  have unN : ∀ b, Nn (cG ⟨dyG H P N0 G A.pn A.gn, S⟩ G) P b → N0 b := fun b z => by
    rcases z with (z | z) | z
    · exact z
    · exact (A.gn b z).1
    · exact A.pn b z
  have inN : ∀ b, N0 b → Nn (cG ⟨dyG H P N0 G A.pn A.gn, S⟩ G) P b := fun b z => .inl (.inl z)
  refine ⟨⟨fun b o _ e => e, fun b w => .inl (.inl w), fun b z => A.ld b (unN b z), fun i e he => ?_, fun i j d1 d2 v oi oj nij h1 h2 h3 => ?_, ?_, ⟨fun b _ n _ => absurd trivial n, fun b n => n, fun _ _ => .inl trivial⟩⟩, fun a o h => (A.ob a o h).keep (Kp.sub unN) fun _ e => e, fun b h => (A.gn b h).2, fun b h => .inl (.inr h), fun _ => trivial, Gg.refl _ _ _⟩
  · obtain ⟨hi, hde⟩ := env_get he
    have hv : i < vs.length := by rw [al]; exact hi
    refine ⟨vs[i], by rw [start_get hv, List.getElem?_eq_getElem hv]; rfl, ?_⟩
    have hvi : vs[i]? = some vs[i] := List.getElem?_eq_getElem hv
    have a := ag i _ e hvi hde
    unfold SlotOk
    by_cases oi : S.O i = true
    · rw [if_pos (show (cG ⟨dyG H P N0 G A.pn A.gn, S⟩ G).O i = true from oi)]
      have mi := (hO i (by omega)).mp oi
      rw [if_pos mi] at a
      obtain ⟨p, ep, hp, oc⟩ := a
      exact ⟨p, ep, hp, oc.keep (Kp.sub unN) rfl, fun z => absurd mi z, fun _ => hp, fun z => by have z : S.M2 = some i := z; rw [h2] at z; cases z⟩
    · rw [if_neg (show ¬ (cG ⟨dyG H P N0 G A.pn A.gn, S⟩ G).O i = true from oi)]
      rw [if_neg (fun z => oi ((hO i (by omega)).mpr z))] at a
      exact a.keep (Kp.sub unN)
  · obtain ⟨hi, _⟩ := env_get h1
    obtain ⟨hj, _⟩ := env_get h2
    have a := (hO i (by omega)).mp oi
    have b := (hO j (by omega)).mp oj
    rw [a] at b
    exact absurd (Option.some.inj b) nij
  · unfold L2.start Dl.envOf
    simp only [List.length_append, List.length_map, List.length_replicate, al]
/-- what stands at an end -/
theorem beh_end {W' : Ow} {H' : Hp} {σ : L2.St} {E' : DEnv} {G' : GS} {o : Dat} (A : Ahd S.M N0 P G H vs ds) (dl : ds.length = n) (hO : ∀ i, i < n → (S.O i = true ↔ S.M = some i)) (hM : ∀ j, S.M = some j → j < n) (R : Rep2 ⟨dyG H P N0 G A.pn A.gn, S⟩ ⟨P, H, G⟩ W' H' σ E' G') (ho : ∀ j, S.M = some j → E'[j]? = some (some o)) : Beh N0 P S.M vs H G H' G' o := by
  have sub : ∀ b, N1 N0 G' b → Nn (cG ⟨dyG H P N0 G A.pn A.gn, S⟩ G') W' b := fun b z => .inl z
  refine ⟨⟨R.gg.st, R.gg.th, fun b w => .inl w, R.gg.gd, R.gg.gk⟩, fun b z => R.rep.ld b (sub b z), fun a u h => (R.ob a u h).keep (Kp.sub sub) fun _ e => e, fun j mj => ?_⟩
  have oj := (hO j (hM j mj)).mpr mj
  obtain ⟨a, h1, wa, oc, mo⟩ := R.rep.own (C := cG ⟨dyG H P N0 G A.pn A.gn, S⟩ G') oj (ho j mj)
  obtain ⟨j', mj', hv⟩ := A.ar.2.2 a (mo.2.1 mj)
  rw [mj] at mj'
  cases mj'
  exact ⟨a, hv, oc.keep (Kp.sub sub) rfl⟩
theorem entryG {sp : DSpG} {t : TS} {d : DS2} (h : spG n S.M sp vs H Q E) (ht : ∀ dy Z, RfS2 S dy Z t d) (hO : ∀ i, i < n → (S.O i = true ↔ S.M = some i)) (h2 : S.M2 = none) (hM : ∀ j, S.M = some j → j < n)
    (hd : ∀ ds G Qd, ds.length = n → sp ds G Qd → d ⟨ends2 S.M Qd .none, ends2 S.M Qd, fun _ _ => False, fun _ _ => False⟩ (Dl.envOf N.length ds) G) : t { nx := fun _ H' => Q .non H', rt := Q } (L2.start N vs) H := by
  obtain ⟨hn, ds, N0, P, G, A, Qd, hsp, k⟩ := h
  have dl : ds.length = n := A.ar.1.symm.trans hn
  have fin : ∀ W' H' σ E v r G', Rep2 ⟨dyG H P N0 G A.pn A.gn, S⟩ ⟨P, H, G⟩ W' H' σ E G' → Rt2 ⟨dyG H P N0 G A.pn A.gn, S⟩ H' G' v r → ends2 S.M Qd r E G' → Q v H' := fun W' H' σ E v r G' R ro q => by
    cases hm : S.M with
    | none =>
      unfold ends2 at q
      rw [hm] at q
      exact k r .none G' q v H' (beh_end A dl hO hM R fun j mj => by rw [hm] at mj; cases mj) ro
    | some j =>
      unfold ends2 at q
      rw [hm] at q
      obtain ⟨o, eo, q⟩ := q
      exact k r o G' q v H' (beh_end A dl hO hM R fun j' mj => by rw [hm] at mj; cases mj; exact eo) ro
  refine ht _ ⟨P, H, G⟩ (fun b z => ld_some (A.ld b z)) P H _ _ _ _ _ (rep_start A dl hO h2) (hd ds G Qd dl hsp) ⟨fun W' H' σ E G' R g q => fin W' H' σ E .non .none G' R .non q, fun W' H' σ E G' v r R g ro q => fin W' H' σ E v r G' R ro q, fun W' H' σ E G' R g q => q.elim, fun W' H' σ E G' R g q => q.elim⟩
theorem entryGX {mg : Str → Option Value} {sp : DSpGX} {t : TS} {d : DX2 → DS2} (h : spGX mg n S.M sp vs H Q E) (ht : ∀ dy Z Xc, XOk2 mg S dy Z (fun cls d _ H => E cls d H) Xc → RfS2 S dy Z t (d Xc)) (hO : ∀ i, i < n → (S.O i = true ↔ S.M = some i)) (h2 : S.M2 = none) (hM : ∀ j, S.M = some j → j < n)
    (hd : ∀ ds G Qd Xd, ds.length = n → sp ds G Qd Xd → d (fun e E G => match S.M with | none => Xd e .none G | some j => ∃ o, E[j]? = some (some o) ∧ Xd e o G) ⟨ends2 S.M Qd .none, ends2 S.M Qd, fun _ _ => False, fun _ _ => False⟩ (Dl.envOf N.length ds) G) : t { nx := fun _ H' => Q .non H', rt := Q } (L2.start N vs) H := by
  obtain ⟨hn, ds, N0, P, G, A, Qd, Xd, hsp, k, kx⟩ := h
  have dl : ds.length = n := A.ar.1.symm.trans hn
  have fin : ∀ W' H' σ E v r G', Rep2 ⟨dyG H P N0 G A.pn A.gn, S⟩ ⟨P, H, G⟩ W' H' σ E G' → Rt2 ⟨dyG H P N0 G A.pn A.gn, S⟩ H' G' v r → ends2 S.M Qd r E G' → Q v H' := fun W' H' σ E v r G' R ro q => by
    cases hm : S.M with
    | none =>
      unfold ends2 at q
      rw [hm] at q
      exact k r .none G' q v H' (beh_end A dl hO hM R fun j mj => by rw [hm] at mj; cases mj) ro
    | some j =>
      unfold ends2 at q
      rw [hm] at q
      obtain ⟨o, eo, q⟩ := q
      exact k r o G' q v H' (beh_end A dl hO hM R fun j' mj => by rw [hm] at mj; cases mj; exact eo) ro
  refine ht _ ⟨P, H, G⟩ (fun e E G => match S.M with | none => Xd e .none G | some j => ∃ o, E[j]? = some (some o) ∧ Xd e o G) (fun W' H' σ E' G' e cls d R he q => ?_) (fun b z => ld_some (A.ld b z)) P H _ _ _ _ _ (rep_start A dl hO h2) (hd ds G Qd Xd dl hsp) ⟨fun W' H' σ E G' R g q => fin W' H' σ E .non .none G' R .non q, fun W' H' σ E G' v r R g ro q => fin W' H' σ E v r G' R ro q, fun W' H' σ E G' R g q => q.elim, fun W' H' σ E G' R g q => q.elim⟩
  cases hm : S.M with
  | none =>
    rw [hm] at q
    exact kx e .none G' q cls d H' (beh_end A dl hO hM R fun j mj => by rw [hm] at mj; cases mj) he
  | some j =>
    rw [hm] at q
    obtain ⟨o, eo, q⟩ := q
    exact kx e o G' q cls d H' (beh_end A dl hO hM R fun j' mj => by rw [hm] at mj; cases mj; exact eo) he
end
end Gl
namespace Gl
open PySem PySem.Spec PyProof.Rows L2 Ss Dl Xm
/-! ### methods, properties, makers that keep promises -/
structure Mth (CX : CXT) (P : Program) (w : World) (K : PySem.W.Frag) (mg : Str → Option Value) (base : Heap) (k : Nat) (C : Addr) (m : Str) (sp : Sp) : Prop where
  ex : ∃ f fd ps, Cls K C ∧ Meth K C m f ∧ FnOk P w K mg base CX k f fd ps sp ∧ Binds K fd ps []
structure Prp (P : Program) (w : World) (K : PySem.W.Frag) (mg : Str → Option Value) (base : Heap) (k : Nat) (C : Addr) (m : Str) (sp : Sp) : Prop where
  ex : ∃ p f fd ps, Cls K C ∧ PropOf K C m p f ∧ FnOk P w K mg base CX0 k f fd ps sp ∧ Binds K fd ps []
structure Mkr (P : Program) (w : World) (K : PySem.W.Frag) (mg : Str → Option Value) (base : Heap) (k : Nat) (x : Str) (C : Addr) (sp : Sp) : Prop where
  ex : ∃ f fd ps, Mk K C f ∧ FnOk P w K mg base CX0 k f fd ps sp ∧ mg x = some (.ref C) ∧ Binds K fd ps []
section
variable {X : Cx} {k : Nat} {C : Addr} {m x : Str} {sp : Sp} {p pos apos : Pos} {o e : Expr} {es : List Expr} {to : TE} {t : TA} {pl : Sem Bool}
theorem pe_mth (M : Mth CX0 X.prog X.w X.K X.mg X.base k C m sp) (hr : Room k X.A) (ho : PE X o to) (ha : PA X (e :: es) t)
    (hst : starEach (e :: es) X.env = (false, eval e X.env) :: starEach es X.env := by rfl) (hpl : (backTo pos (starEach es X.env)).any (·.1) = false := by rfl)
    (ht : eval (.Call (.Attribute o m apos) (e :: es) [] pos) X.env = (do
      let ov ← eval o X.env
      standAt apos.atName
      let (f, first) ← holding [ov] (getMethod ov m pl)
      callWith pos f first (backTo pos (starEach (e :: es) X.env)) (backToKw pos (keywordEach [] X.env))) := by rfl) : PE X (.Call (.Attribute o m apos) (e :: es) [] pos) (tMeth C m sp [] E0 to t) := by
  obtain ⟨f, fd, ps, c, hm, F, b⟩ := M.ex
  exact pe_meth ho c hm F hr b .nil pass0 ha hst hpl ht
theorem pe_mth0 (M : Mth CX0 X.prog X.w X.K X.mg X.base k C m sp) (hr : Room k X.A) (ho : PE X o to)
    (ht : eval (.Call (.Attribute o m apos) [] [] pos) X.env = (do
      let ov ← eval o X.env
      standAt apos.atName
      let (f, first) ← holding [ov] (getMethod ov m pl)
      callWith pos f first (backTo pos (starEach [] X.env)) (backToKw pos (keywordEach [] X.env))) := by rfl) : PE X (.Call (.Attribute o m apos) [] [] pos) (tMeth C m sp [] E0 to tNil) := by
  obtain ⟨f, fd, ps, c, hm, F, b⟩ := M.ex
  exact pe_meth0 ho c hm F hr b .nil pass0 ht
theorem pe_mthN (M : Mth (L2.CX X.prog X.w) X.prog X.w X.K X.mg X.base k C m sp) (hr : Room k X.A) (ho : PE X o to) (ha : PA X (e :: es) t)
    (hst : starEach (e :: es) X.env = (false, eval e X.env) :: starEach es X.env := by rfl) (hpl : (backTo pos (starEach es X.env)).any (·.1) = false := by rfl)
    (ht : eval (.Call (.Attribute o m apos) (e :: es) [] pos) X.env = (do
      let ov ← eval o X.env
      standAt apos.atName
      let (f, first) ← holding [ov] (getMethod ov m pl)
      callWith pos f first (backTo pos (starEach (e :: es) X.env)) (backToKw pos (keywordEach [] X.env))) := by rfl) : PE X (.Call (.Attribute o m apos) (e :: es) [] pos) (tMeth C m sp [] E0 to t) := by
  obtain ⟨f, fd, ps, c, hm, F, b⟩ := M.ex
  exact pe_meth ho c hm F hr b .nil passL ha hst hpl ht
theorem pe_prp (M : Prp X.prog X.w X.K X.mg X.base k C m sp) (hr : Room (k + 1) X.A) (ho : PE X o to) (hab : attributeBase o m X.env (eval o X.env) = eval o X.env) : PE X (.Attribute o m pos) (tProp C sp [] E0 to) := by
  obtain ⟨q, f, fd, ps, c, hm, F, b⟩ := M.ex
  exact pe_prop ho c hm F hr b .nil pass0 hab
theorem pe_mkr (M : Mkr X.prog X.w X.K X.mg X.base k x C sp) (hr : Room (k + 1) X.A) (hg : Gl X x) (ha : PA X (e :: es) t) (hdb : (x == ("__debug__" : Str)) = false := by decide) (he : starEach (e :: es) X.env = (false, eval e X.env) :: starEach es X.env := by rfl) (hpl : (backTo pos (starEach es X.env)).any (·.1) = false := by rfl) : PE X (.Call (.Name x p) (e :: es) [] pos) (tMake C sp [] E0 t) := by
  obtain ⟨f, fd, ps, c, F, hm, b⟩ := M.ex
  exact pe_make c F hr hg hm b .nil pass0 ha hdb he hpl
end
/-! ### steps -/
section
variable {E E1 : DEnv} {G G1 : GS} {R : Dat → DEnv → GS → Prop} {RT : Bool → DEnv → GS → Prop} {RA : List Dat → DEnv → GS → Prop} {DD : DN2} {de dv : DE2} {dt du : DT2} {da dr : DA2} {C a : Addr} {f m n : Str} {fs : List (Str × Dat)} {d x : Dat} {ds : List Dat} {k : Nat}
theorem y_pu {d : DE} (h : d E fun x E' => R x E' G) : dPu d E G R := h
theorem y_puT {d : DT} (h : d E fun x E' => RT x E' G) : dPuT d E G RT := h
theorem y_puI {d : DI} {RI : DIt → DEnv → GS → Prop} (h : d E fun x E' => RI x E' G) : dPuI d E G RI := h
theorem y_fld (h : de E G fun x E1 G1 => ∃ a fs d, x = refD a ∧ G1 a = some (.ins C fs) ∧ fs.lookup f = some d ∧ R d E1 G1) : dFld C f de E G R := h
theorem y_fldR {RR : Dat → Prop} (ha : G a = some (.ins C fs)) (hl : fs.lookup f = some d) (h : RR d) : ∃ a' fs d, refD a = refD a' ∧ G a' = some (.ins C fs) ∧ fs.lookup f = some d ∧ RR d := ⟨a, fs, d, rfl, ha, hl, h⟩
theorem y_nil (h : RA [] E G) : dNil2 E G RA := h
theorem y_cons (h : de E G fun x E1 G1 => dr E1 G1 fun xs E2 G2 => RA (x :: xs) E2 G2) : dCons2 de dr E G RA := h
theorem y_op {o : Dat → Dat → (Dat → Prop) → Prop} {da db : DE2} (h : da E G fun x E1 G1 => db E1 G1 fun y E2 G2 => o x y fun z => R z E2 G2) : dOp2 o da db E G R := h
theorem y_cb {o : List Dat → (Dat → Prop) → Prop} (h : da E G fun xs E1 G1 => o xs fun z => R z E1 G1) : dCB2 o da E G R := h
theorem y_tup (h : da E G fun ds E1 G1 => ds.length ≤ sizeLine ∧ R (.tuple ds) E1 G1) : dTup2 da E G R := h
theorem y_test (h : de E G fun x E1 G1 => ∃ k, x = .bool k ∧ RT k E1 G1) : dTest2 de E G RT := h
theorem y_truR (h : de E G fun x E1 G1 => ∃ a ds, x = refD a ∧ G1 a = some (.lst ds) ∧ RT (!ds.isEmpty) E1 G1) : dTruR de E G RT := h
theorem y_truRR {RR : List Dat → Prop} (ha : G a = some (.lst ds)) (h : RR ds) : ∃ a' ds, refD a = refD a' ∧ G a' = some (.lst ds) ∧ RR ds := ⟨a, ds, rfl, ha, h⟩
theorem y_not (h : dt E G fun b E1 G1 => RT (!b) E1 G1) : dNot2 dt E G RT := h
theorem y_and (h : dt E G fun b E1 G1 => if b = true then du E1 G1 RT else RT false E1 G1) : dAnd2 dt du E G RT := h
theorem y_or (h : dt E G fun b E1 G1 => if b = true then RT true E1 G1 else du E1 G1 RT) : dOr2 dt du E G RT := h
theorem y_andV {da db : DE2} (h : da E G fun x E1 G1 => ∃ c, x = .bool c ∧ if c = true then db E1 G1 R else R (.bool false) E1 G1) : dAndV2 da db E G R := h
theorem y_callG {sp : DSpG} (h : da E G fun ds E1 G1 => ds.length = k ∧ sp ds G1 fun r _ G2 => R r E1 G2) : dCallG k sp da E G R := h
theorem y_spN {sp : DSpGX} {ds : List Dat} {Q : Dat → Dat → GS → Prop} (h : sp ds G Q fun _ _ _ => False) : spNG sp ds G Q := h
theorem y_meth {sp : DSpG} (h : de E G fun x E1 G1 => ∃ a fs, x = refD a ∧ G1 a = some (.ins C fs) ∧ fs.lookup m = none ∧ dr E1 G1 fun ds E2 G2 => ds.length + 1 = k ∧ sp (refD a :: ds) G2 fun r _ G3 => R r E2 G3) : dMeth C m k sp de dr E G R := h
theorem y_methR {RR : Addr → Prop} (ha : G a = some (.ins C fs)) (hl : fs.lookup m = none) (h : RR a) : ∃ a' fs, refD a = refD a' ∧ G a' = some (.ins C fs) ∧ fs.lookup m = none ∧ RR a' := ⟨a, fs, rfl, ha, hl, h⟩
theorem y_prop {sp : DSpG} (h : de E G fun x E1 G1 => ∃ a fs, x = refD a ∧ G1 a = some (.ins C fs) ∧ sp [refD a] G1 fun r _ G3 => R r E1 G3) : dProp C sp de E G R := h
theorem y_propR {RR : Addr → Prop} (ha : G a = some (.ins C fs)) (h : RR a) : ∃ a' fs, refD a = refD a' ∧ G a' = some (.ins C fs) ∧ RR a' := ⟨a, fs, rfl, ha, h⟩
theorem y_make {sp : DSpG} (h : da E G fun ds E1 G1 => ds.length + 1 = k ∧ ∀ x, G1 x = none → sp (refD x :: ds) (updG G1 x (.ins C [])) fun r _ G3 => r = .none ∧ R (refD x) E1 G3) : dMake C k sp da E G R := h
theorem y_next (h : DD.nx E G) : dNext2 DD E G := h
theorem y_seq {a b : DS2} (h : a { DD with nx := b DD } E G) : dSeq2 a b DD E G := h
theorem y_break (h : DD.bk E G) : dBreak2 DD E G := h
theorem y_cont (h : DD.ct E G) : dCont2 DD E G := h
theorem y_ret (h : de E G fun d E1 G1 => DD.rt d E1 G1) : dRet2 de DD E G := h
theorem y_retN (h : DD.rt .none E G) : dRetN2 DD E G := h
theorem y_ifS {a b : DS2} (h : dt E G fun k E1 G1 => if k = true then a DD E1 G1 else b DD E1 G1) : dIfS2 dt a b DD E G := h
theorem y_drop (h : de E G fun _ E1 G1 => DD.nx E1 G1) : dDrop2 de DD E G := h
theorem y_asg {dg : DG} (h : de E G fun d E1 G1 => dg d E1 fun E2 => DD.nx E2 G1) : dAsg2 de dg DD E G := h
theorem y_setF {i : Nat} {d : DE} (h : d E fun x E1 => DD.nx (E1.set i (some x)) G) : dSetF2 i d DD E G := h
theorem y_sfld (h : dv E G fun d E1 G1 => de E1 G1 fun x E2 G2 => ∃ a fs, x = refD a ∧ G2 a = some (.ins C fs) ∧ fs.length < 1000 ∧ DD.nx E2 (updG G2 a (.ins C (putFD f d fs)))) : dSFld C f dv de DD E G := h
theorem y_sfldR {RR : Addr → List (Str × Dat) → Prop} (ha : G a = some (.ins C fs)) (hl : fs.length < 1000) (h : RR a fs) : ∃ a' fs, refD a = refD a' ∧ G a' = some (.ins C fs) ∧ fs.length < 1000 ∧ RR a' fs := ⟨a, fs, rfl, ha, hl, h⟩
theorem y_sfldL {dl : DE} (h : dl E fun d E1 => ∃ ds, d = .list ds ∧ ∀ p, G p = none → de E1 (updG G p (.lst ds)) fun x E2 G2 => ∃ a fs, x = refD a ∧ G2 a = some (.ins C fs) ∧ fs.length < 1000 ∧ DD.nx E2 (updG G2 a (.ins C (putFD f (refD p) fs)))) : dSFldL C f dl de DD E G := h
theorem y_app (h : de E G fun x E1 G1 => (∃ a ds, x = refD a ∧ G1 a = some (.lst ds)) ∧ dv E1 G1 fun d E2 G2 => ∃ a ds, x = refD a ∧ G2 a = some (.lst ds) ∧ ds.length < sizeLine ∧ DD.nx E2 (updG G2 a (.lst (ds ++ [d])))) : dAppR de dv DD E G := h
theorem y_appR {Q : Prop} (ha : G a = some (.lst ds)) (h : Q) : (∃ a' ds, refD a = refD a' ∧ G a' = some (.lst ds)) ∧ Q := ⟨⟨a, ds, rfl, ha⟩, h⟩
theorem y_appR2 {RR : Addr → List Dat → Prop} (ha : G a = some (.lst ds)) (hl : ds.length < sizeLine) (h : RR a ds) : ∃ a' ds, refD a = refD a' ∧ G a' = some (.lst ds) ∧ ds.length < sizeLine ∧ RR a' ds := ⟨a, ds, rfl, ha, hl, h⟩
theorem y_pop (h : de E G fun x E1 G1 => ∃ a ds d, x = refD a ∧ G1 a = some (.lst (ds ++ [d])) ∧ R d E1 (updG G1 a (.lst ds))) : dPopR de E G R := h
theorem y_for {di : DI2} {dg : DG} {db : DS2} (h : di E G fun I E1 G1 => ∃ Wd : Nat → DEnv → GS → Prop, Wd 0 E1 G1 ∧ (∀ k x E G, k < I.n → I.item k x → Wd k E G → dg x E fun E2 => db { DD with nx := Wd (k + 1), ct := Wd (k + 1), bk := DD.nx } E2 G) ∧ ∀ E G, Wd I.n E G → DD.nx E G) : dFor2 di dg db DD E G := h
theorem y_raiseF {Xc : DX2} (h : de E G fun x E1 G1 => ScX x ∧ Xc ⟨n, some (f, x)⟩ E1 G1) : dRaiseF2 n f Xc de DD E G := h
theorem y_raise0 {Xc : DX2} (h : Xc ⟨n, none⟩ E G) : dRaise02 n Xc DD E G := h
theorem y_callPX {sp : DSpX} {Xc : DX2} (h : da E G fun ds E1 G1 => ds.length = k ∧ sp ds (fun r _ => R r E1 G1) (fun e _ => Xc e E1 G1)) : dCallPX k sp Xc da E G R := h
theorem y_callGX {sp : DSpGX} {Xc : DX2} (h : da E G fun ds E1 G1 => ds.length = k ∧ sp ds G1 (fun r _ G2 => R r E1 G2) (fun e _ G2 => Xc e E1 G2)) : dCallGX k sp Xc da E G R := h
/-! the bodies -/
theorem entryG0 {O : Nat → Bool} {n : Nat} {sp : DSpG} {t : TS} {d : DS2} {N : List Str} {vs : List V} {H : Hp} {Q : VK} {E : XK} (h : spG n none sp vs H Q E) (ht : ∀ dy Z, RfS2 ⟨O, none, false, none⟩ dy Z t d) (hO : ∀ i, i < n → O i = false)
    (hd : ∀ ds G Qd, ds.length = n → sp ds G Qd → d ⟨fun _ G => Qd .none .none G, fun r _ G => Qd r .none G, fun _ _ => False, fun _ _ => False⟩ (Dl.envOf N.length ds) G) : t { nx := fun _ H' => Q .non H', rt := Q } (L2.start N vs) H :=
  entryG (S := ⟨O, none, false, none⟩) h ht (fun i hi => ⟨fun z => absurd ((hO i hi).symm.trans z) Bool.false_ne_true, fun z => nomatch z⟩) rfl (fun j z => nomatch z) fun ds G Qd hn hs => hd ds G Qd hn hs
theorem entryGX0 {O : Nat → Bool} {mg : Str → Option Value} {n : Nat} {sp : DSpGX} {t : TS} {d : DX2 → DS2} {N : List Str} {vs : List V} {H : Hp} {Q : VK} {E : XK} (h : spGX mg n none sp vs H Q E) (ht : ∀ dy Z Xc, XOk2 mg ⟨O, none, false, none⟩ dy Z (fun cls d _ H => E cls d H) Xc → RfS2 ⟨O, none, false, none⟩ dy Z t (d Xc)) (hO : ∀ i, i < n → O i = false)
    (hd : ∀ ds G Qd Xd, ds.length = n → sp ds G Qd Xd → d (fun e _ G => Xd e .none G) ⟨fun _ G => Qd .none .none G, fun r _ G => Qd r .none G, fun _ _ => False, fun _ _ => False⟩ (Dl.envOf N.length ds) G) : t { nx := fun _ H' => Q .non H', rt := Q } (L2.start N vs) H :=
  entryGX (S := ⟨O, none, false, none⟩) h ht (fun i hi => ⟨fun z => absurd ((hO i hi).symm.trans z) Bool.false_ne_true, fun z => nomatch z⟩) rfl (fun j z => nomatch z) fun ds G Qd Xd hn hs => hd ds G Qd Xd hn hs
end
end Gl
namespace Gl
open PySem PySem.Spec PyProof.Rows L2 Ss Dl Xm
/-! ### slices, comprehensions over what objects hold -/
abbrev DO2 := DEnv → GS → (Option Int → DEnv → GS → Prop) → Prop
def RfP2 (S : Sx) (dy : Dy) (Z : Zx) (tp : TO) (dp : DO2) : Prop := ∀ (W : Ow) (H : Hp) (σ : L2.St) (E : DEnv) (G : GS) (Q : Option Int → Hp → Prop) (R : Option Int → DEnv → GS → Prop), Rep2 ⟨dy, S⟩ Z W H σ E G → dp E G R →
  (∀ v H' E' G', Rep2 ⟨dy, S⟩ Z W H' σ E' G' → Gg W H G W H' G' → R v E' G' → Q v H') → tp σ H Q
section
variable {S : Sx} {dy : Dy} {Z : Zx} {K : PySem.W.Frag} {te : TE} {de : DE2}
def dPart2 (da : DE2) : DO2 := fun E G R => da E G fun x E1 G1 => ∃ i, x = .int i ∧ R (some i) E1 G1
theorem rf2_part (ha : RfE2 S dy Z te de) : RfP2 S dy Z (tPart te) (dPart2 de) := fun W H σ E G Q R Re r k =>
  ha W H σ E G _ _ Re r fun x dx H1 E1 G1 R1 g1 f1 ⟨i, e, r1⟩ => by
    subst e
    cases f1
    exact ⟨i, rfl, k _ H1 E1 G1 R1 g1 r1⟩
def dNoPart2 : DO2 := fun E G R => R none E G
theorem rf2_nopart : RfP2 S dy Z tNoPart dNoPart2 := fun W H σ E G Q R Re r k => k _ H E G Re (Gg.refl W H G) r
def dSl2 (o : Dat → Option Int → Option Int → (Dat → Prop) → Prop) (da : DE2) (dl dh : DO2) : DE2 := fun E G R => da E G fun x E1 G1 => dl E1 G1 fun l E2 G2 => dh E2 G2 fun u E3 G3 => o x l u fun z => R z E3 G3
theorem rf2_sl {r : V → Option Int → Option Int → Hp → VK → Prop} {o : Dat → Option Int → Option Int → (Dat → Prop) → Prop} {tl th : TO} {dl dh : DO2} (hr : RfS1 r o) (ha : RfE2 S dy Z te de) (hl : RfP2 S dy Z tl dl) (hh : RfP2 S dy Z th dh) : RfE2 S dy Z (tSl r te tl th) (dSl2 o de dl dh) := fun W H σ E G Q R Re r k =>
  ha W H σ E G _ _ Re r fun x dx H1 E1 G1 R1 g1 f1 r1 => hl W H1 σ E1 G1 _ _ R1 r1 fun l H2 E2 G2 R2 g2 r2 => hh W H2 σ E2 G2 _ _ R2 r2 fun u H3 E3 G3 R3 g3 r3 =>
    hr _ H3 x dx l u Q _ (.inl ((f1.keep (g2.kp R1.rep.ld)).keep (g3.kp R2.rep.ld))) r3 fun v d H' s f r => by
      obtain ⟨R4, g4⟩ := R3.after (R3.rep.same s) (Gr.same s)
      exact k v d H' E3 G3 R4 (((g1.trans g2).trans g3).trans g4) f r
def dItT2 (da : DE2) : DI2 := fun E G R => da E G fun d E1 G1 => ∃ ds, d = .tuple ds ∧ R ⟨ds.length, fun k x => ds[k]? = some x⟩ E1 G1
theorem rf2_itT (ha : RfE2 S dy Z te de) : RfI2 S dy Z (iTup K te) (dItT2 de) := fun W H σ E G Q R Re h k => ha W H σ E G _ _ Re h fun v d H1 E1 G1 R1 g1 f1 ⟨ds, e, r⟩ => by
  subst e
  cases f1 with
  | @tup a xs _ hp l =>
    have hl := l.len
    refine ⟨a, rfl, ⟨xs, .of hp⟩, k _ _ H1 E1 G1 R1 g1 ⟨_, _, hl ▸ walk_tup (xs := xs), fun H' g => .of (g _ _ hp (.inl ⟨_, rfl⟩)), fun N' H' m x H'' kp hm y => ?_⟩ r⟩
    obtain ⟨rfl, hx⟩ := y
    obtain ⟨d, hd, fd⟩ := (l.keep kp).at hx
    exact ⟨Same.refl _, d, hd, fd⟩
/-- a def that meets no object, called with what objects hold -/
def dCallP2 (n : Nat) (sp : DSp) (da : DA2) : DE2 := fun E G R => da E G fun ds E1 G1 => ds.length = n ∧ sp ds fun r _ => R r E1 G1
theorem rf2_callP {n : Nat} {sp : DSp} {ta : TA} {da : DA2} {XE : XK} (ha : RfA2 S dy Z ta da) : RfE2 S dy Z (tCall (spOf n none false sp) [] XE ta) (dCallP2 n sp da) := fun W H σ E G Q R Re r k => ha W H σ E G _ _ Re r fun vs ds H1 E1 G1 R1 g1 f1 ⟨hn, r1⟩ => by
  rw [List.append_nil]
  refine ⟨f1.len.trans hn, ds, Nn (cG ⟨dy, S⟩ G1) W, fun _ => False, R1.rep.ld, fun _ z => z.elim, args0 f1, _, r1, fun r o q v H' st ld mo ro => ?_⟩
  have s : Same H1 H' := fun b x e => st b x id e
  rw [if_neg Bool.false_ne_true] at ro
  obtain ⟨R2, g2⟩ := R1.after (R1.rep.same s) (Gr.same s)
  exact k v r H' E1 G1 R2 (g1.trans g2) ro q
/-- reversed(a list), zip of tuples: over values that an impure expression gives -/
def dLcG (vs : List Nat) (di : DI2) (dg : DG) (dt : DT) (de : DE) : DE2 := fun E G R => di E G fun I E1 G1 => ∃ Wd : Nat → List Dat → DEnv → Prop, Wd 0 [] (wipeE E1 vs) ∧
  (∀ k x acc E, k < I.n → I.item k x → Wd k acc E → dg x E fun E2 => dt E2 fun b E3 => if b = true then de E3 fun y E4 => acc.length < sizeLine ∧ Wd (k + 1) (acc ++ [y]) (wipeE E4 vs) else Wd (k + 1) acc (wipeE E3 vs)) ∧ ∀ acc E, Wd I.n acc E → R (.list acc) E G1
theorem rf2_lc {vs : List Nat} {wi : TI} {g : TG} {tt : TT} {te : TE} {di : DI2} {dg : DG} {dt : DT} {de : DE} (hi : RfI2 S dy Z wi di) (hg : ∀ dy, RfGc ⟨dy, S⟩ vs g dg) (ht : ∀ dy, RfT ⟨dy, S⟩ tt dt) (he : ∀ dy, RfE ⟨dy, S⟩ te de) : RfE2 S dy Z (tLc wi g tt te vs) (dLcG vs di dg dt de) := fun W H σ E G Q R Re h k => hi W H σ E G _ _ Re h fun J I H1 E1 G1 R1 g1 wo ⟨Wd, h0, hs, hd⟩ =>
  lc_run (dy := (cG ⟨dy, S⟩ G1).toDy) (R := fun d E => R d E G1) hg ht he R1.rep wo ⟨Wd, h0, hs, hd⟩ fun p d H' E' R' g' np o av r => by
    have R2 := R'.shrink (R1.rep.gb.trans g') av
    obtain ⟨R3, g3⟩ := R1.after R2 g'
    have n := (R1.rep.free0 np).2
    have sub : ∀ b, Nn (cG ⟨dy, S⟩ G1) W b → Nn (cG ⟨dy, S⟩ G1) (And1 W p) b := fun b n => by
      rcases n with n | n
      · exact .inl n
      · exact .inr (.inl n)
    refine k (.ref p) d H' E' G1 R3 (g1.trans g3) ?_ r
    rcases o with ⟨xs, ds, rfl, ha, l⟩ | ⟨xs, ds, rfl, ha, l⟩
    · exact .lst ha n (l.keep (Kp.sub sub))
    · exact .dic (.inl ha) n (l.keep (Kp.sub sub))
end
section
variable {E E1 : DEnv} {G G1 : GS} {R : Dat → DEnv → GS → Prop} {RO : Option Int → DEnv → GS → Prop} {de : DE2}
theorem y_callP {n : Nat} {sp : DSp} {da : DA2} (h : da E G fun ds E1 G1 => ds.length = n ∧ sp ds fun r _ => R r E1 G1) : dCallP2 n sp da E G R := h
theorem y_part (h : de E G fun x E1 G1 => ∃ i, x = .int i ∧ RO (some i) E1 G1) : dPart2 de E G RO := h
theorem y_nopart (h : RO none E G) : dNoPart2 E G RO := h
theorem y_sl {o : Dat → Option Int → Option Int → (Dat → Prop) → Prop} {dl dh : DO2} (h : de E G fun x E1 G1 => dl E1 G1 fun l E2 G2 => dh E2 G2 fun u E3 G3 => o x l u fun z => R z E3 G3) : dSl2 o de dl dh E G R := h
theorem y_itT {RI : DIt → DEnv → GS → Prop} (h : de E G fun d E1 G1 => ∃ ds, d = .tuple ds ∧ RI ⟨ds.length, fun k x => ds[k]? = some x⟩ E1 G1) : dItT2 de E G RI := h
theorem y_lc {vs : List Nat} {di : DI2} {dg : DG} {dt : DT} {de : DE} (h : di E G fun I E1 G1 => ∃ Wd : Nat → List Dat → DEnv → Prop, Wd 0 [] (wipeE E1 vs) ∧
  (∀ k x acc E, k < I.n → I.item k x → Wd k acc E → dg x E fun E2 => dt E2 fun b E3 => if b = true then de E3 fun y E4 => acc.length < sizeLine ∧ Wd (k + 1) (acc ++ [y]) (wipeE E4 vs) else Wd (k + 1) acc (wipeE E3 vs)) ∧ ∀ acc E, Wd I.n acc E → R (.list acc) E G1) : dLcG vs di dg dt de E G R := h
end
end Gl
namespace Te
open PySem PySem.Spec PyProof.Rows
/-! ### tuple(enumerate(x)), x a tuple -/
theorem nolen_enum : typeLookup (.type "enumerate") "__len__" = pure none := by rw [typeLookup_type, builtinLookup_eq_fast]; kernel_rfl
theorem nohint_enum : typeLookup (.type "enumerate") "__length_hint__" = pure none := by rw [typeLookup_type, builtinLookup_eq_fast]; kernel_rfl
section
variable {prog : Program} {w : World} {A : Around} {E : Value → Shared → Prop} {s : Shared}
theorem next_held {e it T : Addr} {fp : List Addr} {n i : Nat} {c : Int} {P : Nat → Value → Prop} {St : Nat → Heap → Prop} {old : Value} {f : Bool} {oT : Obj} {Q : Value → Shared → Prop}
    (D : Draws prog w A it fp n P St) (he : IsEnumHeld s.heap e it c old T f) (hT : s.heap.get? T = some oT) (hTe : T ≠ e) (hTi : T ≠ it) (hst : St i s.heap) (hlt : i < n) (hne : e ≠ it) (hef : e ∉ fp)
    (hQ : ∀ x h' tk, P i x → IsEnumHeld h' e it (c + 1) old T true → St (i + 1) h' →
      h'.get? s.heap.objs.size = some { cls := .type "tuple", data := .seq #[.int c tk, x] } → h'.objs.size = s.heap.objs.size + 1 →
      (∀ b o, b ≠ e → b ≠ it → s.heap.get? b = some o → h'.get? b = some o) → Q (.ref s.heap.objs.size) { s with heap := h', toks := tk + 1 }) :
    wpAny (model prog w) A (Builtin.«enumerate.__next__» ⟨[.ref e], []⟩) (fun fin s' => ∃ v, fin = .done (.ret v) ∧ Q v s') E s := by
  obtain ⟨hp, g, d, tk₀, os⟩ := s
  show wpAny _ _ (field (.ref e) 2 >>= _) _ _ _
  refine wpAny_bind (wpAny_field he rfl (x := .ref it) rfl ?_)
  refine wpAny_bind (D.item i _ _ _ hlt hst fun x h₁ tk hPx hit₁ hs₁ => ?_)
  replace hs₁ : Heap.SameBut it hp h₁ := hs₁
  have he₁ : IsEnumHeld h₁ e it c old T f := (hs₁.2 e hne).trans he
  show wpAny _ _ (field (.ref e) 3 >>= _) _ _ ⟨h₁, g, d, tk, os⟩
  refine wpAny_bind (wpAny_field he₁ rfl (x := rawInt c) rfl ?_)
  show wpAny _ _ (field (.ref e) 4 >>= _) _ _ ⟨h₁, g, d, tk, os⟩
  refine wpAny_bind (wpAny_field he₁ rfl (x := .none) rfl ?_)
  show wpAny _ _ (mkInt c >>= _) _ _ ⟨h₁, g, d, tk, os⟩
  refine wpAny_bind (wpAny_mkInt ?_)
  show wpAny _ _ (setField (.ref e) 3 (rawInt (c + 1)) >>= _) _ _ ⟨h₁, g, d, tk + 1, os⟩
  refine wpAny_bind (wpAny_setField_rec he₁ (by simp) fun h₂ he₂ hs₂ => ?_)
  replace hs₂ : Heap.SameBut e h₁ h₂ := hs₂
  replace he₂ : IsEnumHeld h₂ e it (c + 1) old T f := he₂
  show wpAny _ _ (setField (.ref e) 4 .none >>= _) _ _ ⟨h₂, g, d, tk + 1, os⟩
  refine wpAny_bind (wpAny_setField_rec he₂ (by simp) fun h₃ he₃ hs₃ => ?_)
  replace hs₃ : Heap.SameBut e h₂ h₃ := hs₃
  replace he₃ : IsEnumHeld h₃ e it (c + 1) old T f := he₃
  show wpAny _ _ (newTuple [.int c tk, x] >>= _) _ _ ⟨h₃, g, d, tk + 1, os⟩
  refine wpAny_bind (wpAny_newTuple ?_)
  have he₄ : IsEnumHeld (h₃.push { cls := .type "tuple", data := .seq #[.int c tk, x] }) e it (c + 1) old T f := Heap.get?_push_of_some _ he₃
  generalize hh₄ : h₃.push { cls := .type "tuple", data := .seq #[.int c tk, x] } = h₄ at he₄
  have hsz : h₃.objs.size = hp.objs.size := by rw [hs₃.1, hs₂.1, hs₁.1]
  have hel : e < hp.objs.size := Heap.lt_size he
  have ht₄ : h₄.get? hp.objs.size = some { cls := .type "tuple", data := .seq #[.int c tk, x] } := by rw [← hh₄, ← hsz]; exact Heap.get?_push_size _ rfl
  have hz₄ : h₄.objs.size = hp.objs.size + 1 := by rw [← hh₄, Heap.size_push, hsz]
  have hk₄ : ∀ b o, b ≠ e → b ≠ it → hp.get? b = some o → h₄.get? b = some o := fun b o hbe hbi hb => by
    rw [← hh₄]; exact Heap.get?_push_of_some _ (hs₃.extBut b o hbe (hs₂.extBut b o hbe (hs₁.extBut b o hbi hb)))
  have hit₄ : St (i + 1) h₄ := D.frame _ _ _ hit₁ fun b hb o y => by
    have hbe : b ≠ e := fun q => hef (q ▸ hb)
    rw [← hh₄]; exact Heap.get?_push_of_some _ (hs₃.extBut b o hbe (hs₂.extBut b o hbe y))
  show wpAny _ _ (Builtin.SmallTypes.ownedTupleIsFree (.ref e) >>= _) _ _ ⟨h₄, g, d, tk + 1, os⟩
  rw [hsz]
  clear hh₄ he₃ hs₃ he₂ hs₂ he₁ hs₁ hit₁ hsz h₃ h₂ h₁
  refine wpAny_bind (wpAny_tupleHeld_enum (s := ⟨h₄, g, d, tk + 1, os⟩) he₄ (hk₄ T oT hTe hTi hT) fun h₅ he₅ hs₅ => ?_)
  replace hs₅ : Heap.SameBut e h₄ h₅ := hs₅
  simp only [Bool.false_eq_true, if_false]
  refine wpAny_pure ⟨_, rfl, hQ x h₅ tk hPx he₅ ?_ (hs₅.extBut _ _ (Nat.ne_of_gt hel) ht₄) ?_ fun b o hbe hbi hb => hs₅.extBut b o hbe (hk₄ b o hbe hbi hb)⟩
  · exact D.frame _ _ _ hit₄ fun b hb o y => hs₅.extBut b o (fun q => hef (q ▸ hb)) y
  · show h₅.objs.size = hp.objs.size + 1
    rw [hs₅.1, hz₄]
theorem pyNext_held {e it T : Addr} {fp : List Addr} {n i : Nat} {c : Int} {P : Nat → Value → Prop} {St : Nat → Heap → Prop} {old : Value} {f : Bool} {oT : Obj} {Q : Option Value → Shared → Prop}
    (D : Draws prog w A.in1 it fp n P St) (he : IsEnumHeld s.heap e it c old T f) (hT : s.heap.get? T = some oT) (hTe : T ≠ e) (hTi : T ≠ it) (hst : St i s.heap) (hlt : i < n) (hne : e ≠ it) (hef : e ∉ fp)
    (hQ : ∀ x h' tk, P i x → IsEnumHeld h' e it (c + 1) old T true → St (i + 1) h' →
      h'.get? s.heap.objs.size = some { cls := .type "tuple", data := .seq #[.int c tk, x] } → h'.objs.size = s.heap.objs.size + 1 →
      (∀ b o, b ≠ e → b ≠ it → s.heap.get? b = some o → h'.get? b = some o) → Q (some (.ref s.heap.objs.size)) { s with heap := h', toks := tk + 1 }) :
    wpAny (model prog w) A (pyNext (.ref e)) Q E s := by
  have hTy : s.TypeIs (.ref e) "enumerate" := ⟨_, he, rfl⟩
  unfold pyNext
  exact wpAny_bind (wpAny_attempt (wpAny_callSpecial?_slot (name := Str.ofString "__next__") hTy F.slot_enumerate_next
    (wpAny_call_entry F.slot_enumerate_next hTy F.entry_enumerate_next
      (next_held D he hT hTe hTi hst hlt hne hef fun x h' tk a b c d k q => wpAny_pure (hQ x h' tk a b c d k q)) (F.args_enumerate_next_1 _))))
theorem end_held {e it l T : Addr} {i : Nat} {c : Int} {items : Array Value} {old : Value} {f : Bool} {Q : Option Value → Shared → Prop} (hh : A.handled = none)
    (he : IsEnumHeld s.heap e it c old T f) (hit : s.heap.IsTupleIter it l i) (hl : s.heap.IsTuple l items) (hx : items[i]? = none)
    (hQ : ∀ h', Heap.ExtBut it s.heap h' → Q none { s with heap := h' }) : wpAny (model prog w) A (pyNext (.ref e)) Q E s := by
  have hT : s.TypeIs (.ref e) "enumerate" := ⟨_, he, rfl⟩
  unfold pyNext
  refine wpAny_bind (wpAny_attempt (wpAny_callSpecial?_slot (name := Str.ofString "__next__") hT F.slot_enumerate_next
    (wpAny_call_entry F.slot_enumerate_next hT F.entry_enumerate_next ?_ (F.args_enumerate_next_1 _))))
  show wpAny _ _ (field (.ref e) 2 >>= _) _ _ _
  refine wpAny_bind (wpAny_field he rfl (x := .ref it) rfl ?_)
  refine wpAny_bind (wpAny_nextOf_tuple_end hh hit hl hx fun h' x he' hx' => ?_)
  obtain ⟨o, ho, hc⟩ := hx'
  refine wpAny_bind (wpAny_isInstance (T := "StopIteration") (b := true) ⟨o, ho, hc⟩ isSubtype_stop ?_)
  exact wpAny_pure (hQ _ he')
end
/-- what stands while the pairs are taken -/
structure St (S e it l : Addr) (xs : Array Value) (i : Nat) (h : Heap) : Prop where
  ti : h.IsTupleIter it l i
  q : h.IsTuple l xs
  zz : (∃ old, IsEnum h e it (i : Int) old) ∨ ∃ T old f oT, IsEnumHeld h e it (i : Int) old T f ∧ h.get? T = some oT ∧ T ≠ e ∧ T ≠ it ∧ T ≠ S
structure Ap (S e it l : Addr) : Prop where
  Se : S ≠ e
  Si : S ≠ it
  Sl : S ≠ l
  ei : e ≠ it
  le : l ≠ e
  li : l ≠ it
theorem St.keep {S e it l : Addr} {xs : Array Value} {i : Nat} {h h' : Heap} (st : St S e it l xs i h) (n : Ap S e it l) (hk : ∀ b o, b ≠ S → h.get? b = some o → h'.get? b = some o) : St S e it l xs i h' := by
  obtain ⟨h1, h2, hz⟩ := st
  refine ⟨h1.at fun o e => hk _ o n.Si.symm e, h2.at fun o e => hk _ o n.Sl.symm e, ?_⟩
  rcases hz with ⟨old, hz⟩ | ⟨T, old, f, oT, hz, hT, r1, r2, r3⟩
  · exact .inl ⟨old, hk _ _ n.Se.symm hz⟩
  · exact .inr ⟨T, old, f, oT, hk _ _ n.Se.symm hz, hk _ _ r3 hT, r1, r2, r3⟩
section
variable {prog : Program} {w : World} {A : Around} {E : Value → Shared → Prop} {s : Shared} {S e it l : Addr} {xs : Array Value}
def IsNum (h : Heap) (a : Addr) (i : Nat) (x : Value) : Prop := ∃ tk, h.get? a = some { cls := .type "tuple", data := .seq #[.int (i : Int) tk, x] }
theorem nxtE {i : Nat} {Q : Option Value → Shared → Prop} (hh : A.handled = none) (n : Ap S e it l) (st : St S e it l xs i s.heap) (hS : S < s.heap.objs.size) (hi : i < xs.size)
    (hQ : ∀ h' tk x, xs[i]? = some x → St S e it l xs (i + 1) h' → IsNum h' s.heap.objs.size i x → (∀ c o, c ≠ e → c ≠ it → s.heap.get? c = some o → h'.get? c = some o) → Q (some (.ref s.heap.objs.size)) { s with heap := h', toks := tk }) :
    wpAny (model prog w) A (pyNext (.ref e)) Q E s := by
  obtain ⟨h1, hl, hz⟩ := st
  have D := Draws.tuple (prog := prog) (w := w) (A := A.in1) hh it l n.li xs
  have lt : ∀ {c o}, s.heap.get? c = some o → s.heap.objs.size ≠ c := fun e => Nat.ne_of_gt (Heap.lt_size e)
  have n1 : s.heap.objs.size ≠ it := let ⟨_, e, _⟩ := h1; lt e
  have ec : ((i + 1 : Nat) : Int) = (i : Int) + 1 := by omega
  have hef : e ∉ [it, l] := by simp [n.ei, n.le.symm]
  rcases hz with ⟨old, hz⟩ | ⟨T, old, f, oT, hz, hT, r1, r2, r3⟩
  · refine wpAny_pyNext_enum_itemC D hz (i := i) ⟨h1, hl⟩ hi n.ei hef fun x h' tk hx ho hst hT hsz hk => hQ h' (tk + 1) x hx ⟨hst.1, hst.2, ?_⟩ ⟨tk, hT⟩ hk
    exact .inr ⟨s.heap.objs.size, _, false, _, by rw [ec]; exact ho, hT, lt hz, n1, Nat.ne_of_gt hS⟩
  · refine pyNext_held D hz hT r1 r2 (i := i) ⟨h1, hl⟩ hi n.ei hef fun x h' tk hx ho hst hT' hsz hk => hQ h' (tk + 1) x hx ⟨hst.1, hst.2, ?_⟩ ⟨tk, hT'⟩ hk
    exact .inr ⟨T, old, true, oT, by rw [ec]; exact ho, hk _ _ r1 r2 hT, r1, r2, r3⟩
theorem finE {Q : Option Value → Shared → Prop} (hh : A.handled = none) (st : St S e it l xs xs.size s.heap)
    (hQ : ∀ h', Heap.ExtBut it s.heap h' → Q none { s with heap := h' }) : wpAny (model prog w) A (pyNext (.ref e)) Q E s := by
  obtain ⟨h1, hl, hz⟩ := st
  have hx : xs[xs.size]? = none := Array.getElem?_eq_none (Nat.le_refl _)
  rcases hz with ⟨old, hz⟩ | ⟨T, old, f, oT, hz, hT, r1, r2, r3⟩
  · exact En.enum_end_tuple hh hz h1 hl hx hQ
  · exact end_held hh hz h1 hl hx hQ
end
/-- the pairs made so far -/
structure Made (xs : Array Value) (lo : Addr) (h : Heap) (as : List Addr) : Prop where
  rise : as.Pairwise (· < ·)
  above : ∀ a ∈ as, lo ≤ a
  pairs : ∀ (j : Nat) (a : Addr), as[j]? = some a → ∃ x, xs[j]? = some x ∧ IsNum h a j x
section
variable {prog : Program} {w : World} {A : Around} {s : Shared} {R : Result → Shared → Prop} {S e it l : Addr} {xs : Array Value}
theorem loopE {lo : Addr} (hh : A.handled = none) (n : Ap S e it l) (lz : e < lo) (l_1 : it < lo) (lS : S < lo) (hn : xs.size ≤ sizeLine) (res : Value) {h₁ : Heap}
    (hR : ∀ h' tk acc c as, (∀ b o, b ≠ S → b ≠ e → b ≠ it → h₁.get? b = some o → h'.get? b = some o) → h'.get? S = some { cls := .type "list", dict := none, data := .seq acc c, slots := #[] } → as.length = xs.size → Made xs lo h' as →
      acc.toList = as.map Value.ref → R (.ok (.ret res)) { s with heap := h', toks := tk }) :
    ∀ (k i : Nat) (h : Heap) (tk c : Nat) (acc : Array Value) (as : List Addr), xs.size - i = k → i ≤ xs.size → St S e it l xs i h → (∀ b o, b ≠ S → b ≠ e → b ≠ it → h₁.get? b = some o → h.get? b = some o) →
      h.get? S = some { cls := .type "list", dict := none, data := .seq acc c, slots := #[] } → acc.toList = as.map Value.ref → as.length = i → Made xs lo h as → lo ≤ h.objs.size →
      codeAny (model prog w) A (.builtin "list.extend.loop" ⟨[.ref S, .ref e, res], []⟩) R { s with heap := h, toks := tk } := by
  intro k
  induction k with
  | zero =>
    intro i h tk c acc as hk hi hst hkeep hS hacc hal hG hIs
    have ei : i = xs.size := by omega
    subst ei
    refine codeAny_builtin PySem.F.entry_extend_loop ?_
    rw [Around.under_plainId PySem.F.plain_extend_loop _]
    show wpAny _ A.in1 (pyNext (.ref e) >>= _) _ _ _
    refine wpAny_bind (finE (s := { s with heap := h, toks := tk }) (A := A.in1) hh hst fun h' he => ?_)
    refine wpAny_pure (hR h' tk acc c as (fun b o b1 b2 b3 e => he b o b3 (hkeep b o b1 b2 b3 e)) (he S _ n.Si hS) hal ⟨hG.rise, hG.above, fun j a hj => ?_⟩ hacc)
    obtain ⟨x, e1, tk', e2⟩ := hG.pairs j a hj
    have ha := hG.above a (List.mem_of_getElem? hj)
    exact ⟨x, e1, tk', he a _ (Nat.ne_of_gt (Nat.lt_of_lt_of_le l_1 ha)) e2⟩
  | succ k ih =>
    intro i h tk c acc as hk hi hst hkeep hS hacc hal hG hIs
    have hlt : i < xs.size := by omega
    have hsz : acc.size = i := by rw [← Array.length_toList, hacc, List.length_map, hal]
    refine codeAny_builtin PySem.F.entry_extend_loop ?_
    rw [Around.under_plainId PySem.F.plain_extend_loop _]
    show wpAny _ A.in1 (pyNext (.ref e) >>= _) _ _ _
    refine wpAny_bind (nxtE (A := A.in1) (s := { s with heap := h, toks := tk }) hh n hst (Heap.lt_size hS) hlt fun h' tk2 x ex hst' ht hkp => ?_)
    dsimp only at ht hkp ⊢
    have hS' := hkp S _ n.Se n.Si hS
    have up : ∀ b o, b ≠ S → h'.get? b = some o → (h'.update S (Obj.mapSeq (·.push (Value.ref h.objs.size)))).get? b = some o := fun b o hb e => (Heap.get?_update_other _ _ (Ne.symm hb)).trans e
    have hSl : S < h.objs.size := Heap.lt_size hS
    obtain ⟨tk3, ht⟩ := ht
    show wpAny _ A.in1 (updateSeq S (·.push (Value.ref h.objs.size)) >>= _) _ _ _
    refine wpAny_bind ?_
    refine wpAny_updateSeq hS' rfl (wpAny_pure ⟨plainId_quiet PySem.F.plain_extend_loop _, ih (i + 1) _ tk2 _ (acc.push (Value.ref h.objs.size)) (as ++ [h.objs.size]) (by omega) hlt (hst'.keep n up)
      (fun b o b1 b2 b3 e => up b o b1 (hkp b o b2 b3 (hkeep b o b1 b2 b3 e))) (Heap.get?_update_self _ hS' rfl) (by rw [Array.toList_push, hacc, List.map_append]; rfl) (by rw [List.length_append, hal]; rfl) ⟨?_, ?_, ?_⟩ ?_⟩) (by rw [hsz]; omega) (by show (acc.push (Value.ref h.objs.size)).size ≤ sizeLine + 1; rw [Array.size_push, hsz]; omega)
    · refine List.pairwise_append.mpr ⟨hG.rise, List.pairwise_singleton _ _, fun a ha b hb => ?_⟩
      rw [List.mem_singleton.mp hb]
      obtain ⟨j, hj⟩ := List.mem_iff_getElem?.mp ha
      obtain ⟨_, _, _, e⟩ := hG.pairs j a hj
      exact Heap.lt_size e
    · intro a ha
      rcases List.mem_append.mp ha with ha | ha
      · exact hG.above a ha
      · rw [List.mem_singleton.mp ha]; exact hIs
    · intro j b hj
      rcases Nat.lt_trichotomy j as.length with h1 | h1 | h1
      · rw [List.getElem?_append_left h1] at hj
        obtain ⟨x', e1, tk', e3⟩ := hG.pairs j b hj
        have hb := hG.above b (List.mem_of_getElem? hj)
        have gt : ∀ {q : Addr}, q < lo → b ≠ q := fun h => Nat.ne_of_gt (Nat.lt_of_lt_of_le h hb)
        exact ⟨x', e1, tk', up b _ (gt lS) (hkp b _ (gt lz) (gt l_1) e3)⟩
      · subst h1
        have hb : h.objs.size = b := by simpa using hj
        subst hb
        exact ⟨x, by rw [hal]; exact ex, tk3, by rw [hal]; exact up _ _ (Nat.ne_of_gt hSl) ht⟩
      · have hnone : (as ++ [h.objs.size])[j]? = none := List.getElem?_eq_none (by rw [List.length_append, List.length_singleton]; omega)
        rw [hnone] at hj; cases hj
    · have e' : (h'.update S (Obj.mapSeq (·.push (Value.ref h.objs.size)))).get? h.objs.size = _ := up _ _ (Nat.ne_of_gt hSl) ht
      exact Nat.le_of_lt (Nat.lt_of_le_of_lt hIs (Heap.lt_size e'))
end
section
variable {prog : Program} {w : World} {A : Around} {E : Value → Shared → Prop} {s : Shared} {e it l : Addr} {xs : Array Value}
theorem extE {R : Result → Shared → Prop} {S : Addr} (hh : A.handled = none) (n : Ap S e it l) (st : St S e it l xs 0 s.heap) {old : Value} (hz0 : IsEnum s.heap e it 0 old) (res : Value) (c₀ : Nat) (hS : s.heap.get? S = some { cls := .type "list", data := .seq #[] c₀ })
    (hR : ∀ h' tk acc c as, (∀ b o, b ≠ S → b ≠ e → b ≠ it → s.heap.get? b = some o → h'.get? b = some o) → h'.get? S = some { cls := .type "list", dict := none, data := .seq acc c, slots := #[] } → as.length = xs.size → Made xs s.heap.objs.size h' as →
      acc.toList = as.map Value.ref → R (.ok (.ret res)) { s with heap := h', toks := tk }) (hn : xs.size ≤ sizeLine) :
    wpAny (model prog w) A.in1 (Builtin.List.listExtendWith (.ref S) (.ref e) res)
      (fun fin s' => match fin with | .done f => R (.ok f) s' | .again c' => c'.quiet = true ∧ codeAny (model prog w) A c' R s') (fun e s' => R (.error e) s') s := by
  have hT : s.TypeIs (.ref e) "enumerate" := ⟨_, hz0, rfl⟩
  have l_1 : it < s.heap.objs.size := let ⟨_, e, _⟩ := st.ti; Heap.lt_size e
  have key : ∀ (h : Heap) (c₁ tk : Nat), (∀ b o, b ≠ S → s.heap.get? b = some o → h.get? b = some o) → h.objs.size = s.heap.objs.size →
      h.get? S = some { cls := .type "list", data := .seq #[] c₁ } → codeAny (model prog w) A (.builtin "list.extend.loop" ⟨[.ref S, .ref e, res], []⟩) R { s with heap := h, toks := tk } := by
    intro h c₁ tk hk hz hS₁
    exact loopE (xs := xs) (s := s) (h₁ := s.heap) (lo := s.heap.objs.size) hh n (Heap.lt_size hz0) l_1 (Heap.lt_size hS) hn res hR
      xs.size 0 h tk c₁ #[] [] (Nat.sub_zero _) (Nat.zero_le _) (st.keep n hk) (fun b o b1 _ _ e => hk b o b1 e) hS₁ rfl rfl
      ⟨List.Pairwise.nil, (fun _ ha => nomatch ha), (fun j a hj => by simp at hj)⟩ (Nat.le_of_eq hz.symm)
  unfold Builtin.List.listExtendWith
  refine wpAny_bind (wpAny_typeOf (T := "enumerate") hT ?_)
  have h1 : Builtin.List.listSameRef (.ref S) (.ref e) = false := by simp [Builtin.List.listSameRef, n.Se]
  have h2 : (Value.type "enumerate" == Value.type "list") = false := by decide
  have h3 : (Value.type "enumerate" == Value.type "tuple") = false := by decide
  simp only [h1, h2, h3, Bool.or_false, Bool.false_eq_true, if_false]
  refine wpAny_bind (wpAny_pyIter_enum hz0 ?_)
  refine wpAny_bind (wpAny_holding ?_)
  unfold Builtin.List.listLengthHint
  refine wpAny_bind (wpAny_specialOf hT nolen_enum ?_)
  refine wpAny_bind (wpAny_specialOf hT nohint_enum ?_)
  refine wpAny_pure ?_
  refine wpAny_ite_split (fun _ => ?_) (fun _ => wpAny_pure ⟨plainId_quiet PySem.F.plain_extend_loop _, key _ c₀ _ (fun b o _ e => e) rfl hS⟩)
  refine wpAny_bind (wpAny_rule ?_)
  refine wpAny_bind ?_
  show wpAny _ _ (updateSeq S (·.push .none) >>= fun _ => updateSeq S (·.pop)) _ _ _
  refine wpAny_bind (wpAny_updateSeq hS rfl ?_)
  have hS₂ := Heap.get?_update_self (Obj.mapSeq (·.push Value.none)) hS rfl
  refine wpAny_updateSeq (hz := by seq_fits) hS₂ rfl ?_
  have hS₃ := Heap.get?_update_self (Obj.mapSeq (·.pop)) hS₂ rfl
  refine wpAny_pure ⟨plainId_quiet PySem.F.plain_extend_loop _, key _ _ _ (fun b o hb e => ?_) ?_ hS₃⟩
  · exact (Heap.get?_update_other _ _ (Ne.symm hb)).trans ((Heap.get?_update_other _ _ (Ne.symm hb)).trans e)
  · exact (Heap.SameBut.update ..).1.trans (Heap.SameBut.update ..).1
theorem collectE {R : List Value → Shared → Prop} {old : Value} (hh : A.handled = none) (hz0 : IsEnum s.heap e it 0 old) (h1 : s.heap.IsTupleIter it l 0) (hl : s.heap.IsTuple l xs) (ei : e ≠ it) (le : l ≠ e) (li : l ≠ it) (hn : xs.size ≤ sizeLine)
    (h : ∀ (h' : Heap) (tk : Nat) (as : List Addr), (∀ b o, b ≠ e → b ≠ it → s.heap.get? b = some o → h'.get? b = some o) → s.heap.objs.size < h'.objs.size → as.length = xs.size → Made xs s.heap.objs.size h' as → R (as.map Value.ref) { s with heap := h', toks := tk }) :
    wpAny (model prog w) A (collect (.ref e)) R E s := by
  have ltz : e < s.heap.objs.size := Heap.lt_size hz0
  have lt1 : it < s.heap.objs.size := let ⟨_, e, _⟩ := h1; Heap.lt_size e
  have lt3 : l < s.heap.objs.size := let ⟨_, e, _⟩ := hl; Heap.lt_size e
  have pu : ∀ {b : Addr} {o : Obj}, s.heap.get? b = some o → (s.heap.push { cls := .type "list", data := .seq ([] : List Value).toArray }).get? b = some o := fun e => Heap.get?_push_of_some _ e
  unfold collect
  refine wpAny_bind (wpAny_runValue (codeAny_builtin entry_proto_collect' ?_))
  rw [Around.under_plainId PySem.F.plain_proto_collect _]
  show wpAny _ A.in1 (newList [] >>= fun l => again (.builtin "list.__iadd__" ⟨[l, .ref e], []⟩)) _ _ s
  refine wpAny_bind (wpAny_newObj_type ?_)
  refine wpAny_pure ⟨plainId_quiet PySem.F.plain_list_iadd _, codeAny_builtin entry_list_iadd' ?_⟩
  rw [Around.under_plainId PySem.F.plain_list_iadd _]
  have hS₁ : (s.heap.push { cls := .type "list", data := .seq ([] : List Value).toArray }).get? s.heap.objs.size = some { cls := .type "list", data := .seq #[] } := Heap.get?_push_size _ rfl
  have sz1 : (s.heap.push { cls := .type "list", data := .seq ([] : List Value).toArray }).objs.size = s.heap.objs.size + 1 := Heap.size_push ..
  show wpAny _ A.in1 (Builtin.List.listExtendWith (.ref s.heap.objs.size) (.ref e) (.ref s.heap.objs.size)) _ _ _
  have key := extE (prog := prog) (w := w) (A := A) (s := { s with heap := s.heap.push { cls := .type "list", data := .seq ([] : List Value).toArray } }) (S := s.heap.objs.size) (xs := xs)
    (R := fun (q : Result) (s' : Shared) => ∃ (h' : Heap) (tk : Nat) (acc' : Array Value) (c' : Nat) (as : List Addr), q = .ok (.ret (.ref s.heap.objs.size)) ∧ s' = { s with heap := h', toks := tk } ∧
      (∀ b o, b ≠ e → b ≠ it → s.heap.get? b = some o → h'.get? b = some o) ∧ h'.get? s.heap.objs.size = some { cls := .type "list", dict := none, data := .seq acc' c', slots := #[] } ∧ as.length = xs.size ∧ Made xs s.heap.objs.size h' as ∧ acc'.toList = as.map Value.ref)
    hh ⟨Nat.ne_of_gt ltz, Nat.ne_of_gt lt1, Nat.ne_of_gt lt3, ei, le, li⟩ ⟨h1.at fun o e => pu e, hl.at fun o e => pu e, .inl ⟨_, pu hz0⟩⟩ (pu hz0)
    (.ref s.heap.objs.size) 0 hS₁
    (fun h' tk acc' c' as hk hS' hl hG hacc => ⟨h', tk, acc', c', as, rfl, rfl, fun b o b2 b3 e => hk b o (Nat.ne_of_lt (Heap.lt_size e)) b2 b3 (pu e), hS', hl, ⟨hG.rise, fun a ha => Nat.le_trans (by show s.heap.objs.size ≤ (s.heap.push _).objs.size; rw [sz1]; exact Nat.le_succ _) (hG.above a ha), hG.pairs⟩, hacc⟩) hn
  refine wpAny_mono key (fun fin s' x => ?_) fun e s' x => ?_
  · cases fin with
    | done f =>
      obtain ⟨h', tk, acc', c', as, e, rfl, hk, hS', hl, hG, hacc⟩ := x
      cases e
      show wpAny _ A (load s.heap.objs.size >>= _) _ _ _
      refine wpAny_bind (wpAny_load hS' ?_)
      refine wpAny_pure ?_
      show R acc'.toList _
      rw [hacc]
      exact h h' tk as hk (Heap.lt_size hS') hl hG
    | again c₁ =>
      refine ⟨x.1, codeAny_mono x.2 fun q s₂ y => ?_⟩
      obtain ⟨h', tk, acc', c', as, rfl, rfl, hk, hS', hl, hG, hacc⟩ := y
      show wpAny _ A (load s.heap.objs.size >>= _) _ _ _
      refine wpAny_bind (wpAny_load hS' ?_)
      refine wpAny_pure ?_
      show R acc'.toList _
      rw [hacc]
      exact h h' tk as hk (Heap.lt_size hS') hl hG
  · obtain ⟨_, _, _, _, _, e', _⟩ := x
    cases e'
theorem code_tuple_enum {Q₁ : Value → Shared → Prop} {old : Value} (hh : A.handled = none) (hz0 : IsEnum s.heap e it 0 old) (h1 : s.heap.IsTupleIter it l 0) (hl : s.heap.IsTuple l xs) (ei : e ≠ it) (le : l ≠ e) (li : l ≠ it) (hn : xs.size ≤ sizeLine)
    (h : ∀ (h' : Heap) (tk : Nat) (as : List Addr), (∀ b o, b ≠ e → b ≠ it → s.heap.get? b = some o → h'.get? b = some o) → s.heap.objs.size < h'.objs.size → as.length = xs.size → Made xs s.heap.objs.size h' as →
      Q₁ (.ref h'.objs.size) { s with heap := h'.push { cls := .type "tuple", data := .seq (as.map Value.ref).toArray }, toks := tk }) :
    codeAny (model prog w) A (.call (.builtin "tuple.__new__") ⟨[.type "tuple", .ref e], []⟩) (wants Q₁ E) s := by
  refine codeAny_of_tree ?_
  show wpAny _ A.in1 (do checkBuiltinCall "tuple.__new__" ⟨[.type "tuple", .ref e], []⟩; again (.builtin "tuple.__new__" ⟨[.type "tuple", .ref e], []⟩)) _ _ s
  refine wpAny_bind (wpAny_of_eq (F.newCall_tuple_1 _) (wpAny_pure ⟨plainId_quiet F.plain_tuple_new _, codeAny_builtin F.entry_tuple_new ?_⟩))
  rw [Around.under_plainId F.plain_tuple_new _]
  have hsub := sub_tuple_self
  have hinit := init_tuple_lookup
  have hmh := madeHere_tuple
  have hTZ : s.TypeIs (.ref e) "enumerate" := ⟨_, hz0, rfl⟩
  have hh1 : A.in1.handled = none := hh
  wp_walk using wpAny_typeOf hTZ, collectE (A := A.in1) hh1 hz0 h1 hl ei le li hn
  intro h' tk as hk hlt hl hG
  show wpAny _ _ (Builtin.Tuple.tupleExact (as.map Value.ref).toArray >>= fun v => ret v) _ _ _
  unfold Builtin.Tuple.tupleExact
  refine wpAny_bind (wpAny_newObj_type ?_ (by show (as.map Value.ref).toArray.size ≤ sizeLine; rw [List.size_toArray, List.length_map, hl]; exact hn))
  refine wpAny_pure ?_
  exact h h' tk as hk hlt hl hG
theorem call_tuple_enum {Q : Value → Shared → Prop} {old : Value} (hh : A.handled = none) (hz0 : IsEnum s.heap e it 0 old) (h1 : s.heap.IsTupleIter it l 0) (hl : s.heap.IsTuple l xs) (ei : e ≠ it) (le : l ≠ e) (li : l ≠ it) (hn : xs.size ≤ sizeLine)
    (hQ : ∀ (h' : Heap) (tk : Nat) (as : List Addr), (∀ b o, b ≠ e → b ≠ it → s.heap.get? b = some o → h'.get? b = some o) → s.heap.objs.size < h'.objs.size → as.length = xs.size → Made xs s.heap.objs.size h' as →
      Q (.ref h'.objs.size) { s with heap := h'.push { cls := .type "tuple", data := .seq (as.map Value.ref).toArray }, toks := tk }) :
    wpAny (model prog w) A (call (.type "tuple") [.ref e]) Q E s := by
  refine callType_codes (Q₁ := fun obj s₁ => s₁.TypeIs obj "tuple" ∧ Q obj s₁) F.called_tuple (F.typeCall_tuple_1 _) F.entry_object_init
    (code_tuple_enum (A := A.in1) hh hz0 h1 hl ei le li hn fun h' tk as hk hlt hl hG => ⟨⟨_, Heap.get?_push_size _ rfl, rfl⟩, hQ h' tk as hk hlt hl hG⟩) fun obj s₁ h₁ => ?_
  exact ⟨h₁.1, F.args_object_init_2 obj _, object_init_meets F.called_tuple.init.lookup F.called_tuple.made (by decide) prog w A.in1 _ s₁ ⟨h₁.1, rfl, h₁.2⟩⟩
end
open L2
def Nums (H : Hp) (xs : List V) (as : List Addr) : Prop := as.length = xs.length ∧ ∀ (j : Nat) (a : Addr), as[j]? = some a → ∃ x, xs[j]? = some x ∧ H a = some (.tup [.int (j : Nat), x])
def tTupEnum (K : PySem.W.Frag) (ta : TE) : TE := fun σ H Q => ta σ H fun v H1 => ∃ (a : Addr) (xs : List V), v = .ref a ∧ SqT K H1 a xs ∧
  ∀ (q : Addr) (as : List Addr) (H2 : Hp), (∀ b o, H1 b = some o → H2 b = some o) → Nums H2 xs as → H2 q = some (.tup (as.map V.ref)) → Q (.ref q) H2
section
variable {X : Cx}
theorem pe_tupEnum {e : Expr} {ta : TE} {p p2 pos pos2 : Pos} (hc : X.calm = true) (hg : Gl X "tuple") (hm : X.mg "tuple" = none) (hg2 : Gl X "enumerate") (hm2 : X.mg "enumerate" = none) (ha : PE X e ta)
    (hs : starEach [e] X.env = [(false, eval e X.env)] := by rfl)
    (hs2 : starEach [.Call (.Name "enumerate" p2) [e] [] pos2] X.env = (false, eval (.Call (.Name "enumerate" p2) [e] [] pos2) X.env) :: starEach [] X.env := by rfl) :
    PE X (.Call (.Name "tuple" p) [.Call (.Name "enumerate" p2) [e] [] pos2] [] pos) (tTupEnum X.K ta) := by
  refine ⟨fun pins s σ H Q I h => ?_⟩
  refine Call_ (ld_blt I hg hm boot_tuple (PyProof.Rows.callWith_type1 (args_cons (Call_ (ld_blt I hg2 hm2 boot_enumerate (PyProof.Rows.callWith_type1 (args_cons (thn (ha.run pins s σ H _ I h) fun u s1 ⟨v, H1, I1, r1, q1⟩ => args_nil ?_) hs) hs rfl))) hs2) hs2 rfl))
  obtain ⟨a, xs, ev, hqx, q⟩ := q1
  subst ev
  obtain rfl : u = Value.ref a := r1
  obtain ⟨its, rv, p1, hz1⟩ := I1.tuple hqx
  have ln := rv.length
  have hal : a < s1.heap.objs.size := by obtain ⟨_, q, _⟩ := p1; exact Heap.lt_size q
  refine En.enum_begins1 (begins_tuple a its.toArray) p1 fun h' he hit hsz hk => args_nil ?_
  have I2 : Inv X pins σ H1 { s1 with heap := h' } := I1.kept (t' := s1.toks) hk
  have fresh5 : ∀ c, c ∈ [s1.heap.objs.size + 1, s1.heap.objs.size] → FpOk X pins H1 c := fun c hcm => by
    have e' : c = s1.heap.objs.size + 1 ∨ c = s1.heap.objs.size := by simpa using hcm
    have hle : s1.heap.objs.size ≤ c := by
      rcases e' with z | z
      · rw [z]; exact Nat.le_add_right _ _
      · rw [z]; exact Nat.le_refl _
    exact I1.fpOk hle (I1.hok.fresh hle)
  have nae : a ≠ s1.heap.objs.size + 1 := fun z => absurd (z ▸ hal) (Nat.not_lt.mpr (Nat.le_succ _))
  refine call_tuple_enum (s := { s1 with heap := h' }) (xs := its.toArray) (I1.ok.hd hc) he ⟨_, hit, rfl, rfl⟩ (let ⟨o, e, r⟩ := p1; ⟨o, hk _ _ e, r⟩) (Nat.succ_ne_self _) nae (Nat.ne_of_lt hal)
    (by rw [List.size_toArray, ← ln]; exact hz1) fun h'' tk as hk2 hlt hl hG => ?_
  have I3 : Inv X pins σ H1 { s1 with heap := h'', toks := tk } := I1.turnedL (h' := h'') (t' := tk) (ch := [s1.heap.objs.size + 1, s1.heap.objs.size]) (fun c o hb e => hk2 c o (fun z => hb (by simp [z])) (fun z => hb (by simp [z])) (hk _ _ e)) fresh5
  have nd : as.Nodup := List.Pairwise.imp (fun h => Nat.ne_of_lt h) hG.rise
  have pr : ∀ (j : Nat) (c : Addr), as[j]? = some c → ∃ x u, xs[j]? = some x ∧ RelV x u ∧ IsNum h'' c j u := by
    intro j c hj
    obtain ⟨u, e1, e3⟩ := hG.pairs j c hj
    have e1' : its[j]? = some u := by simpa using e1
    have j1 : j < xs.length := by rw [ln]; exact (List.getElem?_eq_some_iff.mp e1').1
    obtain ⟨u', eu, ru⟩ := rv.get (List.getElem?_eq_getElem j1)
    rw [e1'] at eu
    cases eu
    exact ⟨_, u, List.getElem?_eq_getElem j1, ru, e3⟩
  have szh : h'.objs.size = s1.heap.objs.size + 2 := hsz
  have hn0 : H1 h''.objs.size = none := I3.hok.fresh (Nat.le_refl _)
  have I4 : Inv X pins σ (upd H1 h''.objs.size (.tup (as.map V.ref))) { s1 with heap := h''.push { cls := .type "tuple", data := .seq (as.map Value.ref).toArray }, toks := tk } :=
    I3.laid (t' := tk) (fun c o e => Heap.get?_push_of_some _ e) (Nat.le_refl _) (show ObjOk X.prog X.w _ _ _ (.tup (as.map V.ref)) from ⟨by rw [List.length_map, hl, List.size_toArray, ← ln]; exact hz1, as.map Value.ref, vals_maps (fun z : Addr => V.ref z) (fun z => Value.ref z) as fun _ _ => rfl, IsTup.new _ _⟩)
  obtain ⟨H2, I5, g, qt⟩ := DX.takeT (P := fun c vs => ∃ (j : Nat) (x : V), as[j]? = some c ∧ xs[j]? = some x ∧ vs = [.int (j : Int), x]) I1 as _ I4 nd fun c hcm => by
    obtain ⟨j, hj⟩ := List.mem_iff_getElem?.mp hcm
    obtain ⟨x, u, e1, ru, tk3, e3⟩ := pr j c hj
    have hcl : s1.heap.objs.size ≤ c := Nat.le_trans (by show s1.heap.objs.size ≤ h'.objs.size; rw [szh]; exact Nat.le_add_right _ _) (hG.above c hcm)
    refine ⟨hcl, ?_, [.int (j : Int), x], ⟨j, x, hj, e1, rfl⟩, fun H3 => ⟨(by rw [sizeLine_eq]; show 2 ≤ 16777216; omega), [.int (j : Int) tk3, u], .cons ⟨_, rfl⟩ (.cons ru .nil), ⟨_, Heap.get?_push_of_some _ e3, rfl, 0, rfl⟩⟩⟩
    rw [upd_ne (Nat.ne_of_lt (Heap.lt_size e3))]
    exact I1.hok.fresh hcl
  refine ⟨.ref h''.objs.size, H2, I5, rfl, q h''.objs.size as H2 (fun c o e => g c o (by rw [upd_ne (ne_of_none e hn0)]; exact e)) ⟨by rw [hl, List.size_toArray, ln], fun j c hj => ?_⟩ (g _ _ upd_same)⟩
  obtain ⟨vs, ⟨i, x, j1, e1, ev⟩, hH⟩ := qt c (List.mem_of_getElem? hj)
  have eij : i = j := (List.getElem?_inj (List.getElem?_eq_some_iff.mp j1).1 nd).mp (j1.trans hj.symm)
  subst eij
  rw [ev] at hH
  exact ⟨x, e1, hH⟩
end
end Te
namespace Dl
open PySem PySem.Spec PyProof.Rows L2 Ss
def numD (n : Nat) : List Dat → List Dat
  | [] => []
  | d :: ds => .tuple [.int (n : Int), d] :: numD (n + 1) ds
def dTupEnum (da : DE) : DE := fun E R => da E fun d E1 => ∃ as, d = .tuple as ∧ R (.tuple (numD 0 as)) E1
theorem fz_nums {N : Ow} {H : Hp} : ∀ {as : List Dat} {xs : List V} {cs : List Addr} (n : Nat), FzL N H xs as → cs.length = xs.length → (∀ (j : Nat) (a : Addr), cs[j]? = some a → ∃ x, xs[j]? = some x ∧ H a = some (.tup [.int ((n + j : Nat) : Int), x])) → FzL N H (cs.map V.ref) (numD n as)
  | [], [], cs, n, _, h, _ => by
    have e : cs = [] := List.eq_nil_of_length_eq_zero h
    subst e
    exact .nil
  | a :: as, x :: xs, [], n, _, h, _ => by cases h
  | a :: as, x :: xs, c :: cs, n, .cons f l, h, hj => by
    obtain ⟨x', e1, e2⟩ := hj 0 c rfl
    cases e1
    refine .cons (.tup e2 (.cons (.int _) (.cons f .nil))) (fz_nums (n + 1) l (Nat.succ.inj h) fun j d hd => ?_)
    obtain ⟨y, y1, y2⟩ := hj (j + 1) d hd
    refine ⟨y, y1, ?_⟩
    rw [show n + 1 + j = n + (j + 1) by omega]
    exact y2
theorem rf_tupEnum {C : Ct} {K : PySem.W.Frag} {ta : TE} {da : DE} (ha : RfE C ta da) : RfE C (Te.tTupEnum K ta) (dTupEnum da) := fun W H σ E Q R Re r k =>
  ha W H σ E _ _ Re r fun v d H1 E1 R1 g1 f1 ⟨as, e, r1⟩ => by
    subst e
    obtain ⟨a, us, rfl, hl, l⟩ := Ft.tup (.inl f1)
    refine ⟨a, us, rfl, .of hl, fun q cs H2 g p hq => ?_⟩
    exact k (.ref q) _ _ E1 (R1.same g) (g1.trans (Gr.same g)) (.tup hq (fz_nums 0 (l.keep (Kp.same g)) p.1 fun j c hj => by
      obtain ⟨x, x1, x2⟩ := p.2 j c hj
      exact ⟨x, x1, by rw [Nat.zero_add]; exact x2⟩)) r1
theorem z_tupEnum {da : DE} {E : DEnv} {R : Dat → DEnv → Prop} (h : da E fun d E1 => ∃ as, d = .tuple as ∧ R (.tuple (numD 0 as)) E1) : dTupEnum da E R := h
end Dl
open Dl
open Mm
/-- derivations over data -/
local macro_rules | `(tactic| walk_at "ro") => `(tactic| first | with_reducible exact rfo_i | with_reducible exact rfo_b | with_reducible exact rfo_c | with_reducible exact rfo_eq | with_reducible exact rfo_ne | with_reducible exact rfo_isN | with_reducible exact rfo_notN | with_reducible exact rfo_ixL | with_reducible exact rfo_ixT | with_reducible exact rfo_ixS | with_reducible exact rfo_catT | with_reducible exact rfo_catS | with_reducible exact rfo_ltS | with_reducible exact rfo_ltU | with_reducible exact rfo_repT | with_reducible exact rfo_inD | with_reducible exact rfo_notInD | with_reducible exact rfo_ord | fail "ro")
local macro_rules | `(tactic| walk_at "rof") => `(tactic| first | with_reducible exact rfo_catL | with_reducible exact rfo_repL | fail "rof")
local macro_rules | `(tactic| walk_at "rb") => `(tactic| first | with_reducible exact rfb_len' | with_reducible exact rfb_len | with_reducible exact rfb_int | with_reducible exact rfb_abs | with_reducible exact rfb_max | with_reducible exact rfb_min | with_reducible exact rfb_tuple' | with_reducible exact rfb_tuple | with_reducible exact rfb_sum | with_reducible exact rfb_str | with_reducible exact rfb_repr | fail "rb")
local macro_rules | `(tactic| walk_at "rbf") => `(tactic| first | with_reducible exact rfb_listU | with_reducible exact rfb_list | with_reducible exact rfb_sortI | with_reducible exact rfb_sortP | fail "rbf")
local macro_rules | `(tactic| walk_at "rf1") => `(tactic| first
  | with_reducible apply rf_borV | with_reducible apply rf_borF | with_reducible apply rf_bor
  | ((with_reducible refine' rf_var ?hO); (case hO => rfl)) | with_reducible exact rf_int | with_reducible exact rf_str | with_reducible exact rf_bl | with_reducible exact rf_non
  | ((with_reducible apply rf_relFor); (case hO => rfl); (case hM => exact ne_of_b rfl)) | with_reducible refine' rf_seq ?_ ?_ | with_reducible exact rf_next | with_reducible exact rf_break | with_reducible exact rf_cont | with_reducible exact rf_never
  | ((with_reducible apply rf_setF); (case hO => rfl); (case hM => exact ne_of_b rfl)) | ((with_reducible apply rf_set); (case hO => rfl))
  | ((with_reducible refine' rf_retVF ?hf ?hO ?hM); (case hf => rfl); (case hO => rfl); (case hM => exact ne_of_b rfl)) | ((with_reducible refine' rf_retV ?hf ?hO ?hM); (case hf => rfl); (case hO => rfl); (case hM => exact ne_of_b rfl)) | ((with_reducible apply rf_retF); (case hf => rfl)) | ((with_reducible apply rf_ret); (case hf => rfl)) | ((with_reducible refine' rf_retN ?hf); (case hf => rfl))
  | with_reducible apply rf_ifS | with_reducible apply rf_for | with_reducible apply rf_while
  | ((with_reducible apply rf_app); (case hO => rfl)) | ((with_reducible apply rf_ext); (case hO => rfl)) | ((with_reducible apply rf_extT); (case hO => rfl)) | ((with_reducible apply rf_dput); (case hO => rfl))
  | ((with_reducible refine' rf_lenD ?hO); (case hO => rfl)) | ((with_reducible apply rf_dpop); (case hO => rfl)) | with_reducible apply rf_drop | ((with_reducible apply rf_par); (case hi => rfl); (case hj => rfl)) | ((with_reducible apply rf_aug); (case hO => rfl)) | with_reducible apply rf_asg
  | ((with_reducible refine' rg_name ?hO); (case hO => rfl)) | with_reducible apply rg_tup | with_reducible exact rg_nil | with_reducible apply rg_cons | ((with_reducible apply rg_sub); (case hO => rfl))
  | ((with_reducible refine' gc_name ?hO ?hm); (case hO => rfl); (case hm => decide)) | with_reducible apply gc_tup | with_reducible exact gc_nil | with_reducible apply gc_cons
  | with_reducible exact rf_nil | with_reducible apply rf_cons
  | ((with_reducible apply rf_opV); (case hO => rfl); (case hr => walk_at "ro")) | ((with_reducible apply rf_opW); (case hO => rfl); (case hr => walk_at "ro")) | ((with_reducible apply rf_op); (case hr => walk_at "ro")) | ((with_reducible apply rf_un); (case hr => with_reducible exact rfu_i))
  | ((with_reducible apply rf_opVF); (case hO => rfl); (case hr => walk_at "rof")) | ((with_reducible apply rf_opF); (case hr => walk_at "rof"))
  | ((with_reducible apply rf_cbV); (case hO => rfl); (walk_at "rb")) | with_reducible apply rf_isi | with_reducible apply rf_isi2 | ((with_reducible apply rf_cb); (case hr => walk_at "rb"))
  | ((with_reducible apply rf_cbVF); (case hO => rfl); (walk_at "rbf")) | ((with_reducible apply rf_cbF); (case hr => walk_at "rbf"))
  | with_reducible apply rf_tup | with_reducible apply rf_lst | with_reducible exact rf_dnew
  | with_reducible apply rf_test | with_reducible apply rf_B | ((with_reducible refine' rf_truV' ?hO); (case hO => rfl)) | with_reducible apply rf_tru' | with_reducible apply rf_not | with_reducible apply rf_and | with_reducible apply rf_or | with_reducible apply rf_andV | with_reducible apply rf_orV | with_reducible apply rf_notV | with_reducible apply rf_if | with_reducible exact rf_yes
  | with_reducible apply rf_part | with_reducible exact rf_nopart | ((with_reducible apply rf_slVF); (case hO => rfl); (case hr => with_reducible exact rfs_lst)) | ((with_reducible apply rf_slF); (case hr => with_reducible exact rfs_lst)) | ((with_reducible apply rf_sl); (case hr => with_reducible exact rfs_tup)) | ((with_reducible apply rf_sl); (case hr => with_reducible exact rfs_str))
  | ((with_reducible refine' rf_sortKV ?hO); (case hO => rfl)) | with_reducible apply rf_sortK
  | ((with_reducible apply rf_callM); (case hO => rfl)) | with_reducible apply rf_call0 | ((with_reducible apply rf_callMF); (case hO => rfl)) | with_reducible apply rf_call0F
  | ((with_reducible apply rf_dinV); (case hO => rfl)) | with_reducible apply rf_din | ((with_reducible apply rf_dnotinV); (case hO => rfl)) | with_reducible apply rf_dnotin | ((with_reducible apply rf_dgetV); (case hO => rfl)) | with_reducible apply rf_dget | with_reducible apply rf_dget2
  | with_reducible apply rf_tupRg1 | with_reducible apply rf_tupRg2 | with_reducible apply rf_lstRg1 | with_reducible apply rf_lstRg2
  | with_reducible apply ri_rng1 | with_reducible apply ri_rng2 | with_reducible apply ri_list | with_reducible apply ri_tup | with_reducible apply ri_rev | with_reducible apply ri_str | with_reducible apply ri_enum | with_reducible apply ri_zip
  | ((with_reducible apply En.rf_relMX); (case hx => assumption); (case hO => rfl); (case hM => exact ne_of_b rfl)) | ((with_reducible apply rf_relM); (case hO => rfl); (case hM => exact ne_of_b rfl)) | ((with_reducible apply En.rf_dget1V); (case hO => rfl)) | with_reducible apply En.ri_enumT | with_reducible apply rf_dget1 | with_reducible apply rf_dictP | with_reducible apply rf_tupRev | with_reducible apply rf_dc | with_reducible apply rf_asgLk | ((with_reducible apply rf_lcD); (case hO => rfl)) | ((with_reducible apply rf_forD); (case hO => rfl)) | with_reducible apply rf_lc | (with_reducible intro _)
  | with_reducible apply RfF.e | fail "rf1")
local macro_rules | `(tactic| walk_at "rf") => `(tactic| repeat walk_at "rf1")
local macro_rules | `(tactic| walk_at "ev") => `(tactic| first | exact rfl | assumption | fail "ev")
local macro_rules | `(tactic| walk_at "sz") => `(tactic| first | assumption | decide | (refine szle2 ?_; (simp only [cutD_to, cutD_from, cutD_both, List.length_append, List.length_map, List.length_cons, List.length_nil, List.length_take, List.length_drop, List.length_replicate, List.length_range]); omega) | (refine szlt2 ?_; (simp only [cutD_to, cutD_from, cutD_both, List.length_append, List.length_map, List.length_cons, List.length_nil, List.length_take, List.length_drop, List.length_replicate, List.length_range]); omega) | (refine szle2 ?_; omega) | (refine szlt2 ?_; omega) | fail "sz")
local macro_rules | `(tactic| walk_at "ixd") => `(tactic| first | assumption | exact atI_nat (j := 0) rfl | exact atI_nat (j := 1) rfl | exact atI_nat (j := 2) rfl | exact atI_nat (j := 3) rfl | exact rfl | fail "ixd")
/-- one step over data -/
local macro_rules | `(tactic| walk_at "z1") => `(tactic| first
  | ((with_reducible refine' z_rel ?hv ?_); (case hv => walk_at "ev")) | with_reducible refine z_seq ?_ | with_reducible refine z_set ?_ | with_reducible refine z_next ?_ | with_reducible refine z_ret ?_ | ((with_reducible refine' z_retV ?hv ?_); (case hv => walk_at "ev")) | with_reducible refine z_retN ?_ | with_reducible refine z_break ?_ | with_reducible refine z_cont ?_ | with_reducible refine z_drop ?_
  | with_reducible refine z_asg ?_ | with_reducible refine z_gname ?_ | ((with_reducible refine' z_gsub ?h0 ?_); (case h0 => walk_at "ev")) | with_reducible refine z_gnil ?_ | with_reducible refine z_gcons ?_ | ((with_reducible refine' z_gtup ?hl ?_); (case hl => first | rfl | assumption))
  | ((with_reducible refine' z_var ?hv ?_); (case hv => walk_at "ev")) | with_reducible refine z_c ?_ | with_reducible refine z_op ?_ | ((with_reducible refine' z_opV ?hv ?_); (case hv => walk_at "ev")) | with_reducible refine z_opW ?_ | with_reducible refine z_un ?_
  | with_reducible refine z_nil ?_ | with_reducible refine z_cons ?_ | with_reducible refine z_cb ?_ | ((with_reducible refine' z_cbV ?hv ?_); (case hv => walk_at "ev")) | with_reducible refine z_tup ?_ | with_reducible refine z_lst ?_ | with_reducible refine z_dnew ?_
  | with_reducible refine z_ifS ?_ | with_reducible refine z_test ?_ | with_reducible refine z_tb ?_ | with_reducible refine z_ti ?_ | with_reducible refine z_tru ?_ | ((with_reducible refine' z_truV ?hv ?_); (case hv => walk_at "ev")) | with_reducible refine z_not ?_ | with_reducible refine z_and ?_ | with_reducible refine z_or ?_ | with_reducible refine z_andV ?_ | with_reducible refine z_orV ?_ | with_reducible refine z_notV ?_ | with_reducible refine z_if ?_ | with_reducible refine z_yes ?_
  | with_reducible refine z_part ?_ | with_reducible refine z_nopart ?_ | with_reducible refine z_sl ?_ | ((with_reducible refine' z_slV ?hv ?_); (case hv => walk_at "ev")) | with_reducible refine z_slT ?_ | with_reducible refine z_slL ?_ | ((with_reducible refine' z_slS ?hz ?_); (case hz => walk_at "sz"))
  | with_reducible refine z_oI ?_ | ((with_reducible refine' z_oC ?hc ?_); (case hc => first | exact Or.inr (by decide) | exact ⟨by decide, by decide, by decide⟩ | exact ⟨by decide, by decide⟩ | decide | assumption | (show _ ≠ _; omega) | (unfold CMul; omega))) | with_reducible refine z_oU ?_
  | with_reducible refine z_eqI ?_ | with_reducible refine z_eqS ?_ | with_reducible refine z_eqB ?_ | with_reducible refine z_neI ?_ | with_reducible refine z_neS ?_ | with_reducible refine z_ne_tt ?_ | with_reducible refine z_ne_ff ?_ | with_reducible refine z_ne_tf ?_ | with_reducible refine z_ne_ft ?_ | with_reducible refine z_neB ?_ | with_reducible refine z_k_none_tuple ?_ | with_reducible refine z_k_none_str ?_ | with_reducible refine z_k_none_int ?_ | with_reducible refine z_k_none_bool ?_ | with_reducible refine z_k_none_list ?_ | with_reducible refine z_k_bool_tuple ?_ | with_reducible refine z_k_bool_str ?_ | with_reducible refine z_k_bool_int ?_ | with_reducible refine z_k_bool_bool ?_ | with_reducible refine z_k_bool_list ?_ | with_reducible refine z_k_int_tuple ?_ | with_reducible refine z_k_int_str ?_ | with_reducible refine z_k_int_int ?_ | with_reducible refine z_k_int_bool ?_ | with_reducible refine z_k_int_list ?_ | with_reducible refine z_k_str_tuple ?_ | with_reducible refine z_k_str_str ?_ | with_reducible refine z_k_str_int ?_ | with_reducible refine z_k_str_bool ?_ | with_reducible refine z_k_str_list ?_ | with_reducible refine z_k_tuple_tuple ?_ | with_reducible refine z_k_tuple_str ?_ | with_reducible refine z_k_tuple_int ?_ | with_reducible refine z_k_tuple_bool ?_ | with_reducible refine z_k_tuple_list ?_ | with_reducible refine z_k_list_tuple ?_ | with_reducible refine z_k_list_str ?_ | with_reducible refine z_k_list_int ?_ | with_reducible refine z_k_list_bool ?_ | with_reducible refine z_k_list_list ?_ | with_reducible refine z_no_none ?_ | with_reducible refine z_nn_none ?_ | with_reducible refine z_no_bool ?_ | with_reducible refine z_nn_bool ?_ | with_reducible refine z_no_int ?_ | with_reducible refine z_nn_int ?_ | with_reducible refine z_no_str ?_ | with_reducible refine z_nn_str ?_ | with_reducible refine z_no_tuple ?_ | with_reducible refine z_nn_tuple ?_ | with_reducible refine z_no_list ?_ | with_reducible refine z_nn_list ?_ | with_reducible refine z_tr_int ?_ | with_reducible refine z_tr_bool ?_ | with_reducible refine z_tr_none ?_ | with_reducible refine z_tr_list ?_ | with_reducible refine z_tr_tuple ?_ | ((with_reducible refine' z_mret ?hv ?_); (case hv => walk_at "ev")) | with_reducible refine z_isN ?_ | with_reducible refine z_notN ?_ | with_reducible refine z_ltS ?_ | with_reducible refine z_ltUI ?_ | with_reducible refine z_ltUS ?_
  | ((with_reducible refine' z_catS ?hl ?_); (case hl => walk_at "sz")) | ((with_reducible refine' z_catT ?hl ?_); (case hl => walk_at "sz")) | ((with_reducible refine' z_catL ?hl ?_); (case hl => walk_at "sz"))
  | ((with_reducible refine' z_ixL ?hd ?_); (case hd => walk_at "ixd")) | ((with_reducible refine' z_ixT ?hd ?_); (case hd => walk_at "ixd"))
  | ((with_reducible refine' z_len ?hn ?_); (case hn => exact rfl)) | with_reducible refine z_abs ?_ | with_reducible refine z_max ?_ | with_reducible refine z_min ?_ | with_reducible refine z_intI ?_ | with_reducible refine z_intB ?_ | with_reducible refine z_sum ?_ | with_reducible refine z_tupL ?_ | with_reducible refine z_tupT ?_ | with_reducible refine z_lstL ?_ | with_reducible refine z_lstT ?_ | with_reducible refine z_lstD ?_ | ((with_reducible refine' z_dpop ?hv ?_); (case hv => walk_at "ev")) | ((with_reducible refine' z_lenDV ?hv ?_); (case hv => walk_at "ev")) | with_reducible refine z_borV ?_ | with_reducible refine z_borF ?_ | with_reducible refine z_bor ?_ | with_reducible refine z_isi ?_ | with_reducible refine z_isi2 ?_
  | with_reducible refine z_tupRg1 ?_ | with_reducible refine z_tupRg2 ?_ | with_reducible refine z_lstRg1 ?_ | with_reducible refine z_lstRg2 ?_ | with_reducible refine z_sortK ?_ | ((with_reducible refine' z_sortKV ?hv ?_); (case hv => walk_at "ev")) | with_reducible refine z_sort1 ?_
  | with_reducible refine z_call0 ?_ | ((with_reducible refine' z_callM ?hv ?_); (case hv => walk_at "ev")) | with_reducible refine z_rng1 ?_ | with_reducible refine z_rng2 ?_ | with_reducible refine z_itL ?_ | with_reducible refine z_itT ?_ | with_reducible refine z_itR ?_ | with_reducible refine z_itS ?_ | with_reducible refine z_enum ?_ | ((with_reducible refine' z_keys ?hv ?_); (case hv => walk_at "ev")) | with_reducible refine z_for0 ?_ | with_reducible refine z_lc0 ?_ | with_reducible refine z_while ?_
  | with_reducible refine z_dget ?_ | ((with_reducible refine' En.z_dget1V ?hv ?_); (case hv => walk_at "ev")) | with_reducible refine En.z_enumT ?_ | with_reducible refine z_dget1 ?_ | ((with_reducible refine' z_dgetV ?hv ?_); (case hv => walk_at "ev")) | with_reducible refine z_dictP ?_ | with_reducible refine z_tupRev ?_ | with_reducible refine z_dc ?_ | with_reducible refine z_din ?_ | with_reducible refine z_dnotin ?_ | with_reducible refine z_dinV ?_ | with_reducible refine z_dput ?_ | ((with_reducible refine' z_app ?h0 ?_); (case h0 => walk_at "ev")) | ((with_reducible refine' z_aug ?h0 ?_); (case h0 => walk_at "ev")) | with_reducible refine z_par ?_ | with_reducible refine z_par2 ?_
  | ((with_reducible show (_ : List Dat).length ≤ sizeLine ∧ _); refine ⟨by walk_at "sz", ?_⟩)
  | ((with_reducible show (_ : List Dat).length = _ ∧ _); refine ⟨rfl, ?_⟩)
  | ((with_reducible show (_ : List Dat).length + 1 = _ ∧ _); refine ⟨rfl, _, by walk_at "ev", ?_⟩)
  | ((with_reducible show (_ : Option (Option Dat)) = _ ∧ _); refine ⟨by walk_at "ev", ?_⟩)
  | with_reducible refine q_iteT ?_ | with_reducible refine q_iteF ?_ | with_reducible refine q_iteNT ?_ | with_reducible refine q_iteNF ?_
  | fail "z1")
local macro_rules | `(tactic| walk_at "z") => `(tactic| repeat walk_at "z1")
local macro_rules | `(tactic| walk_at "zi") => `(tactic| repeat ((fail_if_success (with_reducible show dIfS _ _ _ _ _)); walk_at "z1"))
local macro_rules | `(tactic| walk_at "zw") => `(tactic| repeat ((fail_if_success (with_reducible show dWhile _ _ _ _)); walk_at "z1"))
open Xm
/-- derivations with errors -/
local macro_rules | `(tactic| walk_at "rx1") => `(tactic| first | with_reducible exact rx_str | with_reducible exact rx_int | with_reducible exact rx_bl | with_reducible exact rx_non | with_reducible exact rx_fld | ((with_reducible apply rx_is); (exact fun _ h => h)) | with_reducible apply rx_and | with_reducible apply rx_not | with_reducible apply rx_tup | with_reducible exact rx_nil | with_reducible apply rx_cons | fail "rx1")
local macro_rules | `(tactic| walk_at "hh") => `(tactic| first | with_reducible exact HsOk.nil | ((refine' HsOk.cons ?h ?r); (case h => (with_reducible apply rx_ret); (intro _ _ _); (repeat walk_at "rx1")); (case r => walk_at "hh")) | fail "hh")
local macro_rules | `(tactic| walk_at "rf1") => `(tactic| first
  | ((with_reducible apply rf_callX); (case hx => assumption)) | ((with_reducible apply rf_callXF); (case hx => assumption))
  | ((with_reducible apply rf_raiseF); (case G => assumption); (case hx => assumption)) | ((with_reducible refine' rf_raise0 ?hx); (case hx => assumption))
  | ((with_reducible apply rf_try); (case hfr => rfl); (case hh => walk_at "hh"); (case hx => first | assumption | exact xok0); (case hb => (intro _ _ _ _); (repeat walk_at "rf1")))
  | with_reducible apply rf_callN | fail "rf1")
local macro_rules | `(tactic| walk_at "z1") => `(tactic| first
  | with_reducible refine z_callX ?_ | with_reducible refine z_raiseF ?_ | with_reducible refine z_raise0 ?_ | with_reducible refine z_try ?_ | with_reducible refine z_spN ?_
  | ((with_reducible refine' z_pickT ?h ?_); (case h => assumption)) | ((with_reducible refine' z_pickF ?h ?_); (case h => assumption)) | with_reducible refine z_pickN ?_
  | with_reducible refine x_c ?_ | with_reducible refine x_fld ?_ | ((with_reducible refine' x_is ?hE ?hk ?_); (case hE => assumption); (case hk => assumption)) | with_reducible refine x_and ?_ | with_reducible refine x_not ?_ | with_reducible refine x_nil ?_ | with_reducible refine x_cons ?_ | with_reducible refine x_tup ?_
  | ((with_reducible show (_ : Nat) < (_ : DEnv).length ∧ _); refine ⟨of_decide_eq_true rfl, ?_⟩)
  | fail "z1")
/-- newer rules -/
local macro_rules | `(tactic| walk_at "ro") => `(tactic| first | with_reducible exact rfo_inT | with_reducible exact rfo_notInT | fail "ro")
local macro_rules | `(tactic| walk_at "rf1") => `(tactic| first | with_reducible apply ri_zipT | fail "rf1")
local macro_rules | `(tactic| walk_at "z1") => `(tactic| first | with_reducible refine z_zipT ?_ | with_reducible refine z_zip ?_ | fail "z1")
local macro_rules | `(tactic| walk_at "rb") => `(tactic| first | with_reducible exact rfb_maxL | with_reducible exact rfb_minL | with_reducible exact rfb_allL | with_reducible exact rfb_anyL | fail "rb")
local macro_rules | `(tactic| walk_at "rf1") => `(tactic| first | with_reducible apply ri_revR1 | fail "rf1")
local macro_rules | `(tactic| walk_at "z1") => `(tactic| first | with_reducible refine z_revR1 ?_ | fail "z1")
local macro_rules | `(tactic| walk_at "rf1") => `(tactic| first | with_reducible apply rf_lstRev | fail "rf1")
local macro_rules | `(tactic| walk_at "z1") => `(tactic| first | with_reducible refine z_lstRev ?_ | fail "z1")
local macro_rules | `(tactic| walk_at "zf") => `(tactic| repeat ((fail_if_success (with_reducible show dFor _ _ _ _ _)); walk_at "z1"))
local macro_rules | `(tactic| walk_at "rf1") => `(tactic| first | ((with_reducible apply rf_callM1); (case hO => rfl)) | fail "rf1")
local macro_rules | `(tactic| walk_at "z1") => `(tactic| first | with_reducible refine z_callM1 ?_ | ((with_reducible refine' z_mret1 ?hv ?_); (case hv => walk_at "ev")) | fail "z1")
local macro_rules | `(tactic| walk_at "rf1") => `(tactic| first | with_reducible apply rf_borL | fail "rf1")
local macro_rules | `(tactic| walk_at "z1") => `(tactic| first | with_reducible refine z_borL ?_ | fail "z1")
local macro_rules | `(tactic| walk_at "rf1") => `(tactic| first | with_reducible apply rf_idxL | fail "rf1")
local macro_rules | `(tactic| walk_at "z1") => `(tactic| first | with_reducible refine z_idxL ?_ | fail "z1")
local macro_rules | `(tactic| walk_at "rf1") => `(tactic| first | with_reducible apply rf_tupZip | fail "rf1")
local macro_rules | `(tactic| walk_at "z1") => `(tactic| first | with_reducible refine z_tupZip ?_ | fail "z1")
local macro_rules | `(tactic| walk_at "rf1") => `(tactic| first | with_reducible apply rf_revA | with_reducible apply rf_rngV1 | with_reducible apply ri_rngV | fail "rf1")
local macro_rules | `(tactic| walk_at "z1") => `(tactic| first | with_reducible refine z_revA ?_ | with_reducible refine z_rngV1 ?_ | with_reducible refine z_rngV ?_ | fail "z1")
local macro_rules | `(tactic| walk_at "rb") => `(tactic| first | with_reducible exact rfb_strI | fail "rb")
local macro_rules | `(tactic| walk_at "rf1") => `(tactic| first | with_reducible apply Kw.rf_app2 | fail "rf1")
local macro_rules | `(tactic| walk_at "z1") => `(tactic| first | with_reducible refine Kw.z_app2 ?_ | fail "z1")
local macro_rules | `(tactic| walk_at "rf1") => `(tactic| first | ((with_reducible apply rf_lc2); (case hv => decide)) | with_reducible apply ri_tupT | fail "rf1")
local macro_rules | `(tactic| walk_at "z1") => `(tactic| first | with_reducible refine z_lc2 ?_ | fail "z1")
/-- defs that meet objects -/
local macro_rules | `(tactic| walk_at "rg1") => `(tactic| first
  | with_reducible refine' Gl.rf2_seq ?_ ?_ | with_reducible exact Gl.rf2_next | with_reducible exact Gl.rf2_break | with_reducible exact Gl.rf2_cont | with_reducible exact Gl.rf2_retN
  | ((with_reducible refine' Gl.rf2_setF ?hO ?hM ?he); (case hO => rfl); (case hM => exact ne_of_b rfl); (case he => (intro _; refine' id ?zz1; walk_at "rf")))
  | ((with_reducible refine' Gl.rf2_asg ?he ?hg); (case hg => (intro _; refine' id ?zz2; walk_at "rf")); (case he => walk_at "rg"))
  | ((with_reducible refine' Gl.rf2_raiseF ?G ?hx ?ha); (case G => assumption); (case hx => assumption); (case ha => walk_at "rg")) | ((with_reducible refine' Gl.rf2_raise0 ?hx); (case hx => assumption))
  | with_reducible apply Gl.rf2_ret | with_reducible apply Gl.rf2_ifS
  | with_reducible apply Gl.rf2_app | with_reducible apply Gl.rf2_drop
  | ((with_reducible refine' Gl.rf2_sfldL ?n ?cl ?hv ?he); (case n => assumption); (case cl => assumption); (case hv => (intro _; refine' id ?zz3; walk_at "rf")); (case he => walk_at "rg"))
  | ((with_reducible refine' Gl.rf2_sfld ?n ?cl ?hv ?he); (case n => assumption); (case cl => assumption); (case hv => walk_at "rg"); (case he => walk_at "rg"))
  | ((with_reducible refine' Gl.rf2_for ?hi ?hg ?hb); (case hg => (intro _; refine' id ?zz4; walk_at "rf")); (case hi => walk_at "rg"); (case hb => walk_at "rg"))
  | ((with_reducible refine' Gl.rf2_puI ?h); (case h => (intro _; refine' id ?zz5; walk_at "rf"))) | ((with_reducible refine' Gl.rf2_puT ?h); (case h => (intro _; refine' id ?zz6; walk_at "rf"))) | ((with_reducible refine' Gl.rf2_pu ?h); (case h => (intro _; refine' id ?zz7; walk_at "rf")))
  | ((with_reducible refine' Gl.rf2_fld ?n ?c ?h); (case n => assumption); (case c => assumption); (case h => walk_at "rg"))
  | with_reducible apply Gl.rf2_itT | with_reducible apply Gl.rf2_callP | ((with_reducible refine' Gl.rf2_lc ?hi ?hg ?ht ?he); (case hg => (intro _; refine' id ?zz8; walk_at "rf")); (case ht => (intro _; refine' id ?zz9; walk_at "rf")); (case he => (intro _; refine' id ?zz10; walk_at "rf")); (case hi => walk_at "rg"))
  | ((with_reducible refine' Gl.rf2_sl ?hr ?ha ?hl ?hh); (case hr => first | with_reducible exact rfs_tup | with_reducible exact rfs_str); (case ha => walk_at "rg"); (case hl => walk_at "rg"); (case hh => walk_at "rg")) | with_reducible exact Gl.rf2_nopart | with_reducible apply Gl.rf2_part
  | with_reducible apply Gl.rf2_prop | with_reducible apply Gl.rf2_meth | with_reducible apply Gl.rf2_methN | with_reducible apply Gl.rf2_make | with_reducible apply Gl.rf2_call | with_reducible apply Gl.rf2_callN
  | ((with_reducible refine' Gl.rf2_callX ?hx ?ha); (case hx => assumption); (case ha => walk_at "rg")) | ((with_reducible refine' Gl.rf2_callPX ?hx ?ha); (case hx => assumption); (case ha => walk_at "rg"))
  | with_reducible exact Gl.rf2_nil | with_reducible apply Gl.rf2_cons
  | ((with_reducible refine' Gl.rf2_op ?hr ?ha ?hb); (case hr => walk_at "ro"); (case ha => walk_at "rg"); (case hb => walk_at "rg")) | ((with_reducible refine' Gl.rf2_cb ?hr ?ha); (case hr => walk_at "rb"); (case ha => walk_at "rg"))
  | with_reducible apply Gl.rf2_tup | with_reducible apply Gl.rf2_test | with_reducible apply Gl.rf2_B | with_reducible apply Gl.rf2_truR | with_reducible apply Gl.rf2_not | with_reducible apply Gl.rf2_and | with_reducible apply Gl.rf2_or | with_reducible apply Gl.rf2_andV | with_reducible apply Gl.rf2_pop
  | fail "rg1")
local macro_rules | `(tactic| walk_at "rg") => `(tactic| repeat walk_at "rg1")
local macro_rules | `(tactic| walk_at "gv") => `(tactic| first | assumption | exact Gl.updG_same | ((refine (Gl.updG_ne ?hn).trans ?hr); (case hn => first | assumption | (apply Ne.symm; assumption) | fail "gn"); (case hr => walk_at "gv")) | fail "gv")
local macro_rules | `(tactic| walk_at "z1") => `(tactic| first
  | with_reducible refine Gl.y_seq ?_ | with_reducible refine Gl.y_next ?_ | with_reducible refine Gl.y_asg ?_ | with_reducible refine Gl.y_setF ?_ | with_reducible refine Gl.y_ret ?_ | with_reducible refine Gl.y_retN ?_ | with_reducible refine Gl.y_ifS ?_ | with_reducible refine Gl.y_drop ?_ | with_reducible refine Gl.y_break ?_ | with_reducible refine Gl.y_cont ?_
  | with_reducible refine Gl.y_pu ?_ | with_reducible refine Gl.y_puT ?_ | with_reducible refine Gl.y_puI ?_ | with_reducible refine Gl.y_fld ?_ | with_reducible refine Gl.y_nil ?_ | with_reducible refine Gl.y_cons ?_ | with_reducible refine Gl.y_op ?_ | with_reducible refine Gl.y_cb ?_ | with_reducible refine Gl.y_tup ?_ | with_reducible refine Gl.y_test ?_ | with_reducible refine Gl.y_truR ?_ | with_reducible refine Gl.y_not ?_ | with_reducible refine Gl.y_and ?_ | with_reducible refine Gl.y_or ?_ | with_reducible refine Gl.y_andV ?_
  | with_reducible refine Gl.y_callG ?_ | with_reducible refine Gl.y_spN ?_ | with_reducible refine Gl.y_meth ?_ | with_reducible refine Gl.y_prop ?_ | with_reducible refine Gl.y_make ?_ | with_reducible refine Gl.y_sfld ?_ | with_reducible refine Gl.y_sfldL ?_ | with_reducible refine Gl.y_app ?_ | with_reducible refine Gl.y_pop ?_ | with_reducible refine Gl.y_for ?_ | with_reducible refine Gl.y_raiseF ?_ | with_reducible refine Gl.y_raise0 ?_ | with_reducible refine Gl.y_callPX ?_ | with_reducible refine Gl.y_callGX ?_ | with_reducible refine Gl.y_callP ?_ | with_reducible refine Gl.y_part ?_ | with_reducible refine Gl.y_nopart ?_ | with_reducible refine Gl.y_sl ?_ | with_reducible refine Gl.y_itT ?_ | with_reducible refine Gl.y_lc ?_
  | ((with_reducible refine' Gl.y_fldR ?ga ?gl ?_); (case ga => walk_at "gv"); (case gl => rfl)) | ((with_reducible refine' Gl.y_methR ?ga ?gl ?_); (case ga => walk_at "gv"); (case gl => rfl)) | ((with_reducible refine' Gl.y_sfldR ?ga ?gl ?_); (case ga => walk_at "gv"); (case gl => exact Nat.le_of_ble_eq_true rfl)) | ((with_reducible refine' Gl.y_propR ?ga ?_); (case ga => walk_at "gv")) | ((with_reducible refine' Gl.y_appR ?ga ?_); (case ga => walk_at "gv")) | ((with_reducible refine' Gl.y_appR2 ?ga ?gl ?_); (case ga => walk_at "gv"); (case gl => walk_at "sz")) | ((with_reducible refine' Gl.y_truRR ?ga ?_); (case ga => walk_at "gv"))
  | ((with_reducible show (∃ ds, PyData.list _ = PyData.list ds ∧ ∀ p, _)); refine ⟨_, rfl, ?_⟩)
  | fail "z1")
local macro_rules | `(tactic| walk_at "rf1") => `(tactic| first | with_reducible apply rf_tupEnum | fail "rf1")
local macro_rules | `(tactic| walk_at "z1") => `(tactic| first | with_reducible refine z_tupEnum ?_ | fail "z1")
def top (i : Nat) : Stmt := PySem.Challenge.pw_sameshape_k75_whole_merged_edits_apply.main.body.getD i (.Pass ⟨0, 0, 0, 0⟩)
structure Txt (mg : Str → Option Value) : Prop where
  n_len : mg "len" = none
  n_tuple : mg "tuple" = none
  n_enumerate : mg "enumerate" = none
  n_sorted : mg "sorted" = none
  n_range : mg "range" = none
  n_list : mg "list" = none
  n_int : mg "int" = none
  n_abs : mg "abs" = none
  n_max : mg "max" = none
  n_isinstance : mg "isinstance" = none
  n_str : mg "str" = none
  n_bool : mg "bool" = none
  n_reversed : mg "reversed" = none
  n_iter : mg "iter" = none
  n_property : mg "property" = none
  c_MOST : ∃ u, mg "MOST" = some u ∧ RelV (.int 2000) u
section
variable {P : Program} {w : World} {K : PySem.W.Frag} {mg : Str → Option Value} {base : Heap}
variable {OA_Editor : Addr}
def spDraw : Sp := fun vs H Q _ => ∃ (t l : Addr) (m : Int), vs = [.ref t, .int m] ∧ Tape H t l ∧ m < 18446744073709551616 ∧ ∀ (r : Int) (H' : Hp), 0 ≤ r → r < max m 1 → Go t l H H' → Q (.int r) H'
abbrev s__law_draw : Stmt := top 21
theorem c__law_draw : FnScope ["tape", "many", "number", "place"] ["tape", "many"] (defScope s__law_draw) := ⟨rfl, rfl, rfl, by decide +kernel, rfl, by decide +kernel, by decide +kernel⟩

theorem ok_draw {f : Addr} {fd : FuncData} (F : Fun K "_law_draw" "_law_draw" s__law_draw f fd) (T : Txt mg) : FnOk P w K mg base CX0 1 f fd ["tape", "many"] spDraw := by
  refine F.ok c__law_draw (fun vs H Q E h => ?_) (fun cdv A outer s H vs Q E hr h => ?_)
  · obtain ⟨t, l, m, rfl, _⟩ := h
    rfl
  · obtain ⟨t, l, m, rfl, TP, hm, k⟩ := h
    obtain ⟨ns, p, n, sd, h1, h2, h3, p0, n0, s0⟩ := TP.ex
    refine ⟨_, (pss_cons (ps_if (pt_cmpR op_eq (pe_ix ix_list (pv 0) pe_int (fun _ _ => rfl)) pe_int (nomark _)) (pss_cons (ps_set (i := 3) c__law_draw.nd rfl (Or.inl rfl) (pe_ix ix_list (pv 0) pe_int (fun _ _ => rfl)))
      (pss_cons (ps_set (i := 2) c__law_draw.nd rfl (Or.inl rfl) pe_int)
      (pss_cons (ps_if (pt_cmpR op_lt (pv 3) (pe_callB call_len_seq (by rfl) T.n_len (by decide +kernel) (pa_cons (pe_ix ix_list (pv 0) pe_int (fun _ _ => rfl)) pa_nil)) (nomark _)) (pss_one (ps_set (i := 2) c__law_draw.nd rfl (Or.inl rfl) (pe_callB call_abs (by rfl) T.n_abs (by decide +kernel) (pa_cons (pe_callTy call_int1 (by rfl) T.n_int (by decide +kernel) (pa_cons (pe_ix ix_list (pe_ix ix_list (pv 0) pe_int (fun _ _ => rfl)) (pv 3) (fun _ _ => rfl)) pa_nil)) pa_nil)))) (pss_cons (ps_asg (pe_op op_modN (pe_callTy call_int1 (by rfl) T.n_int (by decide +kernel) (pa_cons (pe_op op_add (pe_op op_add (pe_op op_mul (pe_ix ix_list (pv 0) pe_int (fun _ _ => rfl)) pe_int) (pv 3)) pe_int) pa_nil)) pe_int) (pg_sub (pv 0) pe_int set_list))
      (pss_one (ps_set (i := 2) c__law_draw.nd rfl (Or.inl rfl) (pe_ix ix_list (pv 0) pe_int (fun _ _ => rfl))))))
      (pss_cons (ps_asg (pe_op op_add (pv 3) pe_int) (pg_sub (pv 0) pe_int set_list))
      (pss_cons (ps_if (pt_cmpR op_lt (pv 2) (pe_op op_pow pe_int pe_int) (nomark _)) (pss_cons (ps_set (i := 2) c__law_draw.nd rfl (Or.inl rfl) (pe_op op_modN (pe_callTy call_int1 (by rfl) T.n_int (by decide +kernel) (pa_cons (pe_op op_add (pe_op op_add (pe_op op_mul (pv 2) pe_int) (pe_op op_mul (pv 3) pe_int)) pe_int) pa_nil)) pe_int))
      (pss_cons (ps_set (i := 2) c__law_draw.nd rfl (Or.inl rfl) (pe_op op_modN (pe_callTy call_int1 (by rfl) T.n_int (by decide +kernel) (pa_cons (pe_op op_mul (pv 2) pe_int) pa_nil)) pe_int))
      (pss_one (ps_ret (pe_op op_modN (pe_callTy call_int1 (by rfl) T.n_int (by decide +kernel) (pa_cons (pv 2) pa_nil)) (pe_callB (call_max2 rfl) (by rfl) T.n_max (by decide +kernel) (pa_cons (pv 1) (pa_cons pe_int pa_nil)))))))) pss_nil)
      (pss_one (ps_asg (pv 2) (pg_sub (pv 0) pe_int set_list)))))))) pss_nil)
      (pss_cons (ps_set (i := 2) c__law_draw.nd rfl (Or.inl rfl) (pe_ix ix_list (pv 0) pe_int (fun _ _ => rfl)))
      (pss_cons (ps_asg (pe_op op_fdivW (pv 2) (pe_callB (call_max2 rfl) (by rfl) T.n_max (by decide +kernel) (pa_cons (pv 1) (pa_cons pe_int pa_nil)))) (pg_sub (pv 0) pe_int set_list))
      (pss_one (ps_ret (pe_op op_modN (pe_callTy call_int1 (by rfl) T.n_int (by decide +kernel) (pa_cons (pv 2) pa_nil)) (pe_callB (call_max2 rfl) (by rfl) T.n_max (by decide +kernel) (pa_cons (pv 1) (pa_cons pe_int pa_nil))))))))), ?_⟩
    walk_at "wp"
    have fin : ∀ (H1 : Hp) (p1 n1 s1 r : Int), H1 t = some (.lst [.ref l, .int p1, .int n1, .int s1]) → H1 l = some (.lst (ns.map V.int)) → 0 ≤ p1 → 0 ≤ n1 → 0 ≤ s1 → Ext t H H1 → Q (.int (r.fmod (if 1 > m then 1 else m))) H1 := fun H1 p1 n1 s1 r a1 a2 a3 a4 a5 a6 => by
      have z : (0 : Int) < if 1 > m then 1 else m := by split <;> omega
      have b := fm (a := r) z
      refine k _ _ b.1 ?_ ⟨a6, ns, p1, n1, s1, a1, a2, h3, a3, a4, a5⟩
      have y : (if 1 > m then 1 else m) = max m 1 := by split <;> omega
      rw [← y]
      exact b.2
    have big : ∀ (H1 : Hp) (p1 n1 s1 : Int), H1 t = some (.lst [.ref l, .int p1, .int n1, .int s1]) → H1 l = some (.lst (ns.map V.int)) → 0 ≤ p1 → 0 ≤ n1 → 0 ≤ s1 → Ext t H H1 → CDivW n1 (if 2 > m then 2 else m) ∧ 0 ≤ n1 / (if 2 > m then 2 else m) := fun H1 p1 n1 s1 a1 a2 a3 a4 a5 a6 => by
      have z : (0 : Int) < if 2 > m then 2 else m := by split <;> omega
      refine ⟨wide_div (b := 64) z ?_ (by decide) (by decide), Int.ediv_nonneg a4 (Int.le_of_lt z)⟩
      split <;> omega
    have eq1 : ∀ {x y : Int} {o : HO}, Ext t H (upd H t o) := ext_upd
    have e2 : ∀ {o u : HO}, Ext t H (upd (upd H t o) t u) := fun {o u} => by rw [upd_upd]; exact ext_upd
    have e3 : ∀ {o u v : HO}, Ext t H (upd (upd (upd H t o) t u) t v) := fun {o u v} => by rw [upd_upd, upd_upd]; exact ext_upd
    have e4 : ∀ {o u v x : HO}, Ext t H (upd (upd (upd (upd H t o) t u) t v) t x) := fun {o u v x} => by rw [upd_upd, upd_upd, upd_upd]; exact ext_upd
    refine w_ite (fun e => ?_) (fun e => ?_)
    · subst e
      walk_at "wp"
      refine w_ite (fun e => ?_) (fun e => ?_)
      · walk_at "wp"
        have hp : p.toNat < ns.length := by rw [List.length_map] at e; omega
        obtain ⟨z, ez⟩ : ∃ z, ns[p.toNat]? = some z := ⟨_, List.getElem?_eq_getElem hp⟩
        refine w_ixL (.of h2) (v := .int z) (at_of (j := p.toNat) (by omega) (by rw [List.getElem?_map, ez]; rfl)) ?_
        walk_at "wp"
        refine w_ite (fun e => ?_) (fun e => ?_)
        · walk_at "wp"
          exact fin _ (p + 1) 0 sd _ upd_same (by walk_at "hp") (by omega) (by omega) s0 ext_upd
        · walk_at "wp"
          have nz : 0 ≤ (if z < 0 then -z else z) := by split <;> omega
          obtain ⟨c1, c2⟩ := big (upd (upd H t (.lst [])) t (.lst [.ref l, .int (p + 1), .int (if z < 0 then -z else z), .int sd])) (p + 1) (if z < 0 then -z else z) sd upd_same (by walk_at "hp") (by omega) nz s0 e2
          refine w_I c1 ?_
          walk_at "wp"
          exact fin _ (p + 1) _ sd _ upd_same (by walk_at "hp") (by omega) c2 s0 e3
      · walk_at "wp"
        have sz : 0 ≤ (sd * 48271 + p + 1).fmod 2147483647 := (fm (by decide)).1
        refine w_ite (fun e => ?_) (fun e => ?_)
        · walk_at "wp"
          exact fin _ (p + 1) 0 _ _ upd_same (by walk_at "hp") (by omega) (by omega) sz e2
        · walk_at "wp"
          obtain ⟨c1, c2⟩ := big (upd (upd H t (.lst [])) t (.lst [.ref l, .int (p + 1), .int _, .int _])) (p + 1) _ _ upd_same (by walk_at "hp") (by omega) sz sz e2
          refine w_I c1 ?_
          walk_at "wp"
          exact fin _ (p + 1) _ _ _ upd_same (by walk_at "hp") (by omega) c2 sz e4
    · walk_at "wp"
      obtain ⟨c1, c2⟩ := big H p n sd h1 h2 p0 n0 s0 (Ext.refl t H)
      refine w_I c1 ?_
      walk_at "wp"
      exact fin _ p _ sd _ upd_same (by walk_at "hp") p0 c2 s0 ext_upd
def spTape (K : PySem.W.Frag) : Sp := fun vs H Q _ => ∃ (a : Addr) (ns : List Int), vs = [.ref a] ∧ SqL K H a (ns.map V.int) ∧ ∀ (t l : Addr) (H' : Hp), Same H H' → Tape H' t l → Q (.ref t) H'
abbrev s__law_tape : Stmt := top 20
theorem c__law_tape : FnScope ["script", "total", "cell"] ["script"] (defScope s__law_tape) := ⟨rfl, rfl, rfl, by decide +kernel, rfl, by decide +kernel, by decide +kernel⟩

theorem ok_tape {f : Addr} {fd : FuncData} (F : Fun K "_law_tape" "_law_tape" s__law_tape f fd) (T : Txt mg) : FnOk P w K mg base CX0 1 f fd ["script"] (spTape K) := by
  refine F.ok c__law_tape (fun vs H Q E h => ?_) (fun cdv A outer s H vs Q E hr h => ?_)
  · obtain ⟨a, ns, rfl, _⟩ := h
    rfl
  · obtain ⟨a, ns, rfl, hS, k⟩ := h
    refine ⟨_, (pss_cons (ps_set (i := 1) c__law_tape.nd rfl (Or.inl rfl) pe_int)
      (pss_cons (ps_for PassesOwn.never rfl (pi_list (pv 0)) (pg_name (i := 2) c__law_tape.nd rfl (Or.inl rfl)) (pss_one (ps_set (i := 1) c__law_tape.nd rfl (Or.inl rfl) (pe_op op_modN (pe_callTy call_int1 (by rfl) T.n_int (by decide +kernel) (pa_cons (pe_op op_add (pe_op op_mul (pv 1) pe_int) (pe_callB call_abs (by rfl) T.n_abs (by decide +kernel) (pa_cons (pe_callTy call_int1 (by rfl) T.n_int (by decide +kernel) (pa_cons (pv 2) pa_nil)) pa_nil))) pa_nil)) pe_int))))
      (pss_one (ps_ret (pe_lst (pa_cons (pe_callTy call_list_of (by rfl) T.n_list (by decide +kernel) (pa_cons (pv 0) pa_nil)) (pa_cons pe_int (pa_cons pe_int (pa_cons (pv 1) pa_nil))))))))), ?_⟩
    walk_at "wp"
    refine ⟨_, rfl, ⟨_, hS⟩, ?_⟩
    refine for_list (K := K) (a := a) (xs := ns.map V.int) (fun i σ H2 => ∃ (z : Int) (y : Option V), 0 ≤ z ∧ σ = [some (.ref a), some (.int z), y] ∧ H2 = H) ⟨7, none, by decide, rfl, rfl⟩ (fun i σ H2 _ ⟨_, _, _, _, e⟩ => by rw [e]; exact hS) ?_ ?_
    · rintro i x σ H2 hx ⟨z, y, z0, rfl, rfl⟩
      obtain ⟨v, rfl⟩ : ∃ v, x = V.int v := by
        rw [List.getElem?_map] at hx
        cases e : ns[i]? with
        | none => rw [e] at hx; cases hx
        | some v => rw [e] at hx; exact ⟨v, (Option.some.inj hx).symm⟩
      walk_at "wp"
      exact ⟨_, _, (fm (by decide)).1, rfl, rfl⟩
    · rintro σ H2 ⟨z, y, z0, rfl, rfl⟩
      walk_at "wp"
      refine ⟨a, ns.map V.int, rfl, .inl hS, fun l hl => ?_⟩
      walk_at "wp"
      refine ⟨(by show 4 ≤ sizeLine; decide), fun t ht => ?_⟩
      have nlt : l ≠ t := fun e => by rw [← e, upd_same] at ht; cases ht
      have s1 : Same H2 (upd H2 l (.lst (ns.map V.int))) := same_new hl
      have ht0 : H2 t = none := s1.free ht
      exact k t l _ (s1.trans (same_new ht)) ⟨ns, 0, 0, z, upd_same, (upd_ne nlt).trans upd_same, nlt, Int.le_refl _, Int.le_refl _, z0⟩
structure XTxt (K : PySem.W.Frag) (mg : Str → Option Value) : Prop where
  g_ShapeError : mg "ShapeError" = some (.ref (Xm.clA mg "ShapeError"))
  g_IndexOutOfRange : mg "IndexOutOfRange" = some (.ref (Xm.clA mg "IndexOutOfRange"))
  g_TooManyElements : mg "TooManyElements" = some (.ref (Xm.clA mg "TooManyElements"))
  ec_IndexOutOfRange : ExcC K (Xm.clA mg "IndexOutOfRange")
  xf_IndexOutOfRange : XfC K (Xm.clA mg "IndexOutOfRange")
  fn_IndexOutOfRange : PySem.W.findIn K (.ref (Xm.clA mg "IndexOutOfRange")) "place" = some none
  ec_TooManyElements : ExcC K (Xm.clA mg "TooManyElements")
  xf_TooManyElements : XfC K (Xm.clA mg "TooManyElements")
  fn_TooManyElements : PySem.W.findIn K (.ref (Xm.clA mg "TooManyElements")) "count" = some none
abbrev si_IndexOutOfRange : Stmt := inClass (top 3) 0
theorem ci_IndexOutOfRange : FnScope ["self", "place"] ["self", "place"] (defScope si_IndexOutOfRange) := ⟨rfl, rfl, rfl, by decide +kernel, rfl, by decide +kernel, by decide +kernel⟩
theorem oki_IndexOutOfRange {f : Addr} {fd : FuncData} (F : Fun K "__init__" "IndexOutOfRange.__init__" si_IndexOutOfRange f fd) (B : Xm.BaseX K mg) : FnOk P w K mg base CX0 1 f fd ["self", "place"] (Xm.spInit K (Xm.clA mg "IndexOutOfRange") "place") := by
  refine F.ok ci_IndexOutOfRange (fun vs H Q E h => by obtain ⟨_, _, rfl, _⟩ := h; rfl) (fun cdv A outer s H vs Q E hr h => ?_)
  refine ⟨_, pss_cons (ps_expr (Xm.pe_seinit B (by rfl) (pa_cons (pv 0) (pa_cons (pe_joined (PJ.cons pe_str (PJ.cons (pe_fmt (pv 1)) PJ.nil))) pa_nil)))) (pss_one (ps_ost (pv 0) (pv 1))), ?_⟩
  exact Xm.init_run rfl h fun σ v R hv hx q => Xm.join_cf hv hx (by decide +kernel) q
abbrev si_TooManyElements : Stmt := inClass (top 4) 0
theorem ci_TooManyElements : FnScope ["self", "count"] ["self", "count"] (defScope si_TooManyElements) := ⟨rfl, rfl, rfl, by decide +kernel, rfl, by decide +kernel, by decide +kernel⟩
theorem oki_TooManyElements {f : Addr} {fd : FuncData} (F : Fun K "__init__" "TooManyElements.__init__" si_TooManyElements f fd) (B : Xm.BaseX K mg) : FnOk P w K mg base CX0 1 f fd ["self", "count"] (Xm.spInit K (Xm.clA mg "TooManyElements") "count") := by
  refine F.ok ci_TooManyElements (fun vs H Q E h => by obtain ⟨_, _, rfl, _⟩ := h; rfl) (fun cdv A outer s H vs Q E hr h => ?_)
  refine ⟨_, pss_cons (ps_expr (Xm.pe_seinit B (by rfl) (pa_cons (pv 0) (pa_cons (pe_joined (PJ.cons (pe_fmt (pv 1)) (PJ.cons pe_str PJ.nil))) pa_nil)))) (pss_one (ps_ost (pv 0) (pv 1))), ?_⟩
  exact Xm.init_run rfl h fun σ v R hv hx q => Xm.join_fc hv hx (by decide +kernel) q
structure Oc_Editor (K : PySem.W.Frag) (OA : Addr) : Prop where
  cl : Cls K OA
  n__many : NoAttr K OA "_many"
  n__rows : NoAttr K OA "_rows"
  n__contents : NoAttr K OA "_contents"
  n__done : NoAttr K OA "_done"
  n__undone : NoAttr K OA "_undone"
/-! ### older promises as promises over data -/
def dDraw : DSp := fun ds Q => ∃ (td : Dat) (m : Int), ds = [td, .int m] ∧ TapeD td ∧ m < 18446744073709551616 ∧ ∀ (r : Int) (td' : Dat), 0 ≤ r → r < max m 1 → TapeD td' → Q (.int r) td'
theorem fzl1 {N : Ow} {H : Hp} {us : List V} {d : Dat} (f : FzL N H us [d]) : ∃ u, us = [u] ∧ Fz N H u d := by
  cases f with
  | cons f1 f => cases f; exact ⟨_, rfl, f1⟩
theorem cv_draw {vs : List V} {H : Hp} {Q : VK} {E : XK} (h : spOf 2 (some 0) false dDraw vs H Q E) : spDraw vs H Q E := by
  obtain ⟨t, us, td, ds, N0, Qd, rfl, hn, nt, oc, fl, ⟨td', m, e, ht, hm, k⟩, q⟩ := tape_call h
  cases e
  obtain ⟨u, rfl, f1⟩ := fzl1 fl
  cases f1
  obtain ⟨l, T, nl⟩ := tape_of oc ht nt
  exact ⟨t, l, m, rfl, T, hm, fun r H' h1 h2 G => q l (.int r) _ H' T nl G (.int r) fun td' ht' => k r td' h1 h2 ht'⟩
theorem ok_drawD {f : Addr} {fd : FuncData} (F : FnOk P w K mg base CX0 1 f fd ["tape", "many"] spDraw) : FnOk P w K mg base CX0 1 f fd ["tape", "many"] (spOf 2 (some 0) false dDraw) := F.imp fun _ _ _ _ h => cv_draw h
def spLaw (K : PySem.W.Frag) : Sp := fun vs H Q _ => ∃ (a : Addr) (ns : List Int), vs = [.ref a] ∧ SqL K H a (ns.map V.int) ∧ ns.length ≤ 63 ∧ ∀ H', Q (.bl true) H'
/-- the law: behind its tape all is data -/
theorem entry_law {S : Sx} {k : Nat} {u : TS} {d : DS} {N : List Str} {vs : List V} {H : Hp} {Q : VK} {E : XK} (h : spLaw K vs H Q E) (h0 : S.O 0 = false) (h1 : S.O 1 = true) (hM : S.M = some 1) (hfr : S.fr = false) (hu : ∀ dy, RfS ⟨dy, S⟩ u d) (hN : N.length = k)
    (hd : ∀ td, TapeD td → d { nx := fun _ => False, rt := fun r _ => r = .bool true, bk := fun _ => False, ct := fun _ => False } (none :: some td :: List.replicate (k - 2) none)) (hk : 2 ≤ k := by decide) (h2 : S.M2 = none := by rfl) :
    (tSeq (tAsg (tCall (spTape K) [] E0 (tCons (tVar 0) tNil)) (gName 1)) u) { nx := fun _ H' => Q .non H', rt := Q } (L2.start N vs) H := by
  obtain ⟨a, ns, rfl, hS, _, kq⟩ := h
  obtain ⟨n, rfl⟩ : ∃ n, k = n + 2 := ⟨k - 2, by omega⟩
  have es : L2.start N [.ref a] = some (.ref a) :: none :: List.replicate n none := by
    unfold L2.start
    rw [hN]
    rfl
  rw [es]
  refine ⟨.ref a, rfl, a, ns, rfl, hS, fun t l H' s T => ?_⟩
  have lt : l ≠ t := by
    obtain ⟨_, _, _, _, _, _, h, _⟩ := T.ex
    exact h
  obtain ⟨td, ht, oc⟩ := own_of (N0 := fun b => b = t) T lt
  have pn : ∀ b, (fun b => b = t) b → (fun b => b = t) b := fun b h => h
  have unN : ∀ b, Nn ⟨⟨H', fun b => b = t, fun b => b = t, pn, fun b => b = t, H', fun b => b = t, fun _ => False⟩, S⟩ (fun b => b = t) b → b = t := fun b z => by
    rcases z with z | z
    · exact z
    · exact z
  refine hu ⟨H', fun b => b = t, fun b => b = t, pn, fun b => b = t, H', fun b => b = t, fun _ => False⟩ (fun b z => by
    have z' : b = t := z
    rw [z']
    exact ld_some oc.ld) (fun b => b = t) H' _ (none :: some td :: List.replicate n none) _ _ ⟨fun b o _ e => e, fun b w => .inl w, fun b z => (unN b z) ▸ oc.ld, fun i e he => ?_, fun i j d1 d2 v oi oj nij g1 g2 g3 => ?_, ?_, Gr.refl _ _⟩ (hd td ht) ⟨fun _ _ _ _ _ _ z => z.elim, fun W' H2 σ E v r R g ro z => ?_, fun _ _ _ _ _ _ z => z.elim, fun _ _ _ _ _ _ z => z.elim⟩
  · match i, he with
    | 1, he =>
      cases he
      refine ⟨.ref t, rfl, ?_⟩
      unfold SlotOk
      rw [if_pos (show S.O 1 = true from h1)]
      exact ⟨t, rfl, rfl, oc.keep (Kp.sub unN) rfl, fun z => absurd hM z, fun _ => rfl, fun z => by rw [show S.M2 = none from h2] at z; cases z⟩
    | i + 2, he =>
      rw [show (none :: some td :: List.replicate n none : DEnv)[i + 2]? = (List.replicate n none : DEnv)[i]? from rfl, List.getElem?_replicate] at he
      split at he <;> cases he
  · have one : ∀ {i : Nat} {e : Dat}, (none :: some td :: List.replicate n none : DEnv)[i]? = some (some e) → i = 1 := fun {i e} he => by
      match i, he with
      | 1, _ => rfl
      | i + 2, he =>
        rw [show (none :: some td :: List.replicate n none : DEnv)[i + 2]? = (List.replicate n none : DEnv)[i]? from rfl, List.getElem?_replicate] at he
        split at he <;> cases he
    exact absurd ((one g1).trans (one g2).symm) nij
  · rw [List.length_set]
    simp only [List.length_cons, List.length_replicate]
  · subst z
    unfold RtOk at ro
    rw [if_neg (show ¬ S.fr = true by rw [hfr]; exact Bool.false_ne_true)] at ro
    cases ro
    exact kq H2
def dAlike : Nat → DSp
  | 0 => fun _ _ => False
  | n + 1 => fun ds Q => ∃ d, ds = [d, d] ∧ Dep n d ∧ Q (.bool true) .none
theorem z_alike {n : Nat} {x y : Dat} {Q : Dat → Dat → Prop} (e : x = y) (h : Dep n y) (q : Q (.bool true) .none) : dAlike (n + 1) [x, y] Q := ⟨y, by rw [e], h, q⟩
abbrev s__law_alike : Stmt := top 22
theorem c__law_alike : FnScope ["told", "due", "k"] ["told", "due"] (defScope s__law_alike) := ⟨rfl, rfl, rfl, by decide +kernel, rfl, by decide +kernel, by decide +kernel⟩

theorem ok_alike {f : Addr} {fd : FuncData} (F : Fun K "_law_alike" "_law_alike" s__law_alike f fd) (T : Txt mg) (g : mg "_law_alike" = some (.ref f)) : ∀ n, FnOk P w K mg base CX0 n f fd ["told", "due"] (spOf 2 none false (dAlike n))
  | 0 => ⟨fun _ _ _ _ h => h.1, fun _ _ _ _ _ _ _ _ _ _ _ _ _ h => by
    obtain ⟨_, _, _, _, _, _, _, _, z, _⟩ := h
    exact z.elim⟩
  | n + 1 => by
    have C__law_alike : Cl P w K mg base n "_law_alike" ["told", "due"] (spOf 2 none false (dAlike n)) := ⟨f, fd, ok_alike F T g n, g, F.kp, F.binds (ps := ["told", "due"]) fun _ _ _ _ _ _ us hl => match us, hl with | [_, _], _ => rfl⟩
    refine F.ok c__law_alike (fun vs H Q E h => h.1) (fun cdv A outer s H vs Q E hr h => ?_)
    refine ⟨_, (pss_cons (ps_if (pt_val (pe_callB (r := rIsi K) call_isi (by rfl) T.n_isinstance (by decide +kernel) (pa_cons (pv 1) (pa_cons (pe_bltn (v := .ty "tuple") (by rfl) T.n_tuple (by decide +kernel) rfl) pa_nil)))) (pss_cons (ps_if (PW.pt (pw_or (pt_not (pt_val (pe_callB (r := rIsi K) call_isi (by rfl) T.n_isinstance (by decide +kernel) (pa_cons (pv 0) (pa_cons (pe_bltn (v := .ty "tuple") (by rfl) T.n_tuple (by decide +kernel) rfl) pa_nil))))) (pw_or1 (pt_cmpR (r := Dl.rNeU K) (Dl.op_neU (hu64 hr)) (pe_callB (r := Dl.rLen K) Dl.cr_len (by rfl) T.n_len (by decide +kernel) (pa_cons (pv 0) pa_nil)) (pe_callB (r := Dl.rLen K) Dl.cr_len (by rfl) T.n_len (by decide +kernel) (pa_cons (pv 1) pa_nil)) (nomark _))))) (pss_one (ps_ret pe_bl)) pss_nil)
      (pss_one (ps_ret (pe_cmpR (r := Dl.rEqU K) (Dl.op_eqU (hu64 hr)) (pe_callB (r := Dl.rLen K) Dl.cr_len (by rfl) T.n_len (by decide +kernel) (pa_cons (pe_lc (own := [("k", 2)]) (by rfl) c__law_alike.nd (pi_range1 (by rfl) T.n_range (pa_cons (pe_callB (r := Dl.rLen K) Dl.cr_len (by rfl) T.n_len (by decide +kernel) (pa_cons (pv 1) pa_nil)) pa_nil)) (blkOk_by (own := [("k", 2)]) (N := ["told", "due", "k"]) (sc := defScope s__law_alike) (by decide +kernel)) (fun _ _ _ _ _ => pg_name (i := 2) c__law_alike.nd rfl (Or.inl rfl)) (fun _ _ _ _ _ => (pts_one (pt_not (pt_val (pe_cl C__law_alike hr (by rfl) (pa_cons (pe_ix (r := rIxT K) ix_tup (pv 0) (pv 2) (fun _ _ => rfl)) (pa_cons (pe_ix (r := rIxT K) ix_tup (pv 1) (pv 2) (fun _ _ => rfl)) pa_nil))))))) (fun _ _ _ _ _ => (pv 2))) pa_nil)) pe_int (nomark _))))) pss_nil)
      (pss_cons (ps_if (pt_cmpR op_isN (pv 1) pe_non (nomark _)) (pss_one (ps_ret (pe_cmpR op_isN (pv 0) pe_non (nomark _)))) pss_nil)
      (pss_cons (ps_if (pt_val (pe_callB (r := rIsi K) call_isi (by rfl) T.n_isinstance (by decide +kernel) (pa_cons (pv 1) (pa_cons (pe_bltn (v := .ty "str") (by rfl) T.n_str (by decide +kernel) rfl) pa_nil)))) (pss_one (ps_ret (pe_and (pe_callB (r := rIsi K) call_isi (by rfl) T.n_isinstance (by decide +kernel) (pa_cons (pv 0) (pa_cons (pe_bltn (v := .ty "str") (by rfl) T.n_str (by decide +kernel) rfl) pa_nil))) (pe_one (pe_cmpR (r := Dl.rEqU K) (Dl.op_eqU (hu64 hr)) (pv 0) (pv 1) (nomark _)))))) pss_nil)
      (pss_one (ps_ret (pe_and (pe_callB (r := rIsi K) call_isi (by rfl) T.n_isinstance (by decide +kernel) (pa_cons (pv 0) (pa_cons (pe_bltn (v := .ty "int") (by rfl) T.n_int (by decide +kernel) rfl) pa_nil))) (pe_and (pe_cmpR (r := Dl.rEqU K) (Dl.op_eqU (hu64 hr)) (pe_callB (r := rIsi K) call_isi (by rfl) T.n_isinstance (by decide +kernel) (pa_cons (pv 0) (pa_cons (pe_bltn (v := .ty "bool") (by rfl) T.n_bool (by decide +kernel) rfl) pa_nil))) (pe_callB (r := rIsi K) call_isi (by rfl) T.n_isinstance (by decide +kernel) (pa_cons (pv 1) (pa_cons (pe_bltn (v := .ty "bool") (by rfl) T.n_bool (by decide +kernel) rfl) pa_nil))) (nomark _)) (pe_one (pe_cmpR (r := Dl.rEqU K) (Dl.op_eqU (hu64 hr)) (pv 0) (pv 1) (nomark _)))))))))), ?_⟩
    apply entry0 (O := fun _ => false) h
    (case ht => intro dy; walk_at "rf")
    (case hO => decide)
    rintro ds Qd hn ⟨d, rfl, hd, k⟩
    walk_at "z"
    cases hd with
    | non =>
      walk_at "z"
      exact k
    | bl b =>
      walk_at "z"
      rw [decide_eq_true rfl]
      walk_at "z"
      rw [decide_eq_true rfl]
      exact k
    | int i =>
      walk_at "z"
      rw [decide_eq_true rfl]
      walk_at "z"
      rw [decide_eq_true rfl]
      exact k
    | str z =>
      walk_at "z"
      rw [decide_eq_true rfl]
      exact k
    | @tup n0 ds hl hh =>
      walk_at "z"
      rw [decide_eq_true rfl]
      walk_at "z"
      refine ⟨_, rfl, by omega, by omega, fun i acc E => E = [some (.tuple ds), some (.tuple ds), none] ∧ acc = [], ⟨rfl, rfl⟩, ?_, ?_⟩
      · rintro i x acc E hi rfl ⟨rfl, rfl⟩
        have hi' : i < ds.length := hi
        have e1 := atI_nat (List.getElem?_eq_getElem hi')
        walk_at "z"
        refine ⟨_, rfl, hh _ (List.getElem_mem hi'), ?_⟩
        walk_at "z"
        exact ⟨rfl, rfl⟩
      · rintro acc E ⟨rfl, rfl⟩
        walk_at "z"
        exact k
/-! ### scalars that are drawn -/
def ScD : Dat → Prop
  | .int i => -1000000000000000 ≤ i ∧ i ≤ 1000000000000000
  | .str x => x.length ≤ 20 ∧ PyData.strOk x = true
  | _ => False
theorem scd_int {i : Int} (h1 : -1000000000000000 ≤ i) (h2 : i ≤ 1000000000000000) : ScD (.int i) := ⟨h1, h2⟩
theorem scd_cases {d : Dat} (h : ScD d) : (∃ i : Int, d = .int i ∧ -1000000000000000 ≤ i ∧ i ≤ 1000000000000000) ∨ ∃ x : Str, d = .str x ∧ x.length ≤ 20 ∧ PyData.strOk x = true := by
  cases d with
  | int i => exact .inl ⟨i, rfl, h⟩
  | str x => exact .inr ⟨x, rfl, h⟩
  | _ => exact h.elim
theorem scd_dep {d : Dat} (h : ScD d) (n : Nat) : Dep n d := by
  rcases scd_cases h with ⟨i, rfl, _⟩ | ⟨x, rfl, _⟩
  · exact .int _ _
  · exact .str _ _
theorem z_draw {td : Dat} {m : Int} {Q : Dat → Dat → Prop} (ht : TapeD td) (h1 : 1 ≤ m) (h2 : m < 18446744073709551616) (k : ∀ (r : Int) (td' : Dat), 0 ≤ r → r < m → TapeD td' → Q (.int r) td') : dDraw [td, .int m] Q := ⟨td, m, rfl, ht, h2, fun r td' l u t => k r td' l (by omega) t⟩
theorem z_ixAny {ds : List Dat} {i : Int} {Q : Dat → Prop} (Pd : Dat → Prop) (h0 : 0 ≤ i) (h1 : i < ds.length) (hp : ∀ d ∈ ds, Pd d) (k : ∀ d, Pd d → Q d) : oIxL (.list ds) (.int i) Q := by
  have hi : i.toNat < ds.length := by omega
  exact ⟨ds, i, ds[i.toNat], rfl, rfl, at_ofN (j := i.toNat) (by omega) (List.getElem?_eq_getElem hi), k _ (hp _ (List.getElem_mem hi))⟩
theorem sok_mem {z : Str} (h : PyData.strOk z = true) {c : Nat} (hc : c ∈ z.cps.toList) : c < 0x110000 := of_decide_eq_true (Array.all_eq_true_iff_forall_mem.mp h c (Array.mem_toList_iff.mp hc))
theorem sok_of {z : Str} (h : ∀ c ∈ z.cps.toList, c < 0x110000) : PyData.strOk z = true := Array.all_eq_true_iff_forall_mem.mpr fun c hc => decide_eq_true (h c (Array.mem_toList_iff.mpr hc))
theorem sok_one {c : Nat} (h : c < 0x110000) : PyData.strOk ⟨#[c]⟩ = true := sok_of fun d hd => by
  have : d = c := List.mem_singleton.mp hd
  rw [this]
  exact h
theorem sok_app {a b : Str} (ha : PyData.strOk a = true) (hb : PyData.strOk b = true) : PyData.strOk (a ++ b) = true := sok_of fun c hc => by
  rw [Str.cps_append, Array.toList_append] at hc
  rcases List.mem_append.mp hc with h | h
  · exact sok_mem ha h
  · exact sok_mem hb h
theorem z_ixStr {z : Str} {i : Int} {Q : Dat → Prop} (hz : z.length ≤ sizeLine) (hs : PyData.strOk z = true) (h0 : 0 ≤ i) (h1 : i < z.cps.toList.length) (k : ∀ c : Nat, c < 0x110000 → Q (.str ⟨#[c]⟩)) : oIxS (.str z) (.int i) Q := by
  have hi : i.toNat < z.cps.toList.length := by omega
  exact ⟨z, i, z.cps.toList[i.toNat], rfl, rfl, hz, at_ofN (j := i.toNat) (by omega) (List.getElem?_eq_getElem hi), k _ (sok_mem hs (List.getElem_mem hi))⟩
theorem lenS_app (a b : Str) : (a ++ b).length = a.length + b.length := by
  unfold Str.length
  rw [Str.cps_append, Array.size_append]
def dScal : DSp := fun ds Q => ∃ td, ds = [td] ∧ TapeD td ∧ ∀ (d : Dat) (td' : Dat), ScD d → TapeD td' → Q d td'
abbrev s__law_scalar : Stmt := top 23
theorem c__law_scalar : FnScope ["tape", "signs", "share", "text", "k", "number"] ["tape"] (defScope s__law_scalar) := ⟨rfl, rfl, rfl, by decide +kernel, rfl, by decide +kernel, by decide +kernel⟩

theorem ok_scalar {f : Addr} {fd : FuncData} (F : Fun K "_law_scalar" "_law_scalar" s__law_scalar f fd) (T : Txt mg) (C__law_draw : Cl P w K mg base 1 "_law_draw" ["tape", "many"] (spOf 2 (some 0) false dDraw)) : FnOk P w K mg base CX0 2 f fd ["tape"] (spOf 1 (some 0) false dScal) := by
  refine F.ok c__law_scalar (fun vs H Q E h => h.1) (fun cdv A outer s H vs Q E hr h => ?_)
  refine ⟨_, (pss_cons (ps_set (i := 1) c__law_scalar.nd rfl (Or.inl rfl) pe_str)
      (pss_cons (ps_set (i := 2) c__law_scalar.nd rfl (Or.inl rfl) (pe_cl C__law_draw (hr.mono (by omega)) (by rfl) (pa_cons (pv 0) (pa_cons pe_int pa_nil))))
      (pss_cons (ps_if (pt_cmpR op_lt (pv 2) pe_int (nomark _)) (pss_one (ps_ret (pe_op op_sub (pe_cl C__law_draw (hr.mono (by omega)) (by rfl) (pa_cons (pv 0) (pa_cons pe_int pa_nil))) pe_int))) pss_nil)
      (pss_cons (ps_if (pt_cmpR (r := Dl.rEqU K) (Dl.op_eqU (hu64 hr)) (pv 2) pe_int (nomark _)) (pss_cons (ps_set (i := 5) c__law_scalar.nd rfl (Or.inl rfl) (pe_op op_sub (pe_cl C__law_draw (hr.mono (by omega)) (by rfl) (pa_cons (pv 0) (pa_cons pe_int pa_nil))) pe_int))
      (pss_one (ps_ret (pe_ix (r := rIxL K) ix_list (pe_lst (pa_cons (pv 5) (pa_cons (pv 5) (pa_cons (pe_op op_mul (pv 5) (pe_op op_pow pe_int pe_int)) (pa_cons (pe_op op_pow pe_int pe_int) (pa_cons (pe_un un_neg (pe_op op_pow pe_int pe_int)) pa_nil)))))) (pe_cl C__law_draw (hr.mono (by omega)) (by rfl) (pa_cons (pv 0) (pa_cons pe_int pa_nil))) (fun _ _ => rfl))))) pss_nil)
      (pss_cons (ps_set (i := 3) c__law_scalar.nd rfl (Or.inl rfl) (pe_ix (r := rIxL K) ix_list (pe_lst (pa_cons pe_str (pa_cons pe_str (pa_cons pe_str (pa_cons pe_str pa_nil))))) (pe_cl C__law_draw (hr.mono (by omega)) (by rfl) (pa_cons (pv 0) (pa_cons pe_int pa_nil))) (fun _ _ => rfl)))
      (pss_cons (ps_for PassesOwn.never rfl (pi_range1 (by rfl) T.n_range (pa_cons (pe_ix (r := rIxL K) ix_list (pe_lst (pa_cons pe_int (pa_cons pe_int (pa_cons pe_int (pa_cons pe_int (pa_cons pe_int (pa_cons pe_int pa_nil))))))) (pe_cl C__law_draw (hr.mono (by omega)) (by rfl) (pa_cons (pv 0) (pa_cons pe_int pa_nil))) (fun _ _ => rfl)) pa_nil)) (pg_name (i := 4) c__law_scalar.nd rfl (Or.inl rfl)) (pss_one (ps_set (i := 3) c__law_scalar.nd rfl (Or.inl rfl) (pe_op op_add_str (pv 3) (pe_ix ix_str (pv 1) (pe_cl C__law_draw (hr.mono (by omega)) (by rfl) (pa_cons (pv 0) (pa_cons pe_int pa_nil))) (fun _ _ => rfl))))))
      (pss_one (ps_ret (pv 3))))))))), ?_⟩
  apply entryM (O := fun i => i == 0) h
  (case ht => intro dy; walk_at "rf")
  (case h0 => rfl)
  (case hO => decide)

  rintro ds Qd hn ⟨td, rfl, ht, k⟩
  walk_at "z"
  refine z_draw ht (by decide) (by decide) fun r0 td1 l0 u0 ht1 => ?_
  walk_at "z"
  refine w_ite (fun e0 => ?_) (fun e0 => ?_)
  · walk_at "z"
    refine z_draw ht1 (by decide) (by decide) fun r1 td2 l1 u1 ht2 => ?_
    walk_at "z"
    exact k _ _ (scd_int (by omega) (by omega)) ht2
  · walk_at "z"
    refine w_ite (fun e1 => ?_) (fun e1 => ?_)
    · walk_at "z"
      refine z_draw ht1 (by decide) (by decide) fun r1 td2 l1 u1 ht2 => ?_
      walk_at "z"
      refine z_draw ht2 (by decide) (by decide) fun r2 td3 l2 u2 ht3 => ?_
      walk_at "z"
      rw [show (10 : Int) ^ (9 : Int).toNat = 1000000000 by decide, show (10 : Int) ^ (15 : Int).toNat = 1000000000000000 by decide]
      refine z_ixAny ScD l2 u2 ?_ fun d hd => ?_
      · intro d hd
        simp only [List.mem_cons, List.not_mem_nil, or_false] at hd
        rcases hd with rfl | rfl | rfl | rfl | rfl
        all_goals exact scd_int (by omega) (by omega)
      · walk_at "z"
        exact k _ _ hd ht3
    · walk_at "z"
      refine z_draw ht1 (by decide) (by decide) fun r1 td2 l1 u1 ht2 => ?_
      walk_at "z"
      refine z_ixAny (fun d => ∃ x : Str, d = .str x ∧ x.length ≤ 14 ∧ PyData.strOk x = true) l1 u1 ?_ ?_
      · intro d hd
        simp only [List.mem_cons, List.not_mem_nil, or_false] at hd
        rcases hd with rfl | rfl | rfl | rfl
        all_goals exact ⟨_, rfl, by decide +kernel, by decide +kernel⟩
      rintro d ⟨x0, rfl, hx0, ho0⟩
      walk_at "z"
      refine z_draw ht2 (by decide) (by decide) fun r2 td3 l2 u2 ht3 => ?_
      walk_at "z"
      refine z_ixAny (fun d => ∃ m : Int, d = .int m ∧ 0 ≤ m ∧ m ≤ 6) l2 u2 ?_ ?_
      · intro d hd
        simp only [List.mem_cons, List.not_mem_nil, or_false] at hd
        rcases hd with rfl | rfl | rfl | rfl | rfl | rfl
        all_goals exact ⟨_, rfl, by decide, by decide⟩
      rintro d ⟨m, rfl, m0, m6⟩
      walk_at "z"
      refine ⟨m, rfl, by omega, by omega, fun i E => ∃ (td : Dat) (x : Str) (v : Option Dat), E = [some td, some (.str "abcdefghijklmnopqrstuvwxyzABCDEFGHIJKLMNOPQRSTUVWXYZ0123456789 !\"#$&'()*+,-./:;<=>?\x40[\\]^_`{|}~"), some (.int r0), some (.str x), v, none] ∧ TapeD td ∧ x.length ≤ 14 + i ∧ PyData.strOk x = true, ⟨td3, x0, none, rfl, ht3, hx0, ho0⟩, ?_, ?_⟩
      · rintro i x E hi rfl ⟨td, y, v, rfl, ht, hy, ho⟩
        walk_at "z"
        refine z_draw ht (by decide) (by decide) fun r3 td4 l3 u3 ht4 => ?_
        walk_at "z"
        refine z_ixStr (by decide +kernel) (by decide +kernel) l3 (Int.lt_of_lt_of_le u3 (by decide +kernel)) fun c hcs => ?_
        have hc : (⟨#[c]⟩ : Str).length = 1 := rfl
        have hl : (y ++ ⟨#[c]⟩ : Str).length ≤ 14 + (i + 1) := by
          rw [lenS_app, hc]
          omega
        have hi6 : i < m.toNat := hi
        refine ⟨y, ⟨#[c]⟩, rfl, rfl, by rw [hc]; exact szle2 (by omega), ?_⟩
        walk_at "z"
        exact ⟨td4, _, _, rfl, ht4, hl, sok_app ho (sok_one hcs)⟩
      · rintro E ⟨td, y, v, rfl, ht, hy, ho⟩
        walk_at "z"
        have hy' : y.length ≤ 14 + m.toNat := hy
        exact k _ _ ⟨(show y.length ≤ 20 by omega), ho⟩ ht
/-! ### elements and contents that are drawn -/
def ElD (d : Dat) : Prop := ScD d ∨ ∃ a b, d = .tuple [a, b] ∧ ScD a ∧ ScD b
theorem eld_dep {d : Dat} (h : ElD d) (n : Nat) : Dep (n + 1) d := by
  rcases h with h | ⟨a, b, rfl, ha, hb⟩
  · exact scd_dep h _
  · refine .tup (by show 2 ≤ 1000000; decide) fun x hx => ?_
    simp only [List.mem_cons, List.not_mem_nil, or_false] at hx
    rcases hx with rfl | rfl
    · exact scd_dep ha n
    · exact scd_dep hb n
def dElem : DSp := fun ds Q => ∃ td, ds = [td] ∧ TapeD td ∧ ∀ (d : Dat) (td' : Dat), ElD d → TapeD td' → Q d td'
abbrev s__law_element : Stmt := top 24
theorem c__law_element : FnScope ["tape", "first"] ["tape"] (defScope s__law_element) := ⟨rfl, rfl, rfl, by decide +kernel, rfl, by decide +kernel, by decide +kernel⟩

theorem ok_element {f : Addr} {fd : FuncData} (F : Fun K "_law_element" "_law_element" s__law_element f fd) (T : Txt mg) (C__law_draw : Cl P w K mg base 1 "_law_draw" ["tape", "many"] (spOf 2 (some 0) false dDraw)) (C__law_scalar : Cl P w K mg base 2 "_law_scalar" ["tape"] (spOf 1 (some 0) false dScal)) : FnOk P w K mg base CX0 3 f fd ["tape"] (spOf 1 (some 0) false dElem) := by
  refine F.ok c__law_element (fun vs H Q E h => h.1) (fun cdv A outer s H vs Q E hr h => ?_)
  refine ⟨_, (pss_cons (ps_if (pt_cmpR (r := Dl.rEqU K) (Dl.op_eqU (hu64 hr)) (pe_cl C__law_draw (hr.mono (by omega)) (by rfl) (pa_cons (pv 0) (pa_cons pe_int pa_nil))) pe_int (nomark _)) (pss_cons (ps_set (i := 1) c__law_element.nd rfl (Or.inl rfl) (pe_cl C__law_scalar (hr.mono (by omega)) (by rfl) (pa_cons (pv 0) pa_nil)))
      (pss_one (ps_ret (pe_tup (pa_cons (pv 1) (pa_cons (pe_cl C__law_scalar (hr.mono (by omega)) (by rfl) (pa_cons (pv 0) pa_nil)) pa_nil)))))) pss_nil)
      (pss_one (ps_ret (pe_cl C__law_scalar (hr.mono (by omega)) (by rfl) (pa_cons (pv 0) pa_nil))))), ?_⟩
  apply entryM (O := fun i => i == 0) h
  (case ht => intro dy; walk_at "rf")
  (case h0 => rfl)
  (case hO => decide)

  rintro ds Qd hn ⟨td, rfl, ht, k⟩
  walk_at "z"
  refine z_draw ht (by decide) (by decide) fun r0 td1 l0 u0 ht1 => ?_
  walk_at "z"
  refine w_ite (fun e0 => ?_) (fun e0 => ?_)
  · walk_at "z"
    refine ⟨_, rfl, ht1, fun a td2 ha ht2 => ?_⟩
    walk_at "z"
    refine ⟨_, rfl, ht2, fun b td3 hb ht3 => ?_⟩
    walk_at "z"
    exact k _ _ (.inr ⟨a, b, rfl, ha, hb⟩) ht3
  · walk_at "z"
    exact ⟨_, rfl, ht1, fun a td2 ha ht2 => by walk_at "z"; exact k _ _ (.inl ha) ht2⟩
def dPool : DSp := fun ds Q => ∃ td, ds = [td] ∧ TapeD td ∧ ∀ (xs : List Dat) (td' : Dat), xs ≠ [] → xs.length ≤ 6 → (∀ x ∈ xs, ElD x) → TapeD td' → Q (.list xs) td'
theorem ne_of_len {α : Type} {xs : List α} {n : Nat} (h : xs.length = n) (hn : 0 < n) : xs ≠ [] := fun e => by
  rw [e] at h
  rw [← h] at hn
  exact absurd hn (Nat.lt_irrefl _)
abbrev s__law_pool : Stmt := top 25
theorem c__law_pool : FnScope ["tape", "k"] ["tape"] (defScope s__law_pool) := ⟨rfl, rfl, rfl, by decide +kernel, rfl, by decide +kernel, by decide +kernel⟩

theorem ok_pool {f : Addr} {fd : FuncData} (F : Fun K "_law_pool" "_law_pool" s__law_pool f fd) (T : Txt mg) (C__law_draw : Cl P w K mg base 1 "_law_draw" ["tape", "many"] (spOf 2 (some 0) false dDraw)) (C__law_element : Cl P w K mg base 3 "_law_element" ["tape"] (spOf 1 (some 0) false dElem)) : FnOk P w K mg base CX0 4 f fd ["tape"] (spOf 1 (some 0) false dPool) := by
  refine F.ok c__law_pool (fun vs H Q E h => h.1) (fun cdv A outer s H vs Q E hr h => ?_)
  refine ⟨_, (pss_one (ps_ret (pe_lc (own := [("k", 1)]) (by rfl) c__law_pool.nd (pi_range1 (by rfl) T.n_range (pa_cons (pe_op op_add pe_int (pe_cl C__law_draw (hr.mono (by omega)) (by rfl) (pa_cons (pv 0) (pa_cons pe_int pa_nil)))) pa_nil)) (blkOk_by (own := [("k", 1)]) (N := ["tape", "k"]) (sc := defScope s__law_pool) (by decide +kernel)) (fun _ _ _ _ _ => pg_name (i := 1) c__law_pool.nd rfl (Or.inl rfl)) (fun _ _ _ _ _ => pts_nil) (fun _ _ _ _ _ => (pe_cl C__law_element (hr.mono (by omega)) (by rfl) (pa_cons (pv 0) pa_nil)))))), ?_⟩
  apply entryM (O := fun i => i == 0) h
  (case ht => intro dy; walk_at "rf")
  (case h0 => rfl)
  (case hO => decide)

  rintro ds Qd hn ⟨td, rfl, ht, k⟩
  walk_at "z"
  refine z_draw ht (by decide) (by decide) fun r0 td1 l0 u0 ht1 => ?_
  walk_at "z"
  refine ⟨_, rfl, by omega, by omega, fun i acc E => ∃ td, E = [some td, none] ∧ TapeD td ∧ acc.length = i ∧ ∀ x ∈ acc, ElD x, ⟨td1, rfl, ht1, rfl, fun x hx => absurd hx List.not_mem_nil⟩, ?_, ?_⟩
  · rintro i x acc E hi rfl ⟨td, rfl, ht, hl, ha⟩
    have hi' : i < (1 + r0).toNat := hi
    walk_at "z"
    refine ⟨_, rfl, ht, fun d td2 hd ht2 => ?_⟩
    walk_at "z"
    refine ⟨szlt2 (by omega), td2, rfl, ht2, by rw [List.length_append, hl]; rfl, fun x hx => ?_⟩
    rcases List.mem_append.mp hx with h | h
    · exact ha x h
    · rw [List.mem_singleton.mp h]
      exact hd
  · rintro acc E ⟨td, rfl, ht, hl, ha⟩
    have hl' : acc.length = (1 + r0).toNat := hl
    walk_at "z"
    exact k _ _ (ne_of_len hl' (by omega)) (by omega) ha ht
/-- a list's item at a drawn place -/
theorem z_ixA {ds : List Dat} {i : Int} {Q : Dat → Prop} (h0 : 0 ≤ i) (h1 : i < ds.length) (k : ∀ d ∈ ds, Q d) : oIxL (.list ds) (.int i) Q := z_ixAny (fun d => d ∈ ds) h0 h1 (fun d h => h) k
theorem z_drawL {td : Dat} {ds : List Dat} {Q : Dat → Dat → Prop} (ht : TapeD td) (h1 : ds ≠ []) (h2 : ds.length < 1000000) (k : ∀ (r : Int) (td' : Dat), 0 ≤ r → r < ds.length → TapeD td' → Q (.int r) td') : dDraw [td, .int ds.length] Q := z_draw ht (by have := List.length_pos_iff.mpr h1; omega) (by omega) k
theorem flat_rep {α : Type} : ∀ (n : Nat) (d : α), (List.replicate n [d]).flatten = List.replicate n d
  | 0, _ => rfl
  | n + 1, d => by
    rw [List.replicate_succ, List.flatten_cons, flat_rep n d, List.replicate_succ]
    rfl
def dCont : DSp := fun ds Q => ∃ (td : Dat) (pool : List Dat) (most : Nat), ds = [td, .list pool, .int most] ∧ TapeD td ∧ pool ≠ [] ∧ pool.length ≤ 6 ∧ (∀ x ∈ pool, ElD x) ∧ 2 ≤ most ∧ most ≤ 2000 ∧
  ∀ (xs : List Dat) (td' : Dat), (∀ x ∈ xs, ElD x) → xs.length ≤ most → TapeD td' → Q (.tuple xs) td'
abbrev s__law_contents : Stmt := top 26
theorem c__law_contents : FnScope ["tape", "pool", "most", "size", "shape", "first", "found", "k", "part", "many", "element"] ["tape", "pool", "most"] (defScope s__law_contents) := ⟨rfl, rfl, rfl, by decide +kernel, rfl, by decide +kernel, by decide +kernel⟩

theorem ok_contents {f : Addr} {fd : FuncData} (F : Fun K "_law_contents" "_law_contents" s__law_contents f fd) (T : Txt mg) (C__law_draw : Cl P w K mg base 1 "_law_draw" ["tape", "many"] (spOf 2 (some 0) false dDraw)) : FnOk P w K mg base CX0 5 f fd ["tape", "pool", "most"] (spOf 3 (some 0) false dCont) := by
  refine F.ok c__law_contents (fun vs H Q E h => h.1) (fun cdv A outer s H vs Q E hr h => ?_)
  refine ⟨_, (pss_cons (ps_set (i := 3) c__law_contents.nd rfl (Or.inl rfl) (pe_cl C__law_draw (hr.mono (by omega)) (by rfl) (pa_cons (pv 0) (pa_cons (pe_op op_add (pv 2) pe_int) pa_nil))))
      (pss_cons (ps_if (pt_cmpR (r := Dl.rEqU K) (Dl.op_eqU (hu64 hr)) (pe_cl C__law_draw (hr.mono (by omega)) (by rfl) (pa_cons (pv 0) (pa_cons pe_int pa_nil))) pe_int (nomark _)) (pss_one (ps_set (i := 3) c__law_contents.nd rfl (Or.inl rfl) (pe_ix (r := rIxL K) ix_list (pe_lst (pa_cons pe_int (pa_cons pe_int (pa_cons pe_int (pa_cons (pv 2) pa_nil))))) (pe_cl C__law_draw (hr.mono (by omega)) (by rfl) (pa_cons (pv 0) (pa_cons pe_int pa_nil))) (fun _ _ => rfl)))) pss_nil)
      (pss_cons (ps_set (i := 4) c__law_contents.nd rfl (Or.inl rfl) (pe_cl C__law_draw (hr.mono (by omega)) (by rfl) (pa_cons (pv 0) (pa_cons pe_int pa_nil))))
      (pss_cons (ps_set (i := 5) c__law_contents.nd rfl (Or.inr rfl) (pe_cl C__law_draw (hr.mono (by omega)) (by rfl) (pa_cons (pv 0) (pa_cons pe_int pa_nil))))
      (pss_cons (ps_if (pt_cmpR (r := Dl.rEqU K) (Dl.op_eqU (hu64 hr)) (pv 4) pe_int (nomark _)) (pss_one (ps_ret (pe_callTy (r := Dl.rTupleOf K) Dl.cr_tupleOf (by rfl) T.n_tuple (by decide +kernel) (pa_cons (pe_lc (own := [("k", 7)]) (by rfl) c__law_contents.nd (pi_range1 (by rfl) T.n_range (pa_cons (pv 3) pa_nil)) (blkOk_by (own := [("k", 7)]) (N := ["tape", "pool", "most", "size", "shape", "first", "found", "k", "part", "many", "element"]) (sc := defScope s__law_contents) (by decide +kernel)) (fun _ _ _ _ _ => pg_name (i := 7) c__law_contents.nd rfl (Or.inl rfl)) (fun _ _ _ _ _ => pts_nil) (fun _ _ _ _ _ => (pe_op op_add (pv 5) (pv 7)))) pa_nil)))) pss_nil)
      (pss_cons (ps_if (pt_cmpR (r := Dl.rEqU K) (Dl.op_eqU (hu64 hr)) (pv 4) pe_int (nomark _)) (pss_cons (ps_set (i := 8) c__law_contents.nd rfl (Or.inr rfl) (pe_lc (own := [("k", 7)]) (by rfl) c__law_contents.nd (pi_range1 (by rfl) T.n_range (pa_cons (pe_op op_add pe_int (pe_op op_modN (pe_callTy call_int1 (by rfl) T.n_int (by decide +kernel) (pa_cons (pv 5) pa_nil)) pe_int)) pa_nil)) (blkOk_by (own := [("k", 7)]) (N := ["tape", "pool", "most", "size", "shape", "first", "found", "k", "part", "many", "element"]) (sc := defScope s__law_contents) (by decide +kernel)) (fun _ _ _ _ _ => pg_name (i := 7) c__law_contents.nd rfl (Or.inl rfl)) (fun _ _ _ _ _ => pts_nil) (fun _ _ _ _ _ => (pe_ix (r := rIxL K) ix_list (pv 1) (pe_cl C__law_draw (hr.mono (by omega)) (by rfl) (pa_cons (pv 0) (pa_cons (pe_callB (r := Dl.rLen K) Dl.cr_len (by rfl) T.n_len (by decide +kernel) (pa_cons (pv 1) pa_nil)) pa_nil))) (fun _ _ => rfl)))))
      (pss_one (ps_ret (pe_callTy (r := Dl.rTupleOf K) Dl.cr_tupleOf (by rfl) T.n_tuple (by decide +kernel) (pa_cons (pe_lc (own := [("k", 7)]) (by rfl) c__law_contents.nd (pi_range1 (by rfl) T.n_range (pa_cons (pv 3) pa_nil)) (blkOk_by (own := [("k", 7)]) (N := ["tape", "pool", "most", "size", "shape", "first", "found", "k", "part", "many", "element"]) (sc := defScope s__law_contents) (by decide +kernel)) (fun _ _ _ _ _ => pg_name (i := 7) c__law_contents.nd rfl (Or.inl rfl)) (fun _ _ _ _ _ => pts_nil) (fun _ _ _ _ _ => (pe_ix (r := rIxL K) ix_list (pv 8) (pe_op op_modN (pe_callTy call_int1 (by rfl) T.n_int (by decide +kernel) (pa_cons (pv 7) pa_nil)) (pe_callB (r := Dl.rLen K) Dl.cr_len (by rfl) T.n_len (by decide +kernel) (pa_cons (pv 8) pa_nil))) (fun _ _ => rfl)))) pa_nil))))) pss_nil)
      (pss_cons (ps_set (i := 6) c__law_contents.nd rfl (Or.inl rfl) (pe_lst pa_nil))
      (pss_cons (ps_for PassesOwn.never rfl (pi_range1 (by rfl) T.n_range (pa_cons (pv 3) pa_nil)) (pg_name (i := 7) c__law_contents.nd rfl (Or.inl rfl)) (pss_one (ps_if (pt_cmpR op_lt (pe_callB (r := Dl.rLen K) Dl.cr_len (by rfl) T.n_len (by decide +kernel) (pa_cons (pv 6) pa_nil)) (pv 3) (nomark _)) (pss_cons (ps_set (i := 9) c__law_contents.nd rfl (Or.inl rfl) pe_int)
      (pss_cons (ps_if (pt_cmpR (r := Dl.rEqU K) (Dl.op_eqU (hu64 hr)) (pv 4) pe_int (nomark _)) (pss_one (ps_set (i := 9) c__law_contents.nd rfl (Or.inl rfl) (pe_op op_add pe_int (pe_cl C__law_draw (hr.mono (by omega)) (by rfl) (pa_cons (pv 0) (pa_cons pe_int pa_nil)))))) pss_nil)
      (pss_cons (ps_set (i := 10) c__law_contents.nd rfl (Or.inl rfl) (pe_ix (r := rIxL K) ix_list (pv 1) (pe_cl C__law_draw (hr.mono (by omega)) (by rfl) (pa_cons (pv 0) (pa_cons (pe_callB (r := Dl.rLen K) Dl.cr_len (by rfl) T.n_len (by decide +kernel) (pa_cons (pv 1) pa_nil)) pa_nil))) (fun _ _ => rfl)))
      (pss_one (ps_set (i := 6) c__law_contents.nd rfl (Or.inl rfl) (pe_op op_cat (pv 6) (pe_op op_rep (pe_lst (pa_cons (pv 10) pa_nil)) (pv 9)))))))) pss_nil)))
      (pss_one (ps_ret (pe_callTy (r := Dl.rTupleOf K) Dl.cr_tupleOf (by rfl) T.n_tuple (by decide +kernel) (pa_cons (pe_slice (r := rSlL K) sl_list (pv 6) po_none (po_some (pv 3))) pa_nil)))))))))))), ?_⟩
  apply entryM (O := fun i => i == 0) h
  (case ht => intro dy; walk_at "rf")
  (case h0 => rfl)
  (case hO => decide)

  rintro ds Qd hn ⟨td, pool, most, rfl, ht, hp, hpl, hpe, m2, hm, k⟩
  walk_at "z"
  refine z_draw ht (by omega) (by omega) fun s0 td1 l0 u0 ht1 => ?_
  walk_at "zi"
  refine z_ifK (fun E => ∃ (sz : Int) (td : Dat), E = [some td, some (.list pool), some (.int most), some (.int sz), none, none, none, none, none, none, none] ∧ 0 ≤ sz ∧ sz ≤ most ∧ TapeD td) ?_ ?_
  · rintro E ⟨sz, td3, rfl, z0, z1, ht3⟩
    walk_at "z"
    refine z_draw ht3 (by decide) (by decide) fun s1 td4 l1 u1 ht4 => ?_
    walk_at "z"
    refine z_draw ht4 (by decide) (by decide) fun f1 td5 l2 u2 ht5 => ?_
    walk_at "z"
    refine w_ite (fun e0 => ?_) (fun e0 => ?_)
    · walk_at "z"
      refine ⟨sz, rfl, by omega, by omega, fun i acc E => E = [some td5, some (.list pool), some (.int most), some (.int sz), some (.int s1), some (.int f1), none, none, none, none, none] ∧ acc.length = i ∧ ∀ x ∈ acc, ElD x, ⟨rfl, rfl, fun x hx => absurd hx List.not_mem_nil⟩, ?_, ?_⟩
      · rintro i x acc E hi rfl ⟨rfl, hl, ha⟩
        have hi' : i < sz.toNat := hi
        walk_at "z"
        refine ⟨szlt2 (by omega), rfl, by rw [List.length_append, hl]; rfl, fun x hx => ?_⟩
        rcases List.mem_append.mp hx with h | h
        · exact ha x h
        · rw [List.mem_singleton.mp h]
          exact .inl (scd_int (by omega) (by omega))
      · rintro acc E ⟨rfl, hl, ha⟩
        have hl' : acc.length = sz.toNat := hl
        walk_at "z"
        exact k _ _ ha (by omega) ht5
    · walk_at "z"
      refine w_ite (fun e1 => ?_) (fun e1 => ?_)
      · walk_at "z"
        have fm4 := fm (a := f1) (b := 4) (by decide)
        refine ⟨_, rfl, by omega, by omega, fun i acc E => ∃ td, E = [some td, some (.list pool), some (.int most), some (.int sz), some (.int s1), some (.int f1), none, none, none, none, none] ∧ TapeD td ∧ acc.length = i ∧ ∀ x ∈ acc, ElD x, ⟨_, rfl, ht5, rfl, fun x hx => absurd hx List.not_mem_nil⟩, ?_, ?_⟩
        · rintro i x acc E hi rfl ⟨td, rfl, ht, hl, ha⟩
          have hi' : i < (1 + f1.fmod 4).toNat := hi
          walk_at "z"
          refine z_drawL ht hp (by omega) fun r td6 l6 u6 ht6 => ?_
          walk_at "z"
          refine z_ixA l6 u6 fun d hd => ?_
          refine ⟨szlt2 (by omega), _, rfl, ht6, by rw [List.length_append, hl]; rfl, fun x hx => ?_⟩
          rcases List.mem_append.mp hx with h | h
          · exact ha x h
          · rw [List.mem_singleton.mp h]
            exact hpe d hd
        · rintro acc E ⟨td, rfl, ht, hl, ha⟩
          have hl' : acc.length = (1 + f1.fmod 4).toNat := hl
          have hne : acc ≠ [] := ne_of_len hl' (by omega)
          walk_at "z"
          refine ⟨sz, rfl, by omega, by omega, fun i as E => E = [some td, some (.list pool), some (.int most), some (.int sz), some (.int s1), some (.int f1), none, none, some (.list acc), none, none] ∧ as.length = i ∧ ∀ x ∈ as, ElD x, ⟨rfl, rfl, fun x hx => absurd hx List.not_mem_nil⟩, ?_, ?_⟩
          · rintro i x as E hi rfl ⟨rfl, hal, has⟩
            have hi' : i < sz.toNat := hi
            have lp : 0 < (acc.length : Int) := by
              have := List.length_pos_iff.mpr hne
              omega
            have fmi := fm (a := (i : Int)) (b := (acc.length : Int)) lp
            walk_at "z"
            refine z_ixA (by omega) (by omega) fun d hd => ?_
            refine ⟨szlt2 (by omega), rfl, by rw [List.length_append, hal]; rfl, fun x hx => ?_⟩
            rcases List.mem_append.mp hx with h | h
            · exact has x h
            · rw [List.mem_singleton.mp h]
              exact ha d hd
          · rintro as E ⟨rfl, hal, has⟩
            have hal' : as.length = sz.toNat := hal
            walk_at "z"
            exact k _ _ has (by omega) ht
      · walk_at "z"
        refine ⟨sz, rfl, by omega, by omega, fun i E => ∃ td found v w u, E = [some td, some (.list pool), some (.int most), some (.int sz), some (.int s1), some (.int f1), some (.list found), v, none, w, u] ∧ TapeD td ∧ found.length ≤ 2004 ∧ ∀ x ∈ found, ElD x, ⟨_, [], none, none, none, rfl, ht5, by decide, fun x hx => absurd hx List.not_mem_nil⟩, ?_, ?_⟩
        · rintro i x E hi rfl ⟨td, found, v, w, u, rfl, ht, hfl, hfe⟩
          walk_at "z"
          refine w_ite (fun e2 => ?_) (fun e2 => ?_)
          · walk_at "zi"
            refine z_ifK (fun E => ∃ (td : Dat) (m : Int), E = [some td, some (.list pool), some (.int most), some (.int sz), some (.int s1), some (.int f1), some (.list found), some (.int i), none, some (.int m), u] ∧ TapeD td ∧ 1 ≤ m ∧ m ≤ 4) ?_ ?_
            · rintro E ⟨td, m, rfl, ht, m1, m4⟩
              walk_at "z"
              refine z_drawL ht hp (by omega) fun r td6 l6 u6 ht6 => ?_
              walk_at "z"
              refine z_ixA l6 u6 fun d hd => ?_
              walk_at "z"
              refine ⟨[d], m, rfl, rfl, by omega, by omega, szle2 (by show 1 * m.toNat ≤ 1000000; omega), ?_⟩
              have hl : (List.replicate m.toNat [d]).flatten.length ≤ 4 := by
                rw [show (List.replicate m.toNat [d]).flatten = List.replicate m.toNat d from flat_rep m.toNat d, List.length_replicate]
                omega
              refine ⟨found, _, rfl, rfl, szle2 (by omega), ?_⟩
              walk_at "z"
              refine ⟨td6, found ++ (List.replicate m.toNat [d]).flatten, some (.int i), some (.int m), some d, rfl, ht6, by rw [List.length_append]; omega, fun x hx => ?_⟩
              rcases List.mem_append.mp hx with h | h
              · exact hfe x h
              · obtain ⟨l, hl1, hl2⟩ := List.mem_flatten.mp h
                rw [(List.mem_replicate.mp hl1).2] at hl2
                rw [List.mem_singleton.mp hl2]
                exact hpe d hd
            · intro nx hnx
              walk_at "z"
              refine w_ite (fun e3 => ?_) (fun e3 => ?_)
              · walk_at "z"
                refine z_draw ht (by decide) (by decide) fun m td6 l6 u6 ht6 => ?_
                walk_at "z"
                exact hnx _ ⟨_, _, rfl, ht6, by omega, by omega⟩
              · walk_at "z"
                exact hnx _ ⟨_, _, rfl, ht, by omega, by omega⟩
          · walk_at "z"
            exact ⟨td, found, _, w, u, rfl, ht, hfl, hfe⟩
        · rintro E ⟨td, found, v, w, u, rfl, ht, hfl, hfe⟩
          walk_at "z"
          have hs0 : sz = ((sz.toNat : Nat) : Int) := by omega
          rw [hs0, cutD_to]
          refine k _ _ (fun x hx => hfe x (List.mem_of_mem_take hx)) ?_ ht
          rw [List.length_take]
          omega
  · intro nx hnx
    walk_at "z"
    refine z_draw ht1 (by decide) (by decide) fun r1 td2 l1 u1 ht2 => ?_
    walk_at "z"
    refine w_ite (fun e0 => ?_) (fun e0 => ?_)
    · walk_at "z"
      refine z_draw ht2 (by decide) (by decide) fun r2 td3 l2 u2 ht3 => ?_
      walk_at "z"
      refine z_ixAny (fun d => ∃ m : Int, d = .int m ∧ 0 ≤ m ∧ m ≤ most) l2 u2 ?_ ?_
      · intro d hd
        simp only [List.mem_cons, List.not_mem_nil, or_false] at hd
        rcases hd with rfl | rfl | rfl | rfl
        all_goals exact ⟨_, rfl, by omega, by omega⟩
      · rintro d ⟨m, rfl, m0, m1⟩
        walk_at "z"
        exact hnx _ ⟨m, td3, rfl, m0, m1, ht3⟩
    · walk_at "z"
      exact hnx _ ⟨s0, td2, rfl, by omega, by omega, ht2⟩
/-! ### counts that may be too great -/
abbrev eMany (n : Int) : Er := ⟨"TooManyElements", some ("count", .int n)⟩
def dChk : DSpX := fun ds Q X => ∃ n : Int, ds = [.int n] ∧ 0 ≤ n ∧ n ≤ 2 ^ 63 ∧ (n ≤ 2000 → Q .none .none) ∧ (2000 < n → X (eMany n) .none)
abbrev s_check_count : Stmt := top 7
theorem c_check_count : FnScope ["count"] ["count"] (defScope s_check_count) := ⟨rfl, rfl, rfl, by decide +kernel, rfl, by decide +kernel, by decide +kernel⟩

theorem ok_check_count {f : Addr} {fd : FuncData} (F : Fun K "check_count" "check_count" s_check_count f fd) (T : Txt mg) (G_TooManyElements : Xm.ErrF P w K mg base "TooManyElements" "count") : FnOk P w K mg base (L2.CX P w) 3 f fd ["count"] (spOfX mg 1 none false dChk) := by
  refine F.okX c_check_count (fun vs H Q E h => h.1) (fun cdv A outer s H vs Q E hr h => ?_)
  refine ⟨_, (pss_one (ps_if (pt_cmpR op_gt (pv 0) (pe_glob (by rfl) T.c_MOST.choose_spec.1 T.c_MOST.choose_spec.2) (nomark _)) (pss_one (Xm.ps_raiseF rfl G_TooManyElements (takes_of rfl rfl rfl rfl) (hr.mono (by omega)) (by rfl) (pv 0))) pss_nil)), ?_⟩
  apply entryX0 (O := fun _ => false) h
  (case ht => intro dy Xc hx; walk_at "rf")
  (case hO => decide)

  rintro ds Qd Xd hn ⟨n, rfl, h0, h1, k1, k2⟩
  walk_at "z"
  refine w_ite (fun e => ?_) (fun e => ?_)
  · walk_at "z"
    exact ⟨scx_small (by omega) (by omega), k2 (by omega)⟩
  · walk_at "z"
    exact k1 (by omega)
def dChkd : DSpX := fun ds Q X => ∃ (d : Dat) (n : Nat), ds = [d] ∧ lenD d = some n ∧ n ≤ 2 ^ 62 ∧ (n ≤ 2000 → Q d .none) ∧ (2000 < n → X (eMany n) .none)
abbrev s_checked : Stmt := top 8
theorem c_checked : FnScope ["contents"] ["contents"] (defScope s_checked) := ⟨rfl, rfl, rfl, by decide +kernel, rfl, by decide +kernel, by decide +kernel⟩

theorem ok_checked {f : Addr} {fd : FuncData} (F : Fun K "checked" "checked" s_checked f fd) (T : Txt mg) (C_check_count : ClX P w K mg base 3 "check_count" ["count"] (spOfX mg 1 none false dChk)) : FnOk P w K mg base (L2.CX P w) 4 f fd ["contents"] (spOfX mg 1 none false dChkd) := by
  refine F.okX c_checked (fun vs H Q E h => h.1) (fun cdv A outer s H vs Q E hr h => ?_)
  refine ⟨_, (pss_cons (ps_expr (Dl.pe_clX C_check_count (takes_of rfl rfl rfl rfl) (hr.mono (by omega)) (by rfl) (pa_cons (pe_callB (r := Dl.rLen K) Dl.cr_len (by rfl) T.n_len (by decide +kernel) (pa_cons (pv 0) pa_nil)) pa_nil)))
      (pss_one (ps_ret (pv 0)))), ?_⟩
  apply entryX0 (O := fun _ => false) h
  (case ht => intro dy Xc hx; walk_at "rf")
  (case hO => decide)

  rintro ds Qd Xd hn ⟨d, n, rfl, hl, hle, k1, k2⟩
  walk_at "z"
  refine ⟨_, n, rfl, hl, ?_⟩
  walk_at "z"
  refine ⟨n, rfl, by omega, by omega, fun h => ?_, fun h => k2 (by omega)⟩
  walk_at "z"
  exact k1 (by omega)
theorem dep2 {n : Nat} {a b : Dat} (ha : Dep n a) (hb : Dep n b) : Dep (n + 1) (.tuple [a, b]) := .tup (by show 2 ≤ 1000000; decide) fun x hx => by
  simp only [List.mem_cons, List.not_mem_nil, or_false] at hx
  rcases hx with rfl | rfl <;> assumption
theorem dep3 {n : Nat} {a b c : Dat} (ha : Dep n a) (hb : Dep n b) (hc : Dep n c) : Dep (n + 1) (.tuple [a, b, c]) := .tup (by show 3 ≤ 1000000; decide) fun x hx => by
  simp only [List.mem_cons, List.not_mem_nil, or_false] at hx
  rcases hx with rfl | rfl | rfl <;> assumption
theorem dep4 {n : Nat} {a b c d : Dat} (ha : Dep n a) (hb : Dep n b) (hc : Dep n c) (hd : Dep n d) : Dep (n + 1) (.tuple [a, b, c, d]) := .tup (by show 4 ≤ 1000000; decide) fun x hx => by
  simp only [List.mem_cons, List.not_mem_nil, or_false] at hx
  rcases hx with rfl | rfl | rfl | rfl <;> assumption
theorem depE {xs : List Dat} (h : ∀ x ∈ xs, ElD x) (hl : xs.length ≤ 1000000) (n : Nat) : Dep (n + 2) (.tuple xs) := .tup hl fun x hx => eld_dep (h x hx) n
theorem all_app {α : Type} {p : α → Prop} {a b : List α} (ha : ∀ x ∈ a, p x) (hb : ∀ x ∈ b, p x) : ∀ x ∈ a ++ b, p x := fun x hx => (List.mem_append.mp hx).elim (ha x) (hb x)
theorem all_one {α : Type} {p : α → Prop} {a : α} (h : p a) : ∀ x ∈ [a], p x := fun x hx => by rw [List.mem_singleton.mp hx]; exact h
theorem map1 {α : Type} (f : α → Dat) (xs : List α) (x : α) : xs.map f ++ [f x] = (xs ++ [x]).map f := by rw [List.map_append]; rfl
theorem map_get {α : Type} {f : α → Dat} {cs : List α} {i : Nat} {x : Dat} (h : (cs.map f)[i]? = some x) : ∃ hi : i < cs.length, x = f cs[i] := by
  rw [List.getElem?_map] at h
  have hi : i < cs.length := by
    apply Nat.lt_of_not_le
    intro z
    rw [List.getElem?_eq_none z] at h
    cases h
  rw [List.getElem?_eq_getElem hi] at h
  exact ⟨hi, (Option.some.inj h).symm⟩
theorem map_at {α : Type} (f : α → Dat) {cs : List α} {i : Nat} (hi : i < cs.length) : L2.atI (cs.map f) (i : Int) = some (f cs[i]) := atI_nat (by rw [List.getElem?_map, List.getElem?_eq_getElem hi]; rfl)
theorem map_snoc {α : Type} (f : α → Dat) {cs : List α} {i : Nat} (hi : i < cs.length) : (cs.take (i + 1)).map f = (cs.take i).map f ++ [f cs[i]] := by
  rw [List.take_succ, List.getElem?_eq_getElem hi, List.map_append]
  rfl
theorem flat_bound {α β : Type} (f : α → List β) {m : Nat} : ∀ (cs : List α), (∀ c ∈ cs, (f c).length ≤ m) → (cs.flatMap f).length ≤ cs.length * m
  | [], _ => Nat.zero_le _
  | c :: cs, h => by
    rw [List.flatMap_cons, List.length_append, List.length_cons, Nat.succ_mul]
    have h1 := h c List.mem_cons_self
    have h2 := flat_bound f cs fun x hx => h x (List.mem_cons_of_mem _ hx)
    omega
theorem take_all {α : Type} {f : α → Dat} {cs : List α} : cs.take (DIt.n ⟨(cs.map f).length, fun k x => (cs.map f)[k]? = some x⟩) = cs := by
  show cs.take (cs.map f).length = cs
  rw [List.length_map, List.take_length]
theorem z_ixI {ds : List Dat} {i : Int} {Q : Dat → Prop} (p : Int → Prop) (h0 : 0 ≤ i) (h1 : i < ds.length) (hp : ∀ d ∈ ds, ∃ m : Int, d = .int m ∧ p m) (k : ∀ m, p m → Q (.int m)) : oIxL (.list ds) (.int i) Q := z_ixAny (fun d => ∃ m : Int, d = .int m ∧ p m) h0 h1 hp fun d ⟨m, e, h⟩ => by rw [e]; exact k m h
theorem eld_pk {d : Dat} (h : ElD d) : Pk d := by
  have one : ∀ {d : Dat}, ScD d → Pk d := fun h => by
    rcases scd_cases h with ⟨i, rfl, _⟩ | ⟨x, rfl, _, ho⟩
    · exact .int i
    · exact .str x ho
  rcases h with h | ⟨a, b, rfl, ha, hb⟩
  · exact one h
  · exact pk_tup2 (one ha) (one hb)
theorem z_eqE {x y : Dat} {Q : Dat → Prop} (hx : ElD x) (hy : ElD y) (k : ∀ b : Bool, (b = true ↔ x = y) → Q (.bool b)) : oEq x y Q := z_eqP (eld_pk hx) (eld_pk hy) (eld_dep hx 1) (eld_dep hy 1) (by decide) (by decide) k
theorem z_neE {x y : Dat} {Q : Dat → Prop} (hx : ElD x) (hy : ElD y) (k : ∀ b : Bool, (b = true ↔ x ≠ y) → Q (.bool b)) : oNe x y Q := z_neP (eld_pk hx) (eld_pk hy) (eld_dep hx 1) (eld_dep hy 1) (by decide) (by decide) k
/-! ### edits -/
structure Edt where
  s : Nat
  e : Nat
  t : List Dat
def Edt.d (x : Edt) : Dat := .tuple [.int x.s, .int x.e, .tuple x.t]
def EdD (x : Edt) : Prop := x.s ≤ 1000000 ∧ x.e ≤ 1000000 ∧ x.t.length ≤ 100 ∧ ∀ y ∈ x.t, ElD y
theorem ed_inj {x y : Edt} (h : x.d = y.d) : x = y := by
  have h := PyData.tuple.inj h
  have h1 := PyData.int.inj (List.cons.inj h).1
  have h2 := PyData.int.inj (List.cons.inj (List.cons.inj h).2).1
  have h3 := PyData.tuple.inj (List.cons.inj (List.cons.inj (List.cons.inj h).2).2).1
  cases x
  cases y
  simp only [Edt.mk.injEq]
  exact ⟨Int.ofNat.inj h1, Int.ofNat.inj h2, h3⟩
theorem ed_pk {x : Edt} (h : EdD x) : Pk x.d := pk_tup3 (.int _) (.int _) (.tup _ fun y hy => eld_pk (h.2.2.2 y hy))
theorem ed_dep {x : Edt} (h : EdD x) (n : Nat) : Dep (n + 3) x.d := dep3 (.int _ _) (.int _ _) (depE h.2.2.2 (Nat.le_trans h.2.2.1 (by decide)) n)
structure EdR (l : List Edt) : Prop where
  a : l.Pairwise fun a b => a.e < b.s
  o : ∀ x ∈ l, x.s ≤ x.e
  d : ∀ x ∈ l, EdD x
  n : l.length ≤ 100
theorem EdR.sub {l m : List Edt} (h : EdR l) (s : m.Sublist l) : EdR m := ⟨h.a.sublist s, fun x hx => h.o x (s.subset hx), fun x hx => h.d x (s.subset hx), Nat.le_trans s.length_le h.n⟩
theorem EdR.lt {l : List Edt} (h : EdR l) {i j : Nat} (hij : i < j) (hj : j < l.length) : (l[i]'(Nat.lt_trans hij hj)).e < l[j].s := List.pairwise_iff_getElem.mp h.a i j _ hj hij
theorem EdR.le {l : List Edt} (h : EdR l) {i : Nat} (hi : i < l.length) : l[i].s ≤ l[i].e := h.o _ (List.getElem_mem hi)
theorem EdR.es {l : List Edt} (h : EdR l) {i j : Nat} (hij : i ≤ j) (hj : j < l.length) : (l[i]'(Nat.lt_of_le_of_lt hij hj)).e ≤ l[j].e := by
  rcases Nat.lt_or_eq_of_le hij with z | rfl
  · have := h.lt z hj
    have := h.le hj
    omega
  · exact Nat.le_refl _
theorem EdR.ss {l : List Edt} (h : EdR l) {i j : Nat} (hij : i ≤ j) (hj : j < l.length) : (l[i]'(Nat.lt_of_le_of_lt hij hj)).s ≤ l[j].s := by
  rcases Nat.lt_or_eq_of_le hij with z | rfl
  · have := h.lt z hj
    have := h.le (Nat.lt_trans z hj)
    omega
  · exact Nat.le_refl _
theorem EdR.asc {l : List Edt} (h : EdR l) : l.Pairwise fun a b => a.s < b.s := by
  refine List.pairwise_iff_getElem.mpr fun i j hi hj hij => ?_
  have := h.lt hij hj
  have := h.le hi
  omega
/-! drawn ones -/
def dDrawnE : DSp := fun ds Q => ∃ (td : Dat) (base pool : List Dat) (most : Nat), ds = [td, .tuple base, .list pool, .int most] ∧ TapeD td ∧ pool ≠ [] ∧ pool.length ≤ 6 ∧ (∀ x ∈ pool, ElD x) ∧ base.length ≤ 2000 ∧ most ≤ 10 ∧
  ∀ (l : List Edt) (td' : Dat), EdR l → l.length ≤ most → (∀ x ∈ l, x.e ≤ base.length ∧ (x.s = x.e → x.t ≠ []) ∧ x.t.length ≤ 3) → TapeD td' → Q (.tuple (l.map Edt.d)) td'
abbrev s__law_drawn_edits : Stmt := top 27
theorem c__law_drawn_edits : FnScope ["tape", "base", "pool", "most", "edits", "place", "k", "start", "end", "inserted", "i"] ["tape", "base", "pool", "most"] (defScope s__law_drawn_edits) := ⟨rfl, rfl, rfl, by decide +kernel, rfl, by decide +kernel, by decide +kernel⟩

theorem ok_drawn_edits {f : Addr} {fd : FuncData} (F : Fun K "_law_drawn_edits" "_law_drawn_edits" s__law_drawn_edits f fd) (T : Txt mg) (C__law_draw : Cl P w K mg base 1 "_law_draw" ["tape", "many"] (spOf 2 (some 0) false dDraw)) : FnOk P w K mg base CX0 2 f fd ["tape", "base", "pool", "most"] (spOf 4 (some 0) false dDrawnE) := by
  refine F.ok c__law_drawn_edits (fun vs H Q E h => h.1) (fun cdv A outer s H vs Q E hr h => ?_)
  refine ⟨_, (pss_cons (ps_set (i := 4) c__law_drawn_edits.nd rfl (Or.inl rfl) (pe_lst pa_nil))
      (pss_cons (ps_set (i := 5) c__law_drawn_edits.nd rfl (Or.inl rfl) pe_int)
      (pss_cons (ps_for PassesOwn.never rfl (pi_range1 (by rfl) T.n_range (pa_cons (pv 3) pa_nil)) (pg_name (i := 6) c__law_drawn_edits.nd rfl (Or.inl rfl)) (pss_cons (ps_set (i := 7) c__law_drawn_edits.nd rfl (Or.inl rfl) (pe_op op_add (pv 5) (pe_cl C__law_draw (hr.mono (by omega)) (by rfl) (pa_cons (pv 0) (pa_cons pe_int pa_nil)))))
      (pss_cons (ps_set (i := 8) c__law_drawn_edits.nd rfl (Or.inl rfl) (pe_op op_add (pv 7) (pe_ix (r := rIxL K) ix_list (pe_lst (pa_cons pe_int (pa_cons pe_int (pa_cons pe_int (pa_cons pe_int (pa_cons pe_int pa_nil)))))) (pe_cl C__law_draw (hr.mono (by omega)) (by rfl) (pa_cons (pv 0) (pa_cons pe_int pa_nil))) (fun _ _ => rfl))))
      (pss_cons (ps_set (i := 9) c__law_drawn_edits.nd rfl (Or.inl rfl) (pe_callTy (r := Dl.rTupleOf K) Dl.cr_tupleOf (by rfl) T.n_tuple (by decide +kernel) (pa_cons (pe_lc (own := [("i", 10)]) (by rfl) c__law_drawn_edits.nd (pi_range1 (by rfl) T.n_range (pa_cons (pe_cl C__law_draw (hr.mono (by omega)) (by rfl) (pa_cons (pv 0) (pa_cons pe_int pa_nil))) pa_nil)) (blkOk_by (own := [("i", 10)]) (N := ["tape", "base", "pool", "most", "edits", "place", "k", "start", "end", "inserted", "i"]) (sc := defScope s__law_drawn_edits) (by decide +kernel)) (fun _ _ _ _ _ => pg_name (i := 10) c__law_drawn_edits.nd rfl (Or.inl rfl)) (fun _ _ _ _ _ => pts_nil) (fun _ _ _ _ _ => (pe_ix (r := rIxL K) ix_list (pv 2) (pe_cl C__law_draw (hr.mono (by omega)) (by rfl) (pa_cons (pv 0) (pa_cons (pe_callB (r := Dl.rLen K) Dl.cr_len (by rfl) T.n_len (by decide +kernel) (pa_cons (pv 2) pa_nil)) pa_nil))) (fun _ _ => rfl)))) pa_nil)))
      (pss_cons (ps_if (PW.pt (pw_and (pt_cmpR (r := Dl.rEqU K) (Dl.op_eqU (hu64 hr)) (pv 7) (pv 8) (nomark _)) (pw_and1 (pt_cmpR (r := Dl.rEqU K) (Dl.op_eqU (hu64 hr)) (pe_callB (r := Dl.rLen K) Dl.cr_len (by rfl) T.n_len (by decide +kernel) (pa_cons (pv 9) pa_nil)) pe_int (nomark _))))) (pss_one (ps_set (i := 9) c__law_drawn_edits.nd rfl (Or.inl rfl) (pe_tup (pa_cons (pe_ix (r := rIxL K) ix_list (pv 2) pe_int (fun _ _ => rfl)) pa_nil)))) pss_nil)
      (pss_one (ps_if (pt_cmpR op_le (pv 8) (pe_callB (r := Dl.rLen K) Dl.cr_len (by rfl) T.n_len (by decide +kernel) (pa_cons (pv 1) pa_nil)) (nomark _)) (pss_cons (ps_expr (pe_bm PySem.F.plainAttrs_list PySem.F.slot_list_append PySem.F.type_list_append mt_append (pv 4) (pa_cons (pe_tup (pa_cons (pv 7) (pa_cons (pv 8) (pa_cons (pv 9) pa_nil)))) pa_nil)))
      (pss_one (ps_set (i := 5) c__law_drawn_edits.nd rfl (Or.inl rfl) (pe_op op_add (pv 8) pe_int)))) pss_nil)))))))
      (pss_one (ps_ret (pe_callTy (r := Dl.rTupleOf K) Dl.cr_tupleOf (by rfl) T.n_tuple (by decide +kernel) (pa_cons (pv 4) pa_nil))))))), ?_⟩
  apply entryM (O := fun i => i == 0 || i == 4) h
  (case ht => intro dy; walk_at "rf")
  (case h0 => rfl)
  (case hO => decide)

  rintro ds Qd hn ⟨td, base, pool, most, rfl, ht, hp, hpl, hpe, hbl, hm, k⟩
  walk_at "z"
  refine ⟨most, rfl, by omega, by omega, fun i E => ∃ (td : Dat) (l : List Edt) (p : Nat) (a b c d e : Option Dat), E = [some td, some (.tuple base), some (.list pool), some (.int most), some (.list (l.map Edt.d)), some (.int p), a, b, c, d, e] ∧ TapeD td ∧ l.length ≤ i ∧ EdR l ∧ (∀ x ∈ l, x.e < p) ∧ p ≤ 10 + base.length ∧ ∀ x ∈ l, x.e ≤ base.length ∧ (x.s = x.e → x.t ≠ []) ∧ x.t.length ≤ 3, ⟨td, [], 0, none, none, none, none, none, rfl, ht, Nat.zero_le _, ⟨.nil, fun _ h => absurd h List.not_mem_nil, fun _ h => absurd h List.not_mem_nil, Nat.zero_le _⟩, fun _ h => absurd h List.not_mem_nil, Nat.zero_le _, fun _ h => absurd h List.not_mem_nil⟩, ?_, ?_⟩
  · rintro i x E hi rfl ⟨td, l, p, a, b, c, d, e, rfl, ht, hll, R, hlp, hpb, hlb⟩
    have hi' : i < (most : Int).toNat := hi
    walk_at "z"
    refine z_draw ht (by decide) (by decide) fun r0 td1 l0 u0 ht1 => ?_
    walk_at "z"
    refine z_draw ht1 (by decide) (by decide) fun r1 td2 l1 u1 ht2 => ?_
    walk_at "z"
    refine z_ixI (fun m => 0 ≤ m ∧ m ≤ 3) l1 u1 ?_ fun m hm' => ?_
    · intro d hd
      simp only [List.mem_cons, List.not_mem_nil, or_false] at hd
      rcases hd with rfl | rfl | rfl | rfl | rfl
      all_goals exact ⟨_, rfl, by decide, by decide⟩
    walk_at "z"
    refine z_draw ht2 (by decide) (by decide) fun r2 td3 l2 u2 ht3 => ?_
    walk_at "z"
    refine ⟨r2, rfl, by omega, by omega, fun j acc E => ∃ td, E = [some td, some (.tuple base), some (.list pool), some (.int most), some (.list (l.map Edt.d)), some (.int p), some (.int i), some (.int (p + r0)), some (.int (p + r0 + m)), d, none] ∧ TapeD td ∧ acc.length = j ∧ ∀ x ∈ acc, ElD x, ⟨td3, rfl, ht3, rfl, fun _ h => absurd h List.not_mem_nil⟩, ?_, ?_⟩
    · rintro j x acc E hj rfl ⟨td, rfl, ht, hl, ha⟩
      have hj' : j < r2.toNat := hj
      walk_at "z"
      refine z_drawL ht hp (by omega) fun r td6 l6 u6 ht6 => ?_
      walk_at "z"
      refine z_ixA l6 u6 fun g hg => ?_
      exact ⟨szlt2 (by omega), _, rfl, ht6, by rw [List.length_append, hl]; rfl, all_app ha (all_one (hpe g hg))⟩
    rintro ins E ⟨td, rfl, ht, hil, hie⟩
    have hil' : ins.length = r2.toNat := hil
    obtain ⟨s, hs⟩ : ∃ s : Nat, (p : Int) + r0 = (s : Int) := ⟨(p + r0).toNat, by omega⟩
    obtain ⟨f, hf⟩ : ∃ f : Nat, (p : Int) + r0 + m = (f : Int) := ⟨(p + r0 + m).toNat, by omega⟩
    walk_at "zi"
    refine z_ifK (fun E => ∃ ins : List Dat, E = [some td, some (.tuple base), some (.list pool), some (.int most), some (.list (l.map Edt.d)), some (.int p), some (.int i), some (.int s), some (.int f), some (.tuple ins), none] ∧ ins.length ≤ 3 ∧ (∀ x ∈ ins, ElD x) ∧ (s = f → ins ≠ [])) ?_ ?_
    · rintro E ⟨ins, rfl, hl3, hie, hne⟩
      walk_at "z"
      refine w_ite (fun g => ?_) (fun g => ?_)
      · have hd : EdD ⟨s, f, ins⟩ := ⟨by show s ≤ _; omega, by show f ≤ _; omega, by show ins.length ≤ _; omega, hie⟩
        walk_at "z"
        refine ⟨_, rfl, szlt2 (by rw [List.length_map]; have := R.n; omega), ?_⟩
        walk_at "z"
        have pw : (l ++ [(⟨s, f, ins⟩ : Edt)]).Pairwise fun (a b : Edt) => a.e < b.s := List.pairwise_append.mpr ⟨R.a, List.pairwise_singleton _ _, fun a ha b hb => by
            rw [List.mem_singleton.mp hb]
            have := hlp a ha
            show a.e < s
            omega⟩
        exact ⟨td, l ++ [⟨s, f, ins⟩], f + 1, _, _, _, _, _, by rw [← map1]; rfl, ht, by rw [List.length_append]; exact Nat.succ_le_succ hll, ⟨pw, all_app R.o (all_one (by show s ≤ f; omega)), all_app R.d (all_one hd), by rw [List.length_append, List.length_singleton]; omega⟩, all_app (fun x hx => by have := hlp x hx; omega) (all_one (by show f < f + 1; omega)), by omega, all_app hlb (all_one ⟨by show f ≤ _; omega, hne, hl3⟩)⟩
      · walk_at "z"
        exact ⟨td, l, p, _, _, _, _, _, rfl, ht, by omega, R, hlp, hpb, hlb⟩
    · intro nx hnx
      have fin : ∀ ins' : List Dat, ins'.length ≤ 3 → (∀ x ∈ ins', ElD x) → (s = f → ins' ≠ []) → nx [some td, some (.tuple base), some (.list pool), some (.int most), some (.list (l.map Edt.d)), some (.int p), some (.int i), some (.int ((p : Int) + r0)), some (.int ((p : Int) + r0 + m)), some (.tuple ins'), none] := fun ins' h1 h2 h3 => by
        rw [hf, hs]
        exact hnx _ ⟨ins', rfl, h1, h2, h3⟩
      walk_at "z"
      refine w_ite (fun g => ?_) (fun g => ?_)
      · walk_at "z"
        refine w_ite (fun g2 => ?_) (fun g2 => ?_)
        · walk_at "z"
          have hp0 : 0 < pool.length := List.length_pos_iff.mpr hp
          refine ⟨_, _, _, rfl, rfl, atI_nat (j := 0) (List.getElem?_eq_getElem hp0), ?_⟩
          walk_at "z"
          exact fin [pool[0]] (by show 1 ≤ 3; decide) (all_one (hpe _ (List.getElem_mem hp0))) fun _ => List.cons_ne_nil _ _
        · walk_at "z"
          exact fin ins (by omega) hie fun _ => by
            intro z
            rw [z] at g2
            exact g2 rfl
      · walk_at "z"
        exact fin ins (by omega) hie fun z => absurd (by omega) g
  · rintro E ⟨td, l, p, a, b, c, d, e, rfl, ht, hll, R, hlp, hpb, hlb⟩
    have hll' : l.length ≤ (most : Int).toNat := hll
    walk_at "z"
    exact k l td R (by omega) hlb ht
/-! ### touching edits -/
def Touch (o t : Edt) : Prop := o.s ≤ t.e ∧ t.s ≤ o.e
def Clash (o t : Edt) : Prop := Touch o t ∧ o ≠ t
noncomputable def clB (o t : Edt) : Bool := @decide (Clash o t) (Classical.propDecidable _)
theorem clB_true {o t : Edt} (h : Clash o t) : clB o t = true := @decide_eq_true _ (Classical.propDecidable _) h
theorem clB_false {o t : Edt} (h : ¬ Clash o t) : clB o t = false := @decide_eq_false _ (Classical.propDecidable _) h
def prD (p : Nat × Nat) : Dat := .tuple [.int p.1, .int p.2]
noncomputable def rowE (o : Edt) (ts : List Edt) (i n : Nat) : List (Nat × Nat) := ((List.range n).filter fun j => clB o (ts.getD j ⟨0, 0, []⟩)).map fun j => (i, j)
noncomputable def upE (os ts : List Edt) (n : Nat) : List (Nat × Nat) := (List.range n).flatMap fun i => rowE (os.getD i ⟨0, 0, []⟩) ts i ts.length
noncomputable def pairsE (os ts : List Edt) : List (Nat × Nat) := upE os ts os.length
theorem getD_ed {l : List Edt} {i : Nat} (h : i < l.length) : l.getD i ⟨0, 0, []⟩ = l[i] := by rw [List.getD_eq_getElem?_getD, List.getElem?_eq_getElem h]; rfl
theorem rowE_zero (o : Edt) (ts : List Edt) (i : Nat) : rowE o ts i 0 = [] := rfl
theorem rowE_yes {o : Edt} {ts : List Edt} {i j : Nat} (hj : j < ts.length) (h : Clash o ts[j]) : rowE o ts i (j + 1) = rowE o ts i j ++ [(i, j)] := by
  unfold rowE
  rw [List.range_succ, List.filter_append, List.map_append]
  have : clB o (ts.getD j ⟨0, 0, []⟩) = true := by rw [getD_ed hj]; exact clB_true h
  simp only [List.filter_cons, this, List.filter_nil, if_true, List.map_cons, List.map_nil]
theorem rowE_no {o : Edt} {ts : List Edt} {i j : Nat} (hj : j < ts.length) (h : ¬ Clash o ts[j]) : rowE o ts i (j + 1) = rowE o ts i j := by
  unfold rowE
  rw [List.range_succ, List.filter_append, List.map_append]
  have : clB o (ts.getD j ⟨0, 0, []⟩) = false := by rw [getD_ed hj]; exact clB_false h
  simp only [List.filter_cons, this, List.filter_nil, Bool.false_eq_true, if_false, List.map_nil, List.append_nil]
theorem rowE_same {o : Edt} {ts : List Edt} {i j : Nat} : ∀ k, (∀ l (hl : l < ts.length), j ≤ l → l < j + k → ¬ Clash o ts[l]) → j + k ≤ ts.length → rowE o ts i (j + k) = rowE o ts i j
  | 0, _, _ => rfl
  | k + 1, h, hk => by
    rw [← Nat.add_assoc, rowE_no (by omega) (h (j + k) (by omega) (by omega) (by omega)), rowE_same k (fun l hl h1 h2 => h l hl h1 (by omega)) (by omega)]
theorem rowE_len (o : Edt) (ts : List Edt) (i n : Nat) : (rowE o ts i n).length ≤ n := by
  unfold rowE
  rw [List.length_map]
  have := List.length_filter_le (fun j => clB o (ts.getD j ⟨0, 0, []⟩)) (List.range n)
  rw [List.length_range] at this
  exact this
theorem upE_succ {os ts : List Edt} {i : Nat} (hi : i < os.length) : upE os ts (i + 1) = upE os ts i ++ rowE os[i] ts i ts.length := by
  unfold upE
  rw [List.range_succ, List.flatMap_append, ← getD_ed hi]
  simp only [List.flatMap_cons, List.flatMap_nil, List.append_nil]
theorem upE_len (os ts : List Edt) : ∀ n, (upE os ts n).length ≤ n * ts.length := fun n => by
  unfold upE
  have := flat_bound (m := ts.length) (fun i => rowE (os.getD i ⟨0, 0, []⟩) ts i ts.length) (List.range n) fun i _ => rowE_len _ _ _ _
  rw [List.length_range] at this
  exact this
theorem pairsE_nil {os ts : List Edt} (h : pairsE os ts = []) {o t : Edt} (ho : o ∈ os) (ht : t ∈ ts) (q : Touch o t) : o = t := by
  apply Classical.byContradiction
  intro ne
  obtain ⟨i, hi, rfl⟩ := List.getElem_of_mem ho
  obtain ⟨j, hj, rfl⟩ := List.getElem_of_mem ht
  have : (i, j) ∈ pairsE os ts := by
    unfold pairsE upE
    refine List.mem_flatMap.mpr ⟨i, List.mem_range.mpr hi, ?_⟩
    unfold rowE
    refine List.mem_map.mpr ⟨j, List.mem_filter.mpr ⟨List.mem_range.mpr hj, ?_⟩, rfl⟩
    rw [getD_ed hi, getD_ed hj]
    exact clB_true ⟨q, ne⟩
  rw [h] at this
  exact absurd this List.not_mem_nil
/-- two rows in order with the same members -/
theorem ed_uniq : ∀ {a b : List Edt}, a.Pairwise (fun x y => x.s < y.s) → b.Pairwise (fun x y => x.s < y.s) → (∀ x, x ∈ a ↔ x ∈ b) → a = b
  | [], [], _, _, _ => rfl
  | [], y :: b, _, _, h => absurd ((h y).mpr List.mem_cons_self) List.not_mem_nil
  | x :: a, [], _, _, h => absurd ((h x).mp List.mem_cons_self) List.not_mem_nil
  | x :: a, y :: b, ha, hb, h => by
    rw [List.pairwise_cons] at ha hb
    have e : x = y := by
      rcases List.mem_cons.mp ((h x).mp List.mem_cons_self) with z | z
      · exact z
      · rcases List.mem_cons.mp ((h y).mpr List.mem_cons_self) with q | q
        · exact q.symm
        · have := hb.1 x z
          have := ha.1 y q
          omega
    subst e
    rw [ed_uniq ha.2 hb.2 fun z => ?_]
    constructor
    · intro hz
      rcases List.mem_cons.mp ((h z).mp (List.mem_cons_of_mem _ hz)) with q | q
      · subst q
        exact absurd (ha.1 z hz) (Nat.lt_irrefl _)
      · exact q
    · intro hz
      rcases List.mem_cons.mp ((h z).mpr (List.mem_cons_of_mem _ hz)) with q | q
      · subst q
        exact absurd (hb.1 z hz) (Nat.lt_irrefl _)
      · exact q
def eLe (a b : Edt) : Bool := decide (a.s ≤ b.s)
theorem eLe_total : PySem.W.TotalLe eLe := ⟨fun a b c h1 h2 => decide_eq_true (by have := of_decide_eq_true h1; have := of_decide_eq_true h2; omega), fun a b => by
  by_cases h : a.s ≤ b.s
  · exact .inl (decide_eq_true h)
  · exact .inr (decide_eq_true (by omega))⟩
/-- the sorted row of edits without two of one start -/
theorem esort_asc {l : List Edt} (h : l.Pairwise fun a b => a.s ≠ b.s) : (l.mergeSort eLe).Pairwise fun a b => a.s < b.s := by
  have p := PySem.W.sort_pairwise eLe_total l
  have n : (l.mergeSort eLe).Pairwise fun a b => a.s ≠ b.s := (List.mergeSort_perm l eLe).pairwise_iff (fun h => h.symm) |>.mpr h
  exact (p.and n).imp fun {a b} h => by
    have := of_decide_eq_true h.1
    have := h.2
    omega
theorem esort_mem {l : List Edt} {x : Edt} : x ∈ l.mergeSort eLe ↔ x ∈ l := (List.mergeSort_perm l eLe).mem_iff
def fstE : Dat → Dat
  | .tuple (x :: _) => x
  | _ => .none
theorem esort_of (l : List Edt) : (l.map Edt.d).mergeSort (PySem.W.dataLe false fstE) = (l.mergeSort eLe).map Edt.d := (PySem.W.sort_maps (r := eLe) Edt.d fun a _ b _ => by
  show eLe a b = !PySem.W.dataLt (.int (b.s : Int)) (.int (a.s : Int))
  rw [PySem.W.dataLt_int, PySem.W.not_lt_int]
  exact dec_iff (by omega)).symm
theorem ekeys (l : List Edt) : Sk.KeysOk ((l.map Edt.d).map fstE) := by
  rw [List.map_map]
  exact keys_int (k := fun x : Edt => (x.s : Int))
def iLe (a b : Int) : Bool := decide (a ≤ b)
theorem iLe_total : PySem.W.TotalLe iLe := ⟨fun a b c h1 h2 => decide_eq_true (Int.le_trans (of_decide_eq_true h1) (of_decide_eq_true h2)), fun a b => by
  by_cases h : a ≤ b
  · exact .inl (decide_eq_true h)
  · exact .inr (decide_eq_true (by omega))⟩
theorem isort_of (l : List Int) : (l.map PyData.int).mergeSort (PySem.W.dataLe false id) = (l.mergeSort iLe).map .int := (PySem.W.sort_maps (r := iLe) PyData.int fun a _ b _ => by
  show iLe a b = !PySem.W.dataLt (.int b) (.int a)
  rw [PySem.W.dataLt_int, PySem.W.not_lt_int]
  rfl).symm
theorem ints_uniq : ∀ {a b : List Int}, a.Pairwise (· < ·) → b.Pairwise (· < ·) → (∀ x, x ∈ a ↔ x ∈ b) → a = b
  | [], [], _, _, _ => rfl
  | [], y :: b, _, _, h => absurd ((h y).mpr List.mem_cons_self) List.not_mem_nil
  | x :: a, [], _, _, h => absurd ((h x).mp List.mem_cons_self) List.not_mem_nil
  | x :: a, y :: b, ha, hb, h => by
    rw [List.pairwise_cons] at ha hb
    have e : x = y := by
      rcases List.mem_cons.mp ((h x).mp List.mem_cons_self) with z | z
      · exact z
      · rcases List.mem_cons.mp ((h y).mpr List.mem_cons_self) with q | q
        · exact q.symm
        · have := hb.1 x z
          have := ha.1 y q
          omega
    subst e
    rw [ints_uniq ha.2 hb.2 fun z => ?_]
    constructor
    · intro hz
      rcases List.mem_cons.mp ((h z).mp (List.mem_cons_of_mem _ hz)) with q | q
      · subst q
        exact absurd (ha.1 z hz) (Int.lt_irrefl _)
      · exact q
    · intro hz
      rcases List.mem_cons.mp ((h z).mpr (List.mem_cons_of_mem _ hz)) with q | q
      · subst q
        exact absurd (hb.1 z hz) (Int.lt_irrefl _)
      · exact q
theorem isort_asc {l : List Int} (h : l.Nodup) : (l.mergeSort iLe).Pairwise (· < ·) := by
  have p := PySem.W.sort_pairwise iLe_total l
  have n : (l.mergeSort iLe).Nodup := (List.mergeSort_perm l iLe).nodup_iff.mpr h
  exact (p.and n).imp fun {a b} h => by
    have := of_decide_eq_true h.1
    have := h.2
    omega
/-! ### edits that clash -/
def dClashes : DSp := fun ds Q => ∃ os ts : List Edt, ds = [.tuple (os.map Edt.d), .tuple (ts.map Edt.d)] ∧ EdR os ∧ EdR ts ∧ Q (.tuple ((pairsE os ts).map prD)) .none
theorem z_neEd {x y : Edt} {Q : Dat → Prop} (hx : EdD x) (hy : EdD y) (k : ∀ b : Bool, (b = true ↔ x ≠ y) → Q (.bool b)) : oNe x.d y.d Q := z_neP (ed_pk hx) (ed_pk hy) (ed_dep hx 1) (ed_dep hy 1) (by decide) (by decide) fun b hb => k b (hb.trans ⟨fun h z => h (by rw [z]), fun h z => h (ed_inj z)⟩)
theorem ed_at {ts : List Edt} {f : Nat} (h : f < ts.length) : L2.atI (ts.map Edt.d) (f : Int) = some (.tuple [.int ts[f].s, .int ts[f].e, .tuple ts[f].t]) := map_at Edt.d h
abbrev s_clashes : Stmt := top 11
theorem c_clashes : FnScope ["ours", "theirs", "found", "first", "i", "j", "start", "end", "inserted"] ["ours", "theirs"] (defScope s_clashes) := ⟨rfl, rfl, rfl, by decide +kernel, rfl, by decide +kernel, by decide +kernel⟩

theorem ok_clashes {f : Addr} {fd : FuncData} (F : Fun K "clashes" "clashes" s_clashes f fd) (T : Txt mg) : FnOk P w K mg base CX0 1 f fd ["ours", "theirs"] (spOf 2 none false dClashes) := by
  refine F.ok c_clashes (fun vs H Q E h => h.1) (fun cdv A outer s H vs Q E hr h => ?_)
  refine ⟨_, (pss_cons (ps_set (i := 2) c_clashes.nd rfl (Or.inl rfl) (pe_lst pa_nil))
      (pss_cons (ps_set (i := 3) c_clashes.nd rfl (Or.inl rfl) pe_int)
      (pss_cons (ps_for PassesOwn.never rfl (En.pi_enumT (by rfl) T.n_enumerate (pa_cons (pv 0) pa_nil)) (pg_tup rfl (pgs_cons (pg_name (i := 4) c_clashes.nd rfl (Or.inl rfl)) (pgs_cons (pg_tup rfl (pgs_cons (pg_name (i := 6) c_clashes.nd rfl (Or.inl rfl)) (pgs_cons (pg_name (i := 7) c_clashes.nd rfl (Or.inl rfl)) (pgs_cons (pg_name (i := 8) c_clashes.nd rfl (Or.inl rfl)) pgs_nil)))) pgs_nil))) (pss_cons (ps_while PassesOwn.never (PW.pt (pw_and (pt_cmpR op_lt (pv 3) (pe_callB (r := Dl.rLen K) Dl.cr_len (by rfl) T.n_len (by decide +kernel) (pa_cons (pv 1) pa_nil)) (nomark _)) (pw_and1 (pt_cmpR op_lt (pe_ix (r := rIxT K) ix_tup (pe_ix (r := rIxT K) ix_tup (pv 1) (pv 3) (fun _ _ => rfl)) pe_int (fun _ _ => rfl)) (pv 6) (nomark _))))) (pss_one (ps_aug (i := 3) c_clashes.nd rfl (Or.inl rfl) pe_int ip_add)))
      (pss_cons (ps_set (i := 5) c_clashes.nd rfl (Or.inl rfl) (pv 3))
      (pss_one (ps_while PassesOwn.never (PW.pt (pw_and (pt_cmpR op_lt (pv 5) (pe_callB (r := Dl.rLen K) Dl.cr_len (by rfl) T.n_len (by decide +kernel) (pa_cons (pv 1) pa_nil)) (nomark _)) (pw_and1 (pt_cmpR op_le (pe_ix (r := rIxT K) ix_tup (pe_ix (r := rIxT K) ix_tup (pv 1) (pv 5) (fun _ _ => rfl)) pe_int (fun _ _ => rfl)) (pv 7) (nomark _))))) (pss_cons (ps_if (pt_cmpR (r := Dl.rNeU K) (Dl.op_neU (hu64 hr)) (pe_ix (r := rIxT K) ix_tup (pv 1) (pv 5) (fun _ _ => rfl)) (pe_tup (pa_cons (pv 6) (pa_cons (pv 7) (pa_cons (pv 8) pa_nil)))) (nomark _)) (pss_one (ps_expr (pe_bm PySem.F.plainAttrs_list PySem.F.slot_list_append PySem.F.type_list_append mt_append (pv 2) (pa_cons (pe_tup (pa_cons (pv 4) (pa_cons (pv 5) pa_nil))) pa_nil)))) pss_nil)
      (pss_one (ps_aug (i := 5) c_clashes.nd rfl (Or.inl rfl) pe_int ip_add))))))))
      (pss_one (ps_ret (pe_callTy (r := Dl.rTupleOf K) Dl.cr_tupleOf (by rfl) T.n_tuple (by decide +kernel) (pa_cons (pv 2) pa_nil))))))), ?_⟩
  apply entry0 (O := fun i => i == 2) h
  (case ht => intro dy; walk_at "rf")
  (case hO => decide)

  rintro ds Qd hn ⟨os, ts, rfl, O, R, k⟩
  have on := O.n
  have tn := R.n
  walk_at "z"
  refine ⟨_, rfl, fun i E => ∃ (f : Nat) (a b c d e : Option Dat), E = [some (.tuple (os.map Edt.d)), some (.tuple (ts.map Edt.d)), some (.list ((upE os ts i).map prD)), some (.int f), a, b, c, d, e] ∧ f ≤ ts.length ∧ ∀ j (hj : j < ts.length), j < f → ∀ l (hl : l < os.length), i ≤ l → ts[j].e < os[l].s, ⟨0, none, none, none, none, none, rfl, Nat.zero_le _, fun j hj z => absurd z (Nat.not_lt_zero _)⟩, ?_, ?_⟩
  · rintro i x E hi ⟨d0, hd, rfl⟩ ⟨f, a, b, c, d, e, rfl, hf, hfe⟩
    obtain ⟨hi', rfl⟩ := map_get hd
    have hup := upE_len os ts i
    have hup2 : i * ts.length ≤ 100 * 100 := Nat.mul_le_mul (by omega) tn
    have hw := O.le hi'
    rw [show os[i].d = PyData.tuple [.int os[i].s, .int os[i].e, .tuple os[i].t] from rfl]
    walk_at "zw"
    refine z_whileK (fun E => ∃ f : Nat, E = [some (.tuple (os.map Edt.d)), some (.tuple (ts.map Edt.d)), some (.list ((upE os ts i).map prD)), some (.int f), some (.int i), b, some (.int os[i].s), some (.int os[i].e), some (.tuple os[i].t)] ∧ f ≤ ts.length ∧ (∀ j (hj : j < ts.length), j < f → ts[j].e < os[i].s) ∧ (¬ f < ts.length ∨ ∃ h : f < ts.length, os[i].s ≤ ts[f].e)) ?_ ?_
    · clear hf hfe f
      rintro E ⟨f, rfl, hf, hfe, h⟩
      have go : ∀ (j : Nat), f ≤ j → (hj : j < ts.length) → os[i].s ≤ ts[j].e := fun j hfj hj => by
        rcases h with h | ⟨h, hh⟩
        · omega
        · exact Nat.le_trans hh (R.es hfj hj)
      have base : rowE os[i] ts i f = [] := by
        have := rowE_same (o := os[i]) (ts := ts) (i := i) (j := 0) f (fun l hl _ h z => by
          have := hfe l hl (by omega)
          have := z.1.1
          omega) (by omega)
        rw [Nat.zero_add] at this
        rw [this]
        rfl
      walk_at "z"
      refine ⟨fun m E => ∃ j : Nat, E = [some (.tuple (os.map Edt.d)), some (.tuple (ts.map Edt.d)), some (.list ((upE os ts i ++ rowE os[i] ts i j).map prD)), some (.int f), some (.int i), some (.int j), some (.int os[i].s), some (.int os[i].e), some (.tuple os[i].t)] ∧ j + m = ts.length ∧ f ≤ j, ⟨ts.length - f, f, by rw [base, List.append_nil]; rfl, by omega, Nat.le_refl _⟩, ?_⟩
      rintro m E ⟨j, rfl, hm, hfj⟩
      have fin : rowE os[i] ts i ts.length = rowE os[i] ts i j → ∃ (f' : Nat) (a b c d e : Option Dat), [some (PyData.tuple (os.map Edt.d)), some (PyData.tuple (ts.map Edt.d)), some (PyData.list ((upE os ts i ++ rowE os[i] ts i j).map prD)), some (PyData.int f), some (PyData.int i), some (PyData.int j), some (PyData.int os[i].s), some (PyData.int os[i].e), some (PyData.tuple os[i].t)] = [some (.tuple (os.map Edt.d)), some (.tuple (ts.map Edt.d)), some (.list ((upE os ts (i + 1)).map prD)), some (.int f'), a, b, c, d, e] ∧ f' ≤ ts.length ∧ ∀ j (hj : j < ts.length), j < f' → ∀ l (hl : l < os.length), i + 1 ≤ l → ts[j].e < os[l].s := fun e => by
        refine ⟨f, _, _, _, _, _, by rw [upE_succ hi', e], hf, fun j hj hjf l hl hil => ?_⟩
        have h1 := hfe j hj hjf
        have h2 := O.lt (i := i) (j := l) (by omega) hl
        omega
      have same : (∀ l (hl : l < ts.length), j ≤ l → ¬ Clash os[i] ts[l]) → rowE os[i] ts i ts.length = rowE os[i] ts i j := fun q => by
        rw [show ts.length = j + (ts.length - j) by omega]
        exact rowE_same _ (fun l hl h1 _ => q l hl h1) (by omega)
      walk_at "z"
      rw [List.length_map]
      by_cases g : j < ts.length
      · rw [decide_eq_true (by omega : (j : Int) < (ts.length : Int))]
        have hrl := rowE_len os[i] ts i j
        walk_at "z"
        refine ⟨_, _, _, rfl, rfl, ed_at g, ?_⟩
        walk_at "z"
        by_cases g2 : ts[j].s ≤ os[i].e
        · rw [decide_eq_true (by omega : (ts[j].s : Int) ≤ (os[i].e : Int))]
          have tch : Touch os[i] ts[j] := ⟨go j hfj g, g2⟩
          walk_at "z"
          refine ⟨_, _, _, rfl, rfl, map_at Edt.d g, ?_⟩
          walk_at "z"
          refine z_neEd (y := os[i]) (R.d _ (List.getElem_mem g)) (O.d _ (List.getElem_mem hi')) fun q hq => ?_
          cases q with
          | true =>
            have cl : Clash os[i] ts[j] := ⟨tch, fun z => hq.mp rfl z.symm⟩
            walk_at "z"
            refine ⟨_, rfl, szlt2 (by rw [List.length_map, List.length_append]; omega), ?_⟩
            walk_at "z"
            refine ⟨m - 1, by omega, j + 1, ?_, by omega, by omega⟩
            rw [rowE_yes g cl, ← List.append_assoc, ← map1]
            rfl
          | false =>
            have cl : ¬ Clash os[i] ts[j] := fun z => Bool.false_ne_true (hq.mpr fun w => z.2 w.symm)
            walk_at "z"
            refine ⟨m - 1, by omega, j + 1, ?_, by omega, by omega⟩
            rw [rowE_no g cl]
            rfl
        · rw [decide_eq_false (by omega : ¬ (ts[j].s : Int) ≤ (os[i].e : Int))]
          walk_at "z"
          obtain ⟨f1, a1, b1, c1, d1, e1, h1, h2, h3⟩ := fin (same fun l hl h1 z => by
            have := R.ss h1 hl
            have := z.1.2
            omega)
          exact ⟨f1, a1, b1, c1, d1, e1, h1, h2, h3⟩
      · rw [decide_eq_false (by omega : ¬ (j : Int) < (ts.length : Int))]
        walk_at "z"
        obtain ⟨f1, a1, b1, c1, d1, e1, h1, h2, h3⟩ := fin (same fun l hl h1 z => by omega)
        exact ⟨f1, a1, b1, c1, d1, e1, h1, h2, h3⟩
    · intro nx hnx
      walk_at "z"
      refine ⟨fun m E => ∃ f : Nat, E = [some (.tuple (os.map Edt.d)), some (.tuple (ts.map Edt.d)), some (.list ((upE os ts i).map prD)), some (.int f), some (.int i), b, some (.int os[i].s), some (.int os[i].e), some (.tuple os[i].t)] ∧ f + m = ts.length ∧ ∀ j (hj : j < ts.length), j < f → ts[j].e < os[i].s, ⟨ts.length - f, f, rfl, by omega, fun j hj hjf => hfe j hj hjf i hi' (Nat.le_refl _)⟩, ?_⟩
      clear hf hfe f
      rintro m E ⟨f, rfl, hm, hfe⟩
      walk_at "z"
      rw [List.length_map]
      by_cases g : f < ts.length
      · rw [decide_eq_true (by omega : (f : Int) < (ts.length : Int))]
        walk_at "z"
        refine ⟨_, _, _, rfl, rfl, ed_at g, ?_⟩
        walk_at "z"
        by_cases g2 : ts[f].e < os[i].s
        · rw [decide_eq_true (by omega : (ts[f].e : Int) < (os[i].s : Int))]
          walk_at "z"
          refine ⟨m - 1, by omega, f + 1, rfl, by omega, fun j hj hjf => ?_⟩
          rcases Nat.lt_succ_iff_lt_or_eq.mp hjf with z | rfl
          · exact hfe j hj z
          · exact g2
        · rw [decide_eq_false (by omega : ¬ (ts[f].e : Int) < (os[i].s : Int))]
          walk_at "z"
          exact hnx _ ⟨f, rfl, by omega, hfe, .inr ⟨g, by omega⟩⟩
      · rw [decide_eq_false (by omega : ¬ (f : Int) < (ts.length : Int))]
        walk_at "z"
        exact hnx _ ⟨f, rfl, by omega, hfe, .inl g⟩
  · rintro E ⟨f, a, b, c, d, e, rfl, hf, hfe⟩
    walk_at "z"
    have e : DIt.n ⟨(os.map Edt.d).length, fun k x => ∃ d, (os.map Edt.d)[k]? = some d ∧ x = .tuple [.int (k : Int), d]⟩ = os.length := List.length_map _
    rw [e]
    exact k
/-! ### merged edits -/
structure Mer (os ts R : List Edt) : Prop where
  a : R.Pairwise fun x y => x.s < y.s
  m : ∀ x, x ∈ R ↔ x ∈ os ∨ x ∈ ts
def dMer : DSp := fun ds Q => ∃ os ts : List Edt, ds = [.tuple (os.map Edt.d), .tuple (ts.map Edt.d)] ∧ EdR os ∧ EdR ts ∧ (pairsE os ts ≠ [] → Q .none .none) ∧ (pairsE os ts = [] → ∀ R, Mer os ts R → Q (.tuple (R.map Edt.d)) .none)
theorem start_eq {os ts : List Edt} (O : EdR os) (R : EdR ts) (h : pairsE os ts = []) {x y : Edt} (hx : x ∈ os ∨ x ∈ ts) (hy : y ∈ os ∨ y ∈ ts) (e : x.s = y.s) : x = y := by
  have same : ∀ {l : List Edt}, EdR l → x ∈ l → y ∈ l → x = y := fun {l} L h1 h2 => by
    obtain ⟨i, hi, rfl⟩ := List.getElem_of_mem h1
    obtain ⟨j, hj, rfl⟩ := List.getElem_of_mem h2
    rcases Nat.lt_trichotomy i j with z | z | z
    · have := List.pairwise_iff_getElem.mp L.asc i j hi hj z
      omega
    · subst z
      rfl
    · have := List.pairwise_iff_getElem.mp L.asc j i hj hi z
      omega
  rcases hx with hx | hx <;> rcases hy with hy | hy
  · exact same O hx hy
  · have := O.o x hx
    have := R.o y hy
    exact pairsE_nil h hx hy ⟨by omega, by omega⟩
  · have := R.o x hx
    have := O.o y hy
    exact (pairsE_nil h hy hx ⟨by omega, by omega⟩).symm
  · exact same R hx hy
noncomputable def outB (os : List Edt) (x : Edt) : Bool := !@decide (x ∈ os) (Classical.propDecidable _)
noncomputable def restE (os ts : List Edt) : List Edt := ts.filter (outB os)
theorem rest_mem {os ts : List Edt} {x : Edt} : x ∈ restE os ts ↔ x ∈ ts ∧ x ∉ os := by
  unfold restE
  rw [List.mem_filter]
  unfold outB
  rw [Bool.not_eq_true']
  exact and_congr_right fun _ => @decide_eq_false_iff_not _ (Classical.propDecidable _)
theorem rest_ne {os ts : List Edt} (O : EdR os) (R : EdR ts) (h : pairsE os ts = []) : (os ++ restE os ts).Pairwise fun a b => a.s ≠ b.s := by
  refine List.pairwise_append.mpr ⟨O.asc.imp fun h => Nat.ne_of_lt h, (R.asc.imp fun h => Nat.ne_of_lt h).sublist List.filter_sublist, fun a ha b hb e => ?_⟩
  have := rest_mem.mp hb
  exact this.2 (start_eq O R h (.inl ha) (.inr this.1) e ▸ ha)
theorem mer_rest {os ts : List Edt} (O : EdR os) (R : EdR ts) (h : pairsE os ts = []) : Mer os ts ((os ++ restE os ts).mergeSort eLe) := by
  refine ⟨esort_asc (rest_ne O R h), fun x => ?_⟩
  rw [esort_mem, List.mem_append, rest_mem]
  constructor
  · rintro (h | h)
    · exact .inl h
    · exact .inr h.1
  · rintro (h | h)
    · exact .inl h
    · by_cases q : x ∈ os
      · exact .inl q
      · exact .inr ⟨h, q⟩
/-- what the dict has after some of the edits -/
structure DicE (l : List Edt) (m : List (Key × Dat)) : Prop where
  n : (m.map fun r => r.1).Nodup
  v : ∀ x ∈ l, valD m (.inl x.s) = some x.d
  k : ∀ r ∈ m, ∃ x ∈ l, r.1 = .inl (x.s : Int)
theorem fn_some {m : List (Key × Dat)} {k : Key} {d : Dat} (h : valD m k = some d) : fn m k = d := by
  unfold fn
  rw [h]
  rfl
theorem valD_fn {m : List (Key × Dat)} {k : Key} {x : Edt} (h : fn m k = x.d) : valD m k = some x.d := by
  unfold fn at h
  cases e : valD m k with
  | none => rw [e] at h; cases h
  | some d => rw [e] at h; rw [show d = x.d from h]
theorem dice_put {l : List Edt} {m : List (Key × Dat)} {x : Edt} (h : DicE l m) (u : ∀ y ∈ l, y.s = x.s → y = x) : DicE (l ++ [x]) (putD m (.inl (x.s : Int)) x.d) := by
  refine ⟨kn_put h.n _ _, fun y hy => valD_fn ?_, fun r hr => ?_⟩
  · rw [fn_put]
    rcases List.mem_append.mp hy with hy | hy
    · by_cases e : y.s = x.s
      · rw [u y hy e, if_pos rfl]
      · rw [if_neg (show ¬ (Sum.inl (y.s : Int) : Key) = Sum.inl (x.s : Int) from fun z => e (Int.ofNat.inj (Sum.inl.inj z)))]
        exact fn_some (h.v y hy)
    · rw [List.mem_singleton.mp hy, if_pos rfl]
  · exact put_ks (P := fun k => ∃ y ∈ l ++ [x], k = .inl (y.s : Int)) (fun r hr => by
      obtain ⟨y, hy, e⟩ := h.k r hr
      exact ⟨y, List.mem_append_left _ hy, e⟩) ⟨x, List.mem_append_right _ List.mem_cons_self, rfl⟩ r hr
def kI : Key → Int
  | .inl i => i
  | .inr _ => 0
theorem dice_keys {l : List Edt} {m : List (Key × Dat)} (h : DicE l m) : (m.map fun p => kD p.1) = (m.map fun p => kI p.1).map .int := by
  rw [List.map_map]
  refine List.map_congr_left fun r hr => ?_
  obtain ⟨x, _, e⟩ := h.k r hr
  show kD r.1 = PyData.int (kI r.1)
  rw [e]
  rfl
theorem dice_sort {l R : List Edt} {m : List (Key × Dat)} (h : DicE l m) (ha : R.Pairwise fun x y => x.s < y.s) (hm : ∀ x, x ∈ R ↔ x ∈ l) : (m.map fun p => kI p.1).mergeSort iLe = R.map fun x => (x.s : Int) := by
  have nd : (m.map fun p => kI p.1).Nodup := by
    have : (m.map fun p => kI p.1) = (m.map fun r => r.1).map kI := by rw [List.map_map]; rfl
    rw [this]
    refine List.Pairwise.map _ (R := fun a b => a ≠ b ∧ a ∈ (m.map fun r => r.1) ∧ b ∈ (m.map fun r => r.1)) (fun a b hab z => ?_) ?_
    · obtain ⟨ne, h1, h2⟩ := hab
      obtain ⟨r, hr, rfl⟩ := List.mem_map.mp h1
      obtain ⟨q, hq, rfl⟩ := List.mem_map.mp h2
      obtain ⟨x, _, e1⟩ := h.k r hr
      obtain ⟨y, _, e2⟩ := h.k q hq
      rw [e1, e2] at z ne
      exact ne (congrArg _ z)
    · exact (List.Pairwise.and_mem.mp h.n).imp fun {a b} hab => ⟨hab.2.2, hab.1, hab.2.1⟩
  refine ints_uniq (isort_asc nd) (by rw [List.pairwise_map]; exact ha.imp fun {a b} h => by omega) fun i => ?_
  rw [(List.mergeSort_perm _ _).mem_iff, List.mem_map, List.mem_map]
  constructor
  · rintro ⟨r, hr, rfl⟩
    obtain ⟨x, hx, e⟩ := h.k r hr
    exact ⟨x, (hm x).mpr hx, by rw [e]; rfl⟩
  · rintro ⟨x, hx, rfl⟩
    exact ⟨_, valD_mem (h.v x ((hm x).mp hx)), rfl⟩
theorem z_sortKeys {l R : List Edt} {m : List (Key × Dat)} {Q : Dat → Prop} (h : DicE l m) (ha : R.Pairwise fun x y => x.s < y.s) (hm : ∀ x, x ∈ R ↔ x ∈ l) (k : Q (.list (R.map fun x => .int (x.s : Int)))) : oSortP [dicD m] Q := by
  refine ⟨dicD m, (m.map fun p => kD p.1), rfl, .inr (.inr ⟨m, rfl, rfl⟩), ?_, ?_, ?_⟩
  · rw [dice_keys h]
    have : ∀ l : List Int, PyData.canLayAll0 (l.map .int) = true := fun l => by
      induction l with
      | nil => rfl
      | cons a l ih =>
        show (PyData.canLay0 (.int a) && PyData.canLayAll0 (l.map .int)) = true
        rw [ih]
        rfl
    exact this _
  · rw [dice_keys h]
    exact keys_int (k := fun i : Int => i)
  · rw [dice_keys h, isort_of, dice_sort h ha hm, List.map_map]
    exact k
abbrev s_merged_edits : Stmt := top 12
theorem c_merged_edits : FnScope ["ours", "theirs", "found", "edit", "start"] ["ours", "theirs"] (defScope s_merged_edits) := ⟨rfl, rfl, rfl, by decide +kernel, rfl, by decide +kernel, by decide +kernel⟩

theorem ok_merged_edits {f : Addr} {fd : FuncData} (F : Fun K "merged_edits" "merged_edits" s_merged_edits f fd) (T : Txt mg) (C_clashes : Cl P w K mg base 1 "clashes" ["ours", "theirs"] (spOf 2 none false dClashes)) : FnOk P w K mg base CX0 2 f fd ["ours", "theirs"] (spOf 2 none false dMer) := by
  refine F.ok c_merged_edits (fun vs H Q E h => h.1) (fun cdv A outer s H vs Q E hr h => ?_)
  refine ⟨_, (pss_cons (ps_if (Dl.pt_tru (pe_cl C_clashes (hr.mono (by omega)) (by rfl) (pa_cons (pv 0) (pa_cons (pv 1) pa_nil))) (by intro _; rfl)) (pss_one (ps_ret pe_non)) pss_nil)
      (pss_cons (ps_set (i := 2) c_merged_edits.nd rfl (Or.inr rfl) (pe_dc (own := [("edit", 3)]) (by rfl) c_merged_edits.nd (pi_tup (pe_op (r := rCatA K) op_catA (pv 0) (pv 1))) (blkOk_by (own := [("edit", 3)]) (N := ["ours", "theirs", "found", "edit", "start"]) (sc := defScope s_merged_edits) (by decide +kernel)) (fun _ _ _ _ _ => pg_name (i := 3) c_merged_edits.nd rfl (Or.inl rfl)) (fun _ _ _ _ _ => pts_nil) (fun _ _ _ _ _ => (pe_ix (r := rIxT K) ix_tup (pv 3) pe_int (fun _ _ => rfl))) (fun _ _ _ _ _ => (pv 3))))
      (pss_one (ps_ret (pe_callTy (r := Dl.rTupleOf K) Dl.cr_tupleOf (by rfl) T.n_tuple (by decide +kernel) (pa_cons (pe_lc (own := [("start", 4)]) (by rfl) c_merged_edits.nd (pi_list (pe_callB (r := Sk.rSortP K) (Sk.cr_sortP hr) (by rfl) T.n_sorted (by decide +kernel) (pa_cons (pv 2) pa_nil))) (blkOk_by (own := [("start", 4)]) (N := ["ours", "theirs", "found", "edit", "start"]) (sc := defScope s_merged_edits) (by decide +kernel)) (fun _ _ _ _ _ => pg_name (i := 4) c_merged_edits.nd rfl (Or.inl rfl)) (fun _ _ _ _ _ => pts_nil) (fun _ _ _ _ _ => (pe_dget (hu_of hr) (pv 2) (pv 4) (fun _ _ => rfl)))) pa_nil)))))), ?_⟩
  apply entry0 (O := fun _ => false) h
  (case ht => intro dy; walk_at "rf")
  (case hO => decide)

  rintro ds Qd hn ⟨os, ts, rfl, O, R, k1, k2⟩
  have on := O.n
  have tn := R.n
  walk_at "z"
  refine ⟨os, ts, rfl, O, R, ?_⟩
  by_cases hp : pairsE os ts = []
  · have k2 := k2 hp
    rw [hp]
    walk_at "z"
    rw [show (!(List.map prD ([] : List (Nat × Nat))).isEmpty) = false from rfl]
    walk_at "z"
    rw [← List.map_append]
    refine ⟨_, rfl, ?_⟩
    have hU : ∀ x y, x ∈ os ++ ts → y ∈ os ++ ts → x.s = y.s → x = y := fun x y hx hy => start_eq O R hp (List.mem_append.mp hx) (List.mem_append.mp hy)
    refine ⟨fun i acc E => E = [some (.tuple (os.map Edt.d)), some (.tuple (ts.map Edt.d)), none, none, none] ∧ DicE ((os ++ ts).take i) acc ∧ acc.length ≤ i, ⟨rfl, ⟨List.nodup_nil, fun x hx => absurd hx List.not_mem_nil, fun x hx => absurd hx List.not_mem_nil⟩, Nat.le_refl _⟩, ?_, ?_⟩
    · rintro i x acc E hi hx ⟨rfl, hD, hal⟩
      obtain ⟨hi', rfl⟩ := map_get hx
      rw [show (os ++ ts)[i].d = PyData.tuple [.int (os ++ ts)[i].s, .int (os ++ ts)[i].e, .tuple (os ++ ts)[i].t] from rfl]
      walk_at "z"
      refine ⟨.inl (((os ++ ts)[i].s : Nat) : Int), rfl, szlt2 (by rw [List.length_append] at hi'; omega), rfl, ?_, Nat.le_trans (put_len _ _ _) (Nat.succ_le_succ hal)⟩
      rw [List.take_succ, List.getElem?_eq_getElem hi']
      exact dice_put hD fun y hy e => hU y _ (List.mem_of_mem_take hy) (List.getElem_mem hi') e
    · rintro acc' E ⟨rfl, hD, hal⟩
      have e : (os ++ ts).take (DIt.n ⟨((os ++ ts).map Edt.d).length, fun k x => ((os ++ ts).map Edt.d)[k]? = some x⟩) = os ++ ts := take_all
      rw [e] at hD
      have hM := mer_rest O R hp
      have ml : ((os ++ restE os ts).mergeSort eLe).length ≤ 1000 := by
        rw [List.length_mergeSort, List.length_append]
        have : (restE os ts).length ≤ ts.length := List.length_filter_le _ _
        omega
      generalize (os ++ restE os ts).mergeSort eLe = M at hM ml
      have hm : ∀ x, x ∈ M ↔ x ∈ os ++ ts := fun x => (hM.m x).trans List.mem_append.symm
      walk_at "z"
      refine z_sortKeys hD hM.a hm ?_
      refine ⟨_, rfl, fun i acc E => E = [some (.tuple (os.map Edt.d)), some (.tuple (ts.map Edt.d)), some (dicD acc'), none, none] ∧ acc = (M.take i).map Edt.d, ⟨rfl, rfl⟩, ?_, ?_⟩
      · rintro i x acc E hi hx ⟨rfl, rfl⟩
        obtain ⟨hi', rfl⟩ := map_get hx
        walk_at "z"
        refine ⟨.inl ((M[i].s : Nat) : Int), acc', M[i].d, rfl, rfl, hD.v _ ((hm _).mp (List.getElem_mem hi')), ?_⟩
        exact ⟨szlt2 (by rw [List.length_map, List.length_take]; omega), rfl, (map_snoc _ hi').symm⟩
      · rintro acc E ⟨rfl, rfl⟩
        rw [take_all]
        walk_at "z"
        exact k2 M hM
  · have k1 := k1 hp
    walk_at "z"
    rw [show (!(List.map prD (pairsE os ts)).isEmpty) = true by cases e : pairsE os ts with | nil => exact absurd e hp | cons a l => rfl]
    walk_at "z"
    exact k1
/-- the law, when it meets objects -/
theorem entry_law2 {S : Sx} {k : Nat} {u : TS} {d : Gl.DS2} {N : List Str} {vs : List V} {H : Hp} {Q : VK} {E : XK} (h : spLaw K vs H Q E) (h0 : S.O 0 = false) (h1 : S.O 1 = true) (hM : S.M = some 1) (hfr : S.fr = false) (hu : ∀ dy Z, Gl.RfS2 S dy Z u d) (hN : N.length = k)
    (hd : ∀ td, TapeD td → d ⟨fun _ _ => False, fun r _ _ => r = .bool true, fun _ _ => False, fun _ _ => False⟩ (none :: some td :: List.replicate (k - 2) none) (fun _ => none)) (hk : 2 ≤ k := by decide) (h2 : S.M2 = none := by rfl) :
    (tSeq (tAsg (tCall (spTape K) [] E0 (tCons (tVar 0) tNil)) (gName 1)) u) { nx := fun _ H' => Q .non H', rt := Q } (L2.start N vs) H := by
  obtain ⟨a, ns, rfl, hS, _, kq⟩ := h
  obtain ⟨n, rfl⟩ : ∃ n, k = n + 2 := ⟨k - 2, by omega⟩
  have es : L2.start N [.ref a] = some (.ref a) :: none :: List.replicate n none := by
    unfold L2.start
    rw [hN]
    rfl
  rw [es]
  refine ⟨.ref a, rfl, a, ns, rfl, hS, fun t l H' s T => ?_⟩
  have lt : l ≠ t := by
    obtain ⟨_, _, _, _, _, _, h, _⟩ := T.ex
    exact h
  obtain ⟨td, ht, oc⟩ := own_of (N0 := fun b => b = t) T lt
  have pn : ∀ b, (fun b => b = t) b → (fun b => b = t) b := fun b h => h
  let G0 : Gl.GS := fun _ => none
  have gn : ∀ b, G0 b ≠ none → (fun b => b = t) b ∧ ¬ (fun b => b = t) b := fun b h => absurd rfl h
  have unN : ∀ b, Nn (Gl.cG ⟨Gl.dyG H' (fun b => b = t) (fun b => b = t) G0 pn gn, S⟩ G0) (fun b => b = t) b → b = t := fun b z => by
    rcases z with (z | z) | z
    · exact z
    · exact absurd rfl z
    · exact z
  refine hu (Gl.dyG H' (fun b => b = t) (fun b => b = t) G0 pn gn) ⟨fun b => b = t, H', G0⟩ (fun b z => by
    have z' : b = t := z
    rw [z']
    exact ld_some oc.ld) (fun b => b = t) H' _ (none :: some td :: List.replicate n none) G0 _ _ ⟨⟨fun b o _ e => e, fun b w => .inl (.inl w), fun b z => (unN b z) ▸ oc.ld, fun i e he => ?_, fun i j d1 d2 v oi oj nij g1 g2 g3 => ?_, ?_, ⟨fun b _ n _ => absurd trivial n, fun b n => n, fun _ _ => .inl trivial⟩⟩, fun a o h => (by cases h), fun a h => absurd rfl h, fun a h => absurd rfl h, fun _ => trivial, Gl.Gg.refl _ _ _⟩ (hd td ht) ⟨fun _ _ _ _ _ _ _ z => z.elim, fun W' H2 σ E G' v r R g ro z => ?_, fun _ _ _ _ _ _ _ z => z.elim, fun _ _ _ _ _ _ _ z => z.elim⟩
  · match i, he with
    | 1, he =>
      cases he
      refine ⟨.ref t, rfl, ?_⟩
      unfold SlotOk
      rw [if_pos (show (Gl.cG ⟨Gl.dyG H' (fun b => b = t) (fun b => b = t) G0 pn gn, S⟩ G0).O 1 = true from h1)]
      exact ⟨t, rfl, rfl, oc.keep (Kp.sub unN) rfl, fun z => absurd hM z, fun _ => rfl, fun z => by have z : S.M2 = some 1 := z; rw [h2] at z; cases z⟩
    | i + 2, he =>
      rw [show (none :: some td :: List.replicate n none : DEnv)[i + 2]? = (List.replicate n none : DEnv)[i]? from rfl, List.getElem?_replicate] at he
      split at he <;> cases he
  · have one : ∀ {i : Nat} {e : Dat}, (none :: some td :: List.replicate n none : DEnv)[i]? = some (some e) → i = 1 := fun {i e} he => by
      match i, he with
      | 1, _ => rfl
      | i + 2, he =>
        rw [show (none :: some td :: List.replicate n none : DEnv)[i + 2]? = (List.replicate n none : DEnv)[i]? from rfl, List.getElem?_replicate] at he
        split at he <;> cases he
    exact absurd ((one g1).trans (one g2).symm) nij
  · rw [List.length_set]
    simp only [List.length_cons, List.length_replicate]
  · subst z
    unfold Gl.Rt2 at ro
    cases ro
    exact kq H2
/-- a def that meets objects of its own, taken as one that meets none -/
theorem pure_G {n : Nat} {sp : DSp} {vs : List V} {H : Hp} {Q : VK} {E : XK} (h : spOf n none false sp vs H Q E) : Gl.spG n none (fun ds G Q' => (∀ a, G a = none) ∧ sp ds fun r o => ∀ G', Q' r o G') vs H Q E := by
  obtain ⟨hn, ds, N0, P, ld, pn, ar, Qd, hs, k⟩ := h
  refine ⟨hn, ds, N0, P, fun _ => none, ⟨ld, pn, fun b h => absurd rfl h, ar, fun a o h => by cases h⟩, fun r o _ => Qd r o, ⟨fun _ => rfl, ?_⟩, fun r o G' q v H' B f => ?_⟩
  · have e : (fun r o => ∀ _ : Gl.GS, Qd r o) = Qd := by
      funext r o
      exact propext ⟨fun h => h (fun _ => none), fun h _ => h⟩
    show sp ds (fun r o => ∀ _ : Gl.GS, Qd r o)
    rw [e]
    exact hs
  · refine k r o q v H' (fun b x np e => B.gg.st b x np rfl e) (fun b z => B.ld b (.inl z)) (fun j z => by cases z) ?_
    rw [if_neg Bool.false_ne_true]
    exact f.keep (Kp.sub fun b z => .inl z)
/-! ### editors -/
/-- an editor's rows: where each element comes from, and the element -/
abbrev Er1 := Option Nat × Dat
def orD : Option Nat → Dat
  | none => .none
  | some n => .int n
def rwD (r : Er1) : Dat := .tuple [orD r.1, r.2]
structure Edr where
  many : Nat
  rows : List Er1
  dn : Addr
  un : Addr
  dl : List Dat
  ul : List Dat
def Edr.fs (e : Edr) : List (Str × Dat) := [("_many", .int e.many), ("_rows", .tuple (e.rows.map rwD)), ("_contents", .tuple (e.rows.map (·.2))), ("_done", refD e.dn), ("_undone", refD e.un)]
/-- an editor stands at a -/
structure EdAt (C : Addr) (G : Gl.GS) (a : Addr) (e : Edr) : Prop where
  o : G a = some (.ins C e.fs)
  d : G e.dn = some (.lst e.dl)
  u : G e.un = some (.lst e.ul)
  ad : e.dn ≠ a
  au : e.un ≠ a
  du : e.un ≠ e.dn
theorem fs_rows (e : Edr) (d : Dat) : Gl.putFD "_rows" d e.fs = ([("_many", .int e.many), ("_rows", d), ("_contents", .tuple (e.rows.map (·.2))), ("_done", refD e.dn), ("_undone", refD e.un)] : List (Str × Dat)) := rfl
def dPut (C : Addr) : Gl.DSpG := fun ds G Q => ∃ (a : Addr) (e : Edr) (s : Nat) (old new : List Er1), ds = [refD a, .int s, .tuple (old.map rwD), .tuple (new.map rwD)] ∧ G a = some (.ins C e.fs) ∧ e.rows.length ≤ 100000 ∧ new.length ≤ 100000 ∧
  ∀ G', G' a = some (.ins C { e with rows := e.rows.take s ++ new ++ e.rows.drop (s + old.length) }.fs) → (∀ b, b ≠ a → G' b = G b) → Q .none .none G'
theorem take_map2 {l : List Er1} {i : Nat} (h : i < l.length) : (l.map (·.2)).take (i + 1) = (l.map (·.2)).take i ++ [l[i].2] := by
  rw [List.take_succ, List.getElem?_map, List.getElem?_eq_getElem h]
  rfl
abbrev s_Editor__put : Stmt := inClass (top 18) 9
theorem c_Editor__put : FnScope ["self", "start", "old", "new", "_", "element"] ["self", "start", "old", "new"] (defScope s_Editor__put) := ⟨rfl, rfl, rfl, by decide +kernel, rfl, by decide +kernel, by decide +kernel⟩

theorem ok_Editor__put {f : Addr} {fd : FuncData} (F : Fun K "_put" "Editor._put" s_Editor__put f fd) (T : Txt mg) (OB_Editor : Oc_Editor K OA_Editor) : FnOk P w K mg base CX0 1 f fd ["self", "start", "old", "new"] (Gl.spG 4 none (dPut OA_Editor)) := by
  refine F.ok c_Editor__put (fun vs H Q E h => h.1) (fun cdv A outer s H vs Q E hr h => ?_)
  refine ⟨_, (pss_cons (ps_fld (Gl.pe_pu (pv 0)) (pe_op (r := rCatA K) op_catA (pe_op (r := rCatA K) op_catA (pe_slice (r := rSlA K) sl_tupA (pe_fld (Gl.pe_pu (pv 0)) (by rfl)) po_none (po_some (Gl.pe_pu (pv 1)))) (Gl.pe_pu (pv 3))) (pe_slice (r := rSlA K) sl_tupA (pe_fld (Gl.pe_pu (pv 0)) (by rfl)) (po_some (Gl.pe_pu (pe_op op_add (pv 1) (pe_callB (r := Dl.rLen K) Dl.cr_len (by rfl) T.n_len (by decide +kernel) (pa_cons (pv 2) pa_nil))))) po_none)) (by rfl))
      (pss_one (ps_fld (Gl.pe_pu (pv 0)) (pe_callTy (r := Dl.rTupleOf K) Dl.cr_tupleOf (by rfl) T.n_tuple (by decide +kernel) (pa_cons (pe_lc (own := [("_", 4), ("element", 5)]) (by rfl) c_Editor__put.nd (pi_tup (pe_fld (Gl.pe_pu (pv 0)) (by rfl))) (blkOk_by (own := [("_", 4), ("element", 5)]) (N := ["self", "start", "old", "new", "_", "element"]) (sc := defScope s_Editor__put) (by decide +kernel)) (fun _ _ _ _ _ => Dl.pg_tupK (K := K) (n := 2) rfl rfl (pgs_cons (pg_name (i := 4) c_Editor__put.nd rfl (Or.inl rfl)) (pgs_cons (pg_name (i := 5) c_Editor__put.nd rfl (Or.inl rfl)) pgs_nil)) rfl rfl) (fun _ _ _ _ _ => pts_nil) (fun _ _ _ _ _ => (pv 5))) pa_nil)) (by rfl)))), ?_⟩
  have ⟨_, _o3_0, _o3_1, _o3_2, _o3_3, _o3_4⟩ := OB_Editor
  apply Gl.entryG0 (O := fun _ => false) h
  (case ht => intro dyz Zz; walk_at "rg")
  (case hO => decide)

  rintro ds G Qd hn ⟨a, e, s, old, new, rfl, ga, hl, hn2, k⟩
  walk_at "z"
  have e1 : (s : Int) + ((List.map rwD old).length : Int) = ((s + old.length : Nat) : Int) := by rw [List.length_map]; omega
  rw [e1, cutD_to, cutD_from, ← List.map_take, ← List.map_drop, ← List.map_append]
  refine z_catT (szle2 (by simp only [List.length_map, List.length_append, List.length_take, List.length_drop]; omega)) ?_
  rw [← List.map_append]
  generalize hr : e.rows.take s ++ new ++ e.rows.drop (s + old.length) = rows
  have hrl : rows.length ≤ 200000 := by rw [← hr]; simp only [List.length_append, List.length_take, List.length_drop]; omega
  rw [hr] at k
  walk_at "z"
  refine ⟨_, rfl, fun i acc E => E = [some (refD a), some (.int s), some (.tuple (old.map rwD)), some (.tuple (new.map rwD)), none, none] ∧ acc = (rows.map (·.2)).take i, ⟨rfl, rfl⟩, ?_, ?_⟩
  · rintro i x acc E hi hx ⟨rfl, rfl⟩
    obtain ⟨hi', rfl⟩ := map_get hx
    unfold rwD
    walk_at "z"
    exact ⟨szlt2 (by rw [List.length_take, List.length_map]; omega), rfl, (take_map2 hi').symm⟩
  · rintro acc E ⟨rfl, rfl⟩
    walk_at "z"
    refine k _ (Eq.trans Gl.updG_same ?_) (fun b hb => (Gl.updG_ne hb).trans (Gl.updG_ne hb))
    rw [show (rows.map rwD).length = (rows.map (·.2)).length by rw [List.length_map, List.length_map], List.take_length]
    rfl
/-! where rows go on -/
def goesB (x y : Option Nat) : Bool := match x, y with
  | none, none => true
  | none, some _ => false
  | some _, none => false
  | some i, some j => decide (j = i + 1)
def dGoes : DSp := fun ds Q => ∃ x y : Option Nat, ds = [orD x, orD y] ∧ Q (.bool (goesB x y)) .none
theorem orD_n : orD none = PyData.none := rfl
theorem orD_s (n : Nat) : orD (some n) = PyData.int n := rfl
abbrev s_goes_on : Stmt := top 14
theorem c_goes_on : FnScope ["before", "after"] ["before", "after"] (defScope s_goes_on) := ⟨rfl, rfl, rfl, by decide +kernel, rfl, by decide +kernel, by decide +kernel⟩

theorem ok_goes_on {f : Addr} {fd : FuncData} (F : Fun K "goes_on" "goes_on" s_goes_on f fd) (T : Txt mg) : FnOk P w K mg base CX0 1 f fd ["before", "after"] (spOf 2 none false dGoes) := by
  refine F.ok c_goes_on (fun vs H Q E h => h.1) (fun cdv A outer s H vs Q E hr h => ?_)
  refine ⟨_, (pss_cons (ps_if (pt_cmpR op_isN (pv 0) pe_non (nomark _)) (pss_one (ps_ret (pe_cmpR op_isN (pv 1) pe_non (nomark _)))) pss_nil)
      (pss_one (ps_ret (pe_cmpR (r := Dl.rEqU K) (Dl.op_eqU (hu64 hr)) (pv 1) (pe_op op_add (pv 0) pe_int) (nomark _))))), ?_⟩
  apply entry0 (O := fun _ => false) h
  (case ht => intro dy; walk_at "rf")
  (case hO => decide)

  rintro ds Qd hn ⟨x, y, rfl, k⟩
  cases x with
  | none =>
    rw [orD_n]
    cases y with
    | none =>
      rw [orD_n]
      walk_at "z"
      exact k
    | some j =>
      rw [orD_s]
      walk_at "z"
      exact k
  | some i =>
    rw [orD_s]
    cases y with
    | none =>
      rw [orD_n]
      walk_at "z"
      refine z_eqD rfl rfl ?_
      walk_at "z"
      exact k
    | some j =>
      rw [orD_s]
      walk_at "z"
      have e : (decide ((j : Int) = (i : Int) + 1)) = goesB (some i) (some j) := decide_eq_decide.mpr (by omega)
      rw [e]
      exact k
inductive Pc
  | kept (s e : Nat)
  | ins (t : List Dat)
def pcD : Pc → Dat
  | .kept s e => .tuple [.str "kept", .int s, .int e]
  | .ins t => .tuple [.str "inserted", .tuple t]
def pcOf (r : List Er1) : Pc := match r with
  | [] => .ins []
  | (none, d) :: l => .ins (((none, d) :: l).map (·.2))
  | (some s, _) :: l => .kept s (s + (l.length + 1))
def dPieceOf : DSp := fun ds Q => ∃ r : List Er1, ds = [.tuple (r.map rwD)] ∧ r ≠ [] ∧ r.length ≤ 200000 ∧ Q (pcD (pcOf r)) .none
abbrev s_piece_of : Stmt := top 15
theorem c_piece_of : FnScope ["rows", "start", "_", "element"] ["rows"] (defScope s_piece_of) := ⟨rfl, rfl, rfl, by decide +kernel, rfl, by decide +kernel, by decide +kernel⟩

theorem ok_piece_of {f : Addr} {fd : FuncData} (F : Fun K "piece_of" "piece_of" s_piece_of f fd) (T : Txt mg) : FnOk P w K mg base CX0 1 f fd ["rows"] (spOf 1 none false dPieceOf) := by
  refine F.ok c_piece_of (fun vs H Q E h => h.1) (fun cdv A outer s H vs Q E hr h => ?_)
  refine ⟨_, (pss_cons (ps_set (i := 1) c_piece_of.nd rfl (Or.inl rfl) (pe_ix (r := rIxT K) ix_tup (pe_ix (r := rIxT K) ix_tup (pv 0) pe_int (fun _ _ => rfl)) pe_int (fun _ _ => rfl)))
      (pss_cons (ps_if (pt_cmpR op_isN (pv 1) pe_non (nomark _)) (pss_one (ps_ret (pe_tup (pa_cons pe_str (pa_cons (pe_callTy (r := Dl.rTupleOf K) Dl.cr_tupleOf (by rfl) T.n_tuple (by decide +kernel) (pa_cons (pe_lc (own := [("_", 2), ("element", 3)]) (by rfl) c_piece_of.nd (pi_tup (pv 0)) (blkOk_by (own := [("_", 2), ("element", 3)]) (N := ["rows", "start", "_", "element"]) (sc := defScope s_piece_of) (by decide +kernel)) (fun _ _ _ _ _ => Dl.pg_tupK (K := K) (n := 2) rfl rfl (pgs_cons (pg_name (i := 2) c_piece_of.nd rfl (Or.inl rfl)) (pgs_cons (pg_name (i := 3) c_piece_of.nd rfl (Or.inl rfl)) pgs_nil)) rfl rfl) (fun _ _ _ _ _ => pts_nil) (fun _ _ _ _ _ => (pv 3))) pa_nil)) pa_nil))))) pss_nil)
      (pss_one (ps_ret (pe_tup (pa_cons pe_str (pa_cons (pv 1) (pa_cons (pe_op op_add (pv 1) (pe_callB (r := Dl.rLen K) Dl.cr_len (by rfl) T.n_len (by decide +kernel) (pa_cons (pv 0) pa_nil))) pa_nil)))))))), ?_⟩
  apply entry0 (O := fun _ => false) h
  (case ht => intro dy; walk_at "rf")
  (case hO => decide)

  rintro ds Qd hn ⟨r, rfl, hne, hl, k⟩
  cases r with
  | nil => exact absurd rfl hne
  | cons h l =>
    obtain ⟨o, d⟩ := h
    have hr : List.map rwD ((o, d) :: l) = .tuple [orD o, d] :: l.map rwD := rfl
    rw [hr]
    cases o with
    | none =>
      rw [orD_n]
      walk_at "z"
      refine ⟨_, rfl, fun i acc E => E = [some (.tuple ((((none, d) : Er1) :: l).map rwD)), some .none, none, none] ∧ acc = ((((none, d) : Er1) :: l).map (·.2)).take i, ⟨rfl, rfl⟩, ?_, ?_⟩
      · rintro i x acc E hi hx ⟨rfl, rfl⟩
        rw [show (.tuple [PyData.none, d] :: l.map rwD) = (((none, d) : Er1) :: l).map rwD from rfl] at hx
        obtain ⟨hi', rfl⟩ := map_get hx
        unfold rwD
        walk_at "z"
        exact ⟨szlt2 (by rw [List.length_take, List.length_map]; omega), rfl, (take_map2 hi').symm⟩
      · rintro acc E ⟨rfl, rfl⟩
        walk_at "z"
        rw [show (.tuple [PyData.none, d] :: l.map rwD).length = ((((none, d) : Er1) :: l).map (·.2)).length by rw [List.length_map, List.length_cons, List.length_map]; rfl, List.take_length]
        exact k
    | some s =>
      rw [orD_s]
      walk_at "z"
      rw [List.length_cons, List.length_map]
      exact k
/-- the rows cut where they do not go on -/
def brk (r : List Er1) (j : Nat) : Bool := decide (j = r.length) || !goesB (r.getD (j - 1) (none, .none)).1 (r.getD j (none, .none)).1
def cutsTo (r : List Er1) : Nat → List (List Er1) × Nat
  | 0 => ([], 0)
  | n + 1 => if brk r (n + 1) = true then ((cutsTo r n).1 ++ [(r.take (n + 1)).drop (cutsTo r n).2], n + 1) else cutsTo r n
theorem cuts_le (r : List Er1) : ∀ n, (cutsTo r n).2 ≤ n
  | 0 => Nat.le_refl _
  | n + 1 => by
    unfold cutsTo
    by_cases h : brk r (n + 1) = true
    · rw [if_pos h]
      exact Nat.le_refl _
    · rw [if_neg h]
      exact Nat.le_succ_of_le (cuts_le r n)
theorem cuts_len (r : List Er1) : ∀ n, (cutsTo r n).1.length ≤ n
  | 0 => Nat.le_refl _
  | n + 1 => by
    unfold cutsTo
    by_cases h : brk r (n + 1) = true
    · rw [if_pos h]
      show ((cutsTo r n).1 ++ _).length ≤ _
      rw [List.length_append]
      exact Nat.succ_le_succ (cuts_len r n)
    · rw [if_neg h]
      exact Nat.le_succ_of_le (cuts_len r n)
def pcs (r : List Er1) : List Pc := (cutsTo r r.length).1.map pcOf
theorem getD_at {l : List Er1} {i : Nat} (h : i < l.length) : l.getD i (none, .none) = l[i] := by rw [List.getD_eq_getElem?_getD, List.getElem?_eq_getElem h]; rfl
def dPiecesOf : DSp := fun ds Q => ∃ r : List Er1, ds = [.tuple (r.map rwD)] ∧ r.length ≤ 200000 ∧ Q (.tuple ((pcs r).map pcD)) .none
abbrev s_pieces_of : Stmt := top 16
theorem c_pieces_of : FnScope ["rows", "found", "start", "place"] ["rows"] (defScope s_pieces_of) := ⟨rfl, rfl, rfl, by decide +kernel, rfl, by decide +kernel, by decide +kernel⟩

theorem ok_pieces_of {f : Addr} {fd : FuncData} (F : Fun K "pieces_of" "pieces_of" s_pieces_of f fd) (T : Txt mg) (C_goes_on : Cl P w K mg base 1 "goes_on" ["before", "after"] (spOf 2 none false dGoes)) (C_piece_of : Cl P w K mg base 1 "piece_of" ["rows"] (spOf 1 none false dPieceOf)) : FnOk P w K mg base CX0 2 f fd ["rows"] (spOf 1 none false dPiecesOf) := by
  refine F.ok c_pieces_of (fun vs H Q E h => h.1) (fun cdv A outer s H vs Q E hr h => ?_)
  refine ⟨_, (pss_cons (ps_set (i := 1) c_pieces_of.nd rfl (Or.inl rfl) (pe_lst pa_nil))
      (pss_cons (ps_set (i := 2) c_pieces_of.nd rfl (Or.inl rfl) pe_int)
      (pss_cons (ps_for PassesOwn.never rfl (pi_range2 (by rfl) T.n_range (pa_cons pe_int (pa_cons (pe_op op_add (pe_callB (r := Dl.rLen K) Dl.cr_len (by rfl) T.n_len (by decide +kernel) (pa_cons (pv 0) pa_nil)) pe_int) pa_nil))) (pg_name (i := 3) c_pieces_of.nd rfl (Or.inl rfl)) (pss_one (ps_if (PW.pt (pw_or (pt_cmpR (r := Dl.rEqU K) (Dl.op_eqU (hu64 hr)) (pv 3) (pe_callB (r := Dl.rLen K) Dl.cr_len (by rfl) T.n_len (by decide +kernel) (pa_cons (pv 0) pa_nil)) (nomark _)) (pw_or1 (pt_not (pt_val (pe_cl C_goes_on (hr.mono (by omega)) (by rfl) (pa_cons (pe_ix (r := rIxT K) ix_tup (pe_ix (r := rIxT K) ix_tup (pv 0) (pe_op op_sub (pv 3) pe_int) (fun _ _ => rfl)) pe_int (fun _ _ => rfl)) (pa_cons (pe_ix (r := rIxT K) ix_tup (pe_ix (r := rIxT K) ix_tup (pv 0) (pv 3) (fun _ _ => rfl)) pe_int (fun _ _ => rfl)) pa_nil)))))))) (pss_cons (ps_expr (pe_bm PySem.F.plainAttrs_list PySem.F.slot_list_append PySem.F.type_list_append mt_append (pv 1) (pa_cons (pe_cl C_piece_of (hr.mono (by omega)) (by rfl) (pa_cons (pe_slice (r := rSlA K) sl_tupA (pv 0) (po_some (pv 2)) (po_some (pv 3))) pa_nil)) pa_nil)))
      (pss_one (ps_set (i := 2) c_pieces_of.nd rfl (Or.inl rfl) (pv 3)))) pss_nil)))
      (pss_one (ps_ret (pe_callTy (r := Dl.rTupleOf K) Dl.cr_tupleOf (by rfl) T.n_tuple (by decide +kernel) (pa_cons (pv 1) pa_nil))))))), ?_⟩
  apply entry0 (O := fun i => i == 1) h
  (case ht => intro dy; walk_at "rf")
  (case hO => decide)

  rintro ds Qd hn ⟨r, rfl, hl, k⟩
  walk_at "z"
  rw [List.length_map]
  refine ⟨1, (r.length : Int) + 1, rfl, by omega, fun i E => ∃ o, E = [some (.tuple (r.map rwD)), some (.list (((cutsTo r i).1.map pcOf).map pcD)), some (.int (cutsTo r i).2), o], ⟨none, rfl⟩, ?_, ?_⟩
  · rintro i x E hi rfl ⟨o, rfl⟩
    have hi' : i < ((r.length : Int) + 1 - 1).toNat := hi
    have hi2 : i < r.length := by omega
    have c1 := cuts_le r i
    have c2 := cuts_len r i
    have nx : brk r (i + 1) = true → cutsTo r (i + 1) = ((cutsTo r i).1 ++ [(r.take (i + 1)).drop (cutsTo r i).2], i + 1) := fun h => if_pos h
    have nn : ¬ brk r (i + 1) = true → cutsTo r (i + 1) = cutsTo r i := fun h => if_neg h
    have cn : (r.take (i + 1)).drop (cutsTo r i).2 ≠ [] := by
      intro z
      have := congrArg List.length z
      rw [List.length_drop, List.length_take] at this
      have : ([] : List Er1).length = 0 := rfl
      omega
    have cl : ((r.take (i + 1)).drop (cutsTo r i).2).length ≤ 200000 := by rw [List.length_drop, List.length_take]; omega
    have ec : (1 + (i : Int)) = ((i + 1 : Nat) : Int) := by omega
    rw [ec]
    walk_at "z"
    rw [List.length_map]
    refine w_ite (fun g => ?_) (fun g => ?_)
    · have hb : brk r (i + 1) = true := by
        unfold brk
        rw [decide_eq_true (show i + 1 = r.length by omega)]
        rfl
      walk_at "z"
      rw [cutD_both, ← List.map_take, ← List.map_drop]
      refine ⟨_, rfl, cn, cl, ?_⟩
      walk_at "z"
      refine ⟨_, rfl, szlt2 (by rw [List.length_map, List.length_map]; omega), ?_⟩
      walk_at "z"
      refine ⟨some (.int ((i + 1 : Nat) : Int)), ?_⟩
      rw [nx hb, List.map_append, List.map_append]
      rfl
    · have hlt : i + 1 < r.length := by
        omega
      have hbb : brk r (i + 1) = !goesB (r[i]).1 (r[i + 1]).1 := by
        unfold brk
        rw [decide_eq_false (by omega : ¬ i + 1 = r.length), Bool.false_or, Nat.add_sub_cancel, getD_at hi2, getD_at hlt]
      walk_at "z"
      rw [show ((i + 1 : Nat) : Int) - 1 = (i : Int) by omega]
      refine z_ixT (d := .tuple [orD r[i].1, r[i].2]) (atI_nat (by rw [List.getElem?_map, List.getElem?_eq_getElem hi2]; rfl)) ?_
      walk_at "z"
      refine z_ixT (d := .tuple [orD r[i + 1].1, r[i + 1].2]) (atI_nat (by rw [List.getElem?_map, List.getElem?_eq_getElem hlt]; rfl)) ?_
      walk_at "z"
      refine ⟨r[i].1, r[i + 1].1, rfl, _, rfl, ?_⟩
      rw [← hbb]
      by_cases hb : brk r (i + 1) = true
      · rw [if_pos hb]
        walk_at "z"
        rw [cutD_both, ← List.map_take, ← List.map_drop]
        refine ⟨_, rfl, cn, cl, ?_⟩
        walk_at "z"
        refine ⟨_, rfl, szlt2 (by rw [List.length_map, List.length_map]; omega), ?_⟩
        walk_at "z"
        refine ⟨some (.int ((i + 1 : Nat) : Int)), ?_⟩
        rw [nx hb, List.map_append, List.map_append]
        rfl
      · rw [if_neg hb]
        walk_at "z"
        refine ⟨some (.int ((i + 1 : Nat) : Int)), ?_⟩
        rw [nn hb]
        rfl
  · rintro E ⟨o, rfl⟩
    rw [show ((r.length : Int) + 1 - 1).toNat = r.length by omega]
    walk_at "z"
    exact k
/-- the edits of pieces -/
structure EfS where
  f : List Edt
  p : Nat
  t : List Dat
def efStep (s : EfS) : Pc → EfS
  | .ins t => ⟨s.f, s.p, t⟩
  | .kept a b => ⟨if s.p < a ∨ s.t ≠ [] then s.f ++ [⟨s.p, a, s.t⟩] else s.f, b, []⟩
def efRun (s : EfS) (l : List Pc) : EfS := l.foldl efStep s
theorem efRun_len : ∀ (l : List Pc) (s : EfS), (efRun s l).f.length ≤ s.f.length + l.length
  | [], s => Nat.le_refl _
  | c :: l, s => by
    refine Nat.le_trans (efRun_len l (efStep s c)) ?_
    have : (efStep s c).f.length ≤ s.f.length + 1 := by
      cases c with
      | ins t => exact Nat.le_succ _
      | kept a b =>
        show (if _ then _ else _ : List Edt).length ≤ _
        split
        · rw [List.length_append]
          exact Nat.le_refl _
        · exact Nat.le_succ _
    rw [List.length_cons]
    omega
def edP (l : List Pc) (many : Nat) : List Edt := (efRun ⟨[], 0, []⟩ (l ++ [.kept many many])).f
def dEditsOf : DSp := fun ds Q => ∃ (l : List Pc) (many : Nat), ds = [.tuple (l.map pcD), .int many] ∧ l.length ≤ 200000 ∧ Q (.tuple ((edP l many).map Edt.d)) .none
abbrev s_edits_of : Stmt := top 17
theorem c_edits_of : FnScope ["pieces", "many", "found", "place", "inserted", "piece"] ["pieces", "many"] (defScope s_edits_of) := ⟨rfl, rfl, rfl, by decide +kernel, rfl, by decide +kernel, by decide +kernel⟩

theorem ok_edits_of {f : Addr} {fd : FuncData} (F : Fun K "edits_of" "edits_of" s_edits_of f fd) (T : Txt mg) : FnOk P w K mg base CX0 1 f fd ["pieces", "many"] (spOf 2 none false dEditsOf) := by
  refine F.ok c_edits_of (fun vs H Q E h => h.1) (fun cdv A outer s H vs Q E hr h => ?_)
  refine ⟨_, (pss_cons (ps_set (i := 2) c_edits_of.nd rfl (Or.inl rfl) (pe_lst pa_nil))
      (pss_cons (ps_set (i := 3) c_edits_of.nd rfl (Or.inl rfl) pe_int)
      (pss_cons (ps_set (i := 4) c_edits_of.nd rfl (Or.inl rfl) (pe_tup pa_nil))
      (pss_cons (ps_for PassesOwn.never rfl (pi_tup (pe_op (r := rCatA K) op_catA (pv 0) (pe_tup (pa_cons (pe_tup (pa_cons pe_str (pa_cons (pv 1) (pa_cons (pv 1) pa_nil)))) pa_nil)))) (pg_name (i := 5) c_edits_of.nd rfl (Or.inl rfl)) (pss_one (ps_if (pt_cmpR (r := Dl.rEqU K) (Dl.op_eqU (hu64 hr)) (pe_ix (r := rIxT K) ix_tup (pv 5) pe_int (fun _ _ => rfl)) pe_str (nomark _)) (pss_one (ps_set (i := 4) c_edits_of.nd rfl (Or.inl rfl) (pe_ix (r := rIxT K) ix_tup (pv 5) pe_int (fun _ _ => rfl)))) (pss_cons (ps_if (PW.pt (pw_or (pt_cmpR op_lt (pv 3) (pe_ix (r := rIxT K) ix_tup (pv 5) pe_int (fun _ _ => rfl)) (nomark _)) (pw_or1 (Dl.pt_tru (pv 4) (by intro _; rfl))))) (pss_one (ps_expr (pe_bm PySem.F.plainAttrs_list PySem.F.slot_list_append PySem.F.type_list_append mt_append (pv 2) (pa_cons (pe_tup (pa_cons (pv 3) (pa_cons (pe_ix (r := rIxT K) ix_tup (pv 5) pe_int (fun _ _ => rfl)) (pa_cons (pv 4) pa_nil)))) pa_nil)))) pss_nil)
      (pss_cons (ps_set (i := 3) c_edits_of.nd rfl (Or.inl rfl) (pe_ix (r := rIxT K) ix_tup (pv 5) pe_int (fun _ _ => rfl)))
      (pss_one (ps_set (i := 4) c_edits_of.nd rfl (Or.inl rfl) (pe_tup pa_nil))))))))
      (pss_one (ps_ret (pe_callTy (r := Dl.rTupleOf K) Dl.cr_tupleOf (by rfl) T.n_tuple (by decide +kernel) (pa_cons (pv 2) pa_nil)))))))), ?_⟩
  apply entry0 (O := fun i => i == 2) h
  (case ht => intro dy; walk_at "rf")
  (case hO => decide)

  rintro ds Qd hn ⟨l, many, rfl, hl, k⟩
  walk_at "z"
  have hml : l.map pcD ++ [.tuple [.str "kept", .int many, .int many]] = (l ++ [Pc.kept many many]).map pcD := by rw [List.map_append]; rfl
  rw [hml]
  generalize hL : l ++ [Pc.kept many many] = L
  have hLl : L.length ≤ 200001 := by rw [← hL, List.length_append]; exact Nat.succ_le_succ hl
  let st := fun i => efRun ⟨[], 0, []⟩ (L.take i)
  have hf : ∀ i, (st i).f.length ≤ i := fun i => Nat.le_trans (efRun_len _ _) (by rw [List.length_take]; exact Nat.le_trans (Nat.le_of_eq (Nat.zero_add _)) (Nat.min_le_left _ _))
  refine ⟨_, rfl, fun i E => ∃ o, E = [some (.tuple (l.map pcD)), some (.int many), some (.list ((st i).f.map Edt.d)), some (.int (st i).p), some (.tuple (st i).t), o], ⟨none, rfl⟩, ?_, ?_⟩
  · rintro i x E hi hx ⟨o, rfl⟩
    obtain ⟨hi', rfl⟩ := map_get hx
    have hs : st (i + 1) = efStep (st i) L[i] := by
      show (List.foldl efStep _ _) = _
      rw [List.take_succ, List.getElem?_eq_getElem hi']
      show (List.foldl efStep _ (_ ++ [L[i]])) = _
      rw [List.foldl_append]
      rfl
    have hfl := hf i
    generalize L[i] = c at hs ⊢
    cases c with
    | ins t =>
      rw [show pcD (Pc.ins t) = .tuple [.str "inserted", .tuple t] from rfl]
      walk_at "z"
      refine w_ite (fun _ => ?_) (fun g => absurd rfl g)
      walk_at "z"
      exact ⟨_, by rw [hs]; rfl⟩
    | kept a b =>
      rw [show pcD (Pc.kept a b) = .tuple [.str "kept", .int a, .int b] from rfl]
      have fin1 : ∀ E, (∃ o, E = [some (.tuple (l.map pcD)), some (.int many), some (.list ((if (st i).p < a ∨ (st i).t ≠ [] then (st i).f ++ [⟨(st i).p, a, (st i).t⟩] else (st i).f).map Edt.d)), some (.int b), some (.tuple []), o]) → ∃ o, E = [some (PyData.tuple (l.map pcD)), some (.int many), some (.list ((st (i + 1)).f.map Edt.d)), some (.int (st (i + 1)).p), some (.tuple (st (i + 1)).t), o] := by
        rintro E ⟨o, rfl⟩
        exact ⟨o, by rw [hs]; rfl⟩
      walk_at "z"
      refine w_ite (fun g => absurd g (by decide +kernel)) (fun _ => ?_)
      walk_at "z"
      refine w_ite (fun g => ?_) (fun g => ?_)
      · have g' : (st i).p < a ∨ (st i).t ≠ [] := .inl (by omega)
        rw [if_pos g', List.map_append] at fin1
        walk_at "z"
        refine ⟨_, rfl, szlt2 (by rw [List.length_map]; omega), ?_⟩
        walk_at "z"
        exact fin1 _ ⟨_, rfl⟩
      · walk_at "z"
        by_cases g2 : (st i).t = []
        · have g' : ¬ ((st i).p < a ∨ (st i).t ≠ []) := fun z => z.elim (by omega) (fun z => z g2)
          rw [if_neg g'] at fin1
          rw [show (!(st i).t.isEmpty) = false by rw [g2]; rfl]
          walk_at "z"
          exact fin1 _ ⟨_, rfl⟩
        · have g' : (st i).p < a ∨ (st i).t ≠ [] := .inr g2
          rw [if_pos g', List.map_append] at fin1
          have hne : (!(st i).t.isEmpty) = true := by
            cases e : (st i).t with
            | nil => exact absurd e g2
            | cons _ _ => rfl
          rw [hne]
          walk_at "z"
          refine ⟨_, rfl, szlt2 (by rw [List.length_map]; omega), ?_⟩
          walk_at "z"
          exact fin1 _ ⟨_, rfl⟩
  · rintro E ⟨o, rfl⟩
    walk_at "z"
    rw [List.length_map, show (st L.length) = efRun ⟨[], 0, []⟩ L by show efRun _ (L.take L.length) = _; rw [List.take_length], ← hL]
    exact k
theorem upd_none {G : Gl.GS} {a p : Addr} {o : Gl.Ob} (h : Gl.updG G a o p = none) : p ≠ a ∧ G p = none := by
  by_cases e : p = a
  · rw [e, Gl.updG_same] at h
    cases h
  · rw [Gl.updG_ne e] at h
    exact ⟨e, h⟩
def numR (n : Nat) : List Dat → List Er1
  | [] => []
  | d :: ds => (some n, d) :: numR (n + 1) ds
theorem numR_D : ∀ (ds : List Dat) (n : Nat), (numR n ds).map rwD = numD n ds
  | [], _ => rfl
  | d :: ds, n => congrArg (_ :: ·) (numR_D ds (n + 1))
theorem numR_c : ∀ (ds : List Dat) (n : Nat), (numR n ds).map (·.2) = ds
  | [], _ => rfl
  | d :: ds, n => congrArg (_ :: ·) (numR_c ds (n + 1))
theorem numR_l : ∀ (ds : List Dat) (n : Nat), (numR n ds).length = ds.length
  | [], _ => rfl
  | d :: ds, n => congrArg (· + 1) (numR_l ds (n + 1))
def dInit (C : Addr) : Gl.DSpG := fun ds G Q => ∃ (a : Addr) (cs : List Dat), ds = [refD a, .tuple cs] ∧ G a = some (.ins C []) ∧ cs.length ≤ 100000 ∧
  ∀ G' dn un, EdAt C G' a ⟨cs.length, numR 0 cs, dn, un, [], []⟩ → G dn = none → G un = none → (∀ b, G b ≠ none → b ≠ a → G' b = G b) → Q .none .none G'
abbrev s_Editor___init__ : Stmt := inClass (top 18) 0
theorem c_Editor___init__ : FnScope ["self", "contents"] ["self", "contents"] (defScope s_Editor___init__) := ⟨rfl, rfl, rfl, by decide +kernel, rfl, by decide +kernel, by decide +kernel⟩

theorem ok_Editor___init__ {f : Addr} {fd : FuncData} (F : Fun K "__init__" "Editor.__init__" s_Editor___init__ f fd) (T : Txt mg) (OB_Editor : Oc_Editor K OA_Editor) : FnOk P w K mg base CX0 1 f fd ["self", "contents"] (Gl.spG 2 none (dInit OA_Editor)) := by
  refine F.ok c_Editor___init__ (fun vs H Q E h => h.1) (fun cdv A outer s H vs Q E hr h => ?_)
  refine ⟨_, (pss_cons (ps_fld (Gl.pe_pu (pv 0)) (Gl.pe_pu (pe_callB (r := Dl.rLen K) Dl.cr_len (by rfl) T.n_len (by decide +kernel) (pa_cons (pv 1) pa_nil))) (by rfl))
      (pss_cons (ps_fld (Gl.pe_pu (pv 0)) (Gl.pe_pu (Te.pe_tupEnum rfl (by rfl) T.n_tuple (by rfl) T.n_enumerate (pv 1))) (by rfl))
      (pss_cons (ps_fld (Gl.pe_pu (pv 0)) (Gl.pe_pu (pv 1)) (by rfl))
      (pss_cons (ps_fld (Gl.pe_pu (pv 0)) (Gl.pe_newL (pe_lst pa_nil)) (by rfl))
      (pss_one (ps_fld (Gl.pe_pu (pv 0)) (Gl.pe_newL (pe_lst pa_nil)) (by rfl))))))), ?_⟩
  have ⟨_, _o3_0, _o3_1, _o3_2, _o3_3, _o3_4⟩ := OB_Editor
  apply Gl.entryG0 (O := fun _ => false) h
  (case ht => intro dyz Zz; walk_at "rg")
  (case hO => decide)

  rintro ds G Qd hn ⟨a, cs, rfl, ga, hl, k⟩
  walk_at "z"
  refine ⟨_, rfl, ?_⟩
  walk_at "z"
  intro p hp
  obtain ⟨pa, hp1⟩ := upd_none hp
  have hp0 := (upd_none (upd_none hp1).2).2
  have ap : a ≠ p := Ne.symm pa
  walk_at "z"
  intro q hq
  obtain ⟨qa, hq1⟩ := upd_none hq
  obtain ⟨qp, hq2⟩ := upd_none hq1
  have hq0 := (upd_none (upd_none (upd_none hq2).2).2).2
  have aq : a ≠ q := Ne.symm qa
  walk_at "z"
  refine k _ p q ⟨Gl.updG_same.trans ?_, ?_, ?_, pa, qa, qp⟩ hp0 hq0 fun b hb nb => ?_
  · show _ = some (Gl.Ob.ins OA_Editor [("_many", .int cs.length), ("_rows", .tuple ((numR 0 cs).map rwD)), ("_contents", .tuple ((numR 0 cs).map (·.2))), ("_done", refD p), ("_undone", refD q)])
    rw [numR_D, numR_c]
    rfl
  · show Gl.updG _ _ _ p = _
    rw [Gl.updG_ne pa, Gl.updG_ne qp.symm, Gl.updG_ne pa, Gl.updG_same]
  · show Gl.updG _ _ _ q = _
    rw [Gl.updG_ne qa, Gl.updG_same]
  · have bp : b ≠ p := fun z => hb (z ▸ hp0)
    have bq : b ≠ q := fun z => hb (z ▸ hq0)
    rw [Gl.updG_ne nb, Gl.updG_ne bq, Gl.updG_ne nb, Gl.updG_ne bp, Gl.updG_ne nb, Gl.updG_ne nb, Gl.updG_ne nb]
def dCts (C : Addr) : Gl.DSpG := fun ds G Q => ∃ (a : Addr) (e : Edr), ds = [refD a] ∧ G a = some (.ins C e.fs) ∧ Q (.tuple (e.rows.map (·.2))) .none G
abbrev s_Editor_contents : Stmt := inClass (top 18) 4
theorem c_Editor_contents : FnScope ["self"] ["self"] (defScope s_Editor_contents) := ⟨rfl, rfl, rfl, by decide +kernel, rfl, by decide +kernel, by decide +kernel⟩

theorem ok_Editor_contents {f : Addr} {fd : FuncData} (F : Fun K "contents" "Editor.contents" s_Editor_contents f fd) (T : Txt mg) (OB_Editor : Oc_Editor K OA_Editor) : FnOk P w K mg base CX0 1 f fd ["self"] (Gl.spG 1 none (dCts OA_Editor)) := by
  refine F.ok c_Editor_contents (fun vs H Q E h => h.1) (fun cdv A outer s H vs Q E hr h => ?_)
  refine ⟨_, (pss_one (ps_ret (pe_fld (Gl.pe_pu (pv 0)) (by rfl)))), ?_⟩
  have ⟨_, _o3_0, _o3_1, _o3_2, _o3_3, _o3_4⟩ := OB_Editor
  apply Gl.entryG0 (O := fun _ => false) h
  (case ht => intro dyz Zz; walk_at "rg")
  (case hO => decide)

  rintro ds G Qd hn ⟨a, e, rfl, ga, k⟩
  walk_at "z"
  exact k
def dEds (C : Addr) : Gl.DSpG := fun ds G Q => ∃ (a : Addr) (e : Edr), ds = [refD a] ∧ G a = some (.ins C e.fs) ∧ e.rows.length ≤ 200000 ∧ Q (.tuple ((edP (pcs e.rows) e.many).map Edt.d)) .none G
abbrev s_Editor_edits : Stmt := inClass (top 18) 5
theorem c_Editor_edits : FnScope ["self"] ["self"] (defScope s_Editor_edits) := ⟨rfl, rfl, rfl, by decide +kernel, rfl, by decide +kernel, by decide +kernel⟩

theorem ok_Editor_edits {f : Addr} {fd : FuncData} (F : Fun K "edits" "Editor.edits" s_Editor_edits f fd) (T : Txt mg) (OB_Editor : Oc_Editor K OA_Editor) (C_pieces_of : Cl P w K mg base 2 "pieces_of" ["rows"] (spOf 1 none false dPiecesOf)) (C_edits_of : Cl P w K mg base 1 "edits_of" ["pieces", "many"] (spOf 2 none false dEditsOf)) : FnOk P w K mg base CX0 3 f fd ["self"] (Gl.spG 1 none (dEds OA_Editor)) := by
  refine F.ok c_Editor_edits (fun vs H Q E h => h.1) (fun cdv A outer s H vs Q E hr h => ?_)
  refine ⟨_, (pss_one (ps_ret (pe_cl C_edits_of (hr.mono (by omega)) (by rfl) (pa_cons (pe_cl C_pieces_of (hr.mono (by omega)) (by rfl) (pa_cons (pe_fld (Gl.pe_pu (pv 0)) (by rfl)) pa_nil)) (pa_cons (pe_fld (Gl.pe_pu (pv 0)) (by rfl)) pa_nil))))), ?_⟩
  have ⟨_, _o3_0, _o3_1, _o3_2, _o3_3, _o3_4⟩ := OB_Editor
  apply Gl.entryG0 (O := fun _ => false) h
  (case ht => intro dyz Zz; walk_at "rg")
  (case hO => decide)

  rintro ds G Qd hn ⟨a, e, rfl, ga, hl, k⟩
  walk_at "z"
  refine ⟨_, rfl, hl, ?_⟩
  walk_at "z"
  refine ⟨_, _, rfl, ?_, ?_⟩
  · unfold pcs
    rw [List.length_map]
    exact Nat.le_trans (cuts_len _ _) hl
  walk_at "z"
  exact k
abbrev eIdx (n : Int) : Er := ⟨"IndexOutOfRange", some ("place", .int n)⟩
def dRep (C : Addr) : Gl.DSpGX := fun ds G Q X => ∃ (a : Addr) (e : Edr) (s t : Nat) (ins : List Dat), ds = [refD a, .int s, .int t, .tuple ins] ∧ EdAt C G a e ∧ e.rows.length ≤ 2000 ∧ s ≤ 2000000 ∧ t ≤ 2000000 ∧ ins.length ≤ 100000 ∧ e.dl.length ≤ 100000 ∧
  (e.rows.length < t → X (eIdx t) .none G) ∧ (t ≤ e.rows.length → t < s → X (eIdx s) .none G) ∧
  (t ≤ e.rows.length → s ≤ t → 2000 < e.rows.length - (t - s) + ins.length → X (eMany ((e.rows.length - (t - s) + ins.length : Nat) : Int)) .none G) ∧
  (t ≤ e.rows.length → s ≤ t → e.rows.length - (t - s) + ins.length ≤ 2000 → ∀ G' un, EdAt C G' a { e with rows := e.rows.take s ++ ins.map (fun d => (none, d)) ++ e.rows.drop t, un := un, dl := e.dl ++ [.tuple [.int s, .tuple (((e.rows.take t).drop s).map rwD), .tuple (ins.map fun d => rwD (none, d))]], ul := [] } → G un = none → (∀ b, G b ≠ none → b ≠ a → b ≠ e.dn → G' b = G b) → Q (.int ((e.rows.length - (t - s) + ins.length : Nat) : Int)) .none G')
abbrev s_Editor_replace_range : Stmt := inClass (top 18) 6
theorem c_Editor_replace_range : FnScope ["self", "start", "end", "inserted", "many", "before", "after", "element"] ["self", "start", "end", "inserted"] (defScope s_Editor_replace_range) := ⟨rfl, rfl, rfl, by decide +kernel, rfl, by decide +kernel, by decide +kernel⟩

theorem ok_Editor_replace_range {f : Addr} {fd : FuncData} (F : Fun K "replace_range" "Editor.replace_range" s_Editor_replace_range f fd) (T : Txt mg) (OB_Editor : Oc_Editor K OA_Editor) (G_IndexOutOfRange : Xm.ErrF P w K mg base "IndexOutOfRange" "place") (C_check_count : ClX P w K mg base 3 "check_count" ["count"] (spOfX mg 1 none false dChk)) (M_Editor__put : Gl.Mth CX0 P w K mg base 1 OA_Editor "_put" (Gl.spG 4 none (dPut OA_Editor))) : FnOk P w K mg base (L2.CX P w) 4 f fd ["self", "start", "end", "inserted"] (Gl.spGX mg 4 none (dRep OA_Editor)) := by
  refine F.okX c_Editor_replace_range (fun vs H Q E h => h.1) (fun cdv A outer s H vs Q E hr h => ?_)
  refine ⟨_, (pss_cons (ps_set (i := 4) c_Editor_replace_range.nd rfl (Or.inl rfl) (pe_callB (r := Dl.rLen K) Dl.cr_len (by rfl) T.n_len (by decide +kernel) (pa_cons (pe_fld (Gl.pe_pu (pv 0)) (by rfl)) pa_nil)))
      (pss_cons (ps_if (Gl.pt_pu (pt_cmpR op_gt (pv 2) (pv 4) (nomark _))) (pss_one (Xm.ps_raiseF rfl G_IndexOutOfRange (takes_of rfl rfl rfl rfl) (hr.mono (by omega)) (by rfl) (Gl.pe_pu (pv 2)))) pss_nil)
      (pss_cons (ps_if (Gl.pt_pu (pt_cmpR op_gt (pv 1) (pv 2) (nomark _))) (pss_one (Xm.ps_raiseF rfl G_IndexOutOfRange (takes_of rfl rfl rfl rfl) (hr.mono (by omega)) (by rfl) (Gl.pe_pu (pv 1)))) pss_nil)
      (pss_cons (ps_expr (Dl.pe_clX C_check_count (takes_of rfl rfl rfl rfl) (hr.mono (by omega)) (by rfl) (pa_cons (Gl.pe_pu (pe_op op_add (pe_op op_sub (pv 4) (pe_op op_sub (pv 2) (pv 1))) (pe_callB (r := Dl.rLen K) Dl.cr_len (by rfl) T.n_len (by decide +kernel) (pa_cons (pv 3) pa_nil)))) pa_nil)))
      (pss_cons (ps_set (i := 5) c_Editor_replace_range.nd rfl (Or.inl rfl) (pe_slice (r := rSlA K) sl_tupA (pe_fld (Gl.pe_pu (pv 0)) (by rfl)) (po_some (Gl.pe_pu (pv 1))) (po_some (Gl.pe_pu (pv 2)))))
      (pss_cons (ps_set (i := 6) c_Editor_replace_range.nd rfl (Or.inl rfl) (Gl.pe_pu (pe_callTy (r := Dl.rTupleOf K) Dl.cr_tupleOf (by rfl) T.n_tuple (by decide +kernel) (pa_cons (pe_lc (own := [("element", 7)]) (by rfl) c_Editor_replace_range.nd (pi_tup (pv 3)) (blkOk_by (own := [("element", 7)]) (N := ["self", "start", "end", "inserted", "many", "before", "after", "element"]) (sc := defScope s_Editor_replace_range) (by decide +kernel)) (fun _ _ _ _ _ => pg_name (i := 7) c_Editor_replace_range.nd rfl (Or.inl rfl)) (fun _ _ _ _ _ => pts_nil) (fun _ _ _ _ _ => (pe_tup (pa_cons pe_non (pa_cons (pv 7) pa_nil))))) pa_nil))))
      (pss_cons (ps_expr (Gl.pe_mth M_Editor__put (hr.mono (by omega)) (Gl.pe_pu (pv 0)) (pa_cons (Gl.pe_pu (pv 1)) (pa_cons (Gl.pe_pu (pv 5)) (pa_cons (Gl.pe_pu (pv 6)) pa_nil)))))
      (pss_cons (ps_expr (pe_bm PySem.F.plainAttrs_list PySem.F.slot_list_append PySem.F.type_list_append mt_append (pe_fld (Gl.pe_pu (pv 0)) (by rfl)) (pa_cons (Gl.pe_pu (pe_tup (pa_cons (pv 1) (pa_cons (pv 5) (pa_cons (pv 6) pa_nil))))) pa_nil)))
      (pss_cons (ps_fld (Gl.pe_pu (pv 0)) (Gl.pe_newL (pe_lst pa_nil)) (by rfl))
      (pss_one (ps_ret (pe_callB (r := Dl.rLen K) Dl.cr_len (by rfl) T.n_len (by decide +kernel) (pa_cons (pe_fld (Gl.pe_pu (pv 0)) (by rfl)) pa_nil))))))))))))), ?_⟩
  have ⟨_, _o3_0, _o3_1, _o3_2, _o3_3, _o3_4⟩ := OB_Editor
  apply Gl.entryGX0 (O := fun _ => false) h
  (case ht => intro dyz Zz Xc hx; walk_at "rg")
  (case hO => decide)

  rintro ds G Qd Xd hn ⟨a, e, s, t, ins, rfl, A, hl, hs, ht, hi, hd, x1, x2, x3, k⟩
  have ga := A.o
  walk_at "z"
  rw [List.length_map]
  refine w_ite (fun g => ?_) (fun g => ?_)
  · walk_at "z"
    exact ⟨scx_small (by omega) (by omega), x1 (by omega)⟩
  walk_at "z"
  refine w_ite (fun g2 => ?_) (fun g2 => ?_)
  · walk_at "z"
    exact ⟨scx_small (by omega) (by omega), x2 (by omega) (by omega)⟩
  have e1 : (e.rows.length : Int) - ((t : Int) - (s : Int)) + (ins.length : Int) = ((e.rows.length - (t - s) + ins.length : Nat) : Int) := by omega
  walk_at "z"
  rw [e1]
  refine ⟨_, rfl, by omega, by omega, fun g3 => ?_, fun g3 => x3 (by omega) (by omega) (by omega)⟩
  walk_at "z"
  refine ⟨_, rfl, fun i acc E => E = [some (refD a), some (.int s), some (.int t), some (.tuple ins), some (.int e.rows.length), some (.tuple (((e.rows.take t).drop s).map rwD)), none, none] ∧ acc = (ins.map fun d => rwD (none, d)).take i, ⟨by rw [cutD_both, ← List.map_take, ← List.map_drop]; rfl, rfl⟩, ?_, ?_⟩
  · rintro i x acc E hi hx ⟨rfl, rfl⟩
    obtain ⟨hi', rfl⟩ : ∃ h : i < ins.length, x = ins[i] := by
      have := List.getElem?_eq_some_iff.mp (show ins[i]? = some x from hx)
      exact ⟨this.1, this.2.symm⟩
    walk_at "z"
    refine ⟨szlt2 (by rw [List.length_take, List.length_map]; omega), rfl, ?_⟩
    rw [List.take_succ, List.getElem?_map, List.getElem?_eq_getElem hi']
    rfl
  · rintro acc E ⟨rfl, rfl⟩
    rw [show List.take ins.length (ins.map fun d => rwD (none, d)) = ins.map (fun d => rwD (none, d)) by rw [List.take_of_length_le (by rw [List.length_map]; exact Nat.le_refl _)]]
    walk_at "z"
    have hnl : s + ((e.rows.take t).drop s).length = t := by rw [List.length_drop, List.length_take]; omega
    refine ⟨rfl, a, e, s, (e.rows.take t).drop s, ins.map fun d => (none, d), by rw [List.map_map]; rfl, ga, by omega, by rw [List.length_map]; omega, fun G1 g1 o1 => ?_⟩
    rw [hnl] at g1
    have d1 : G1 e.dn = some (.lst e.dl) := (o1 _ A.ad).trans A.d
    have ad := A.ad
    walk_at "z"
    intro p hp
    obtain ⟨pd, hp1⟩ := upd_none hp
    have pa : p ≠ a := fun z => by rw [z, g1] at hp1; cases hp1
    have ap : a ≠ p := Ne.symm pa
    walk_at "z"
    rw [show (((e.rows.take s ++ ins.map (fun d => ((none, d) : Er1)) ++ e.rows.drop t).map rwD).length : Int) = ((e.rows.length - (t - s) + ins.length : Nat) : Int) by simp only [List.length_map, List.length_append, List.length_take, List.length_drop]; omega]
    have hp0 : G p = none := by rw [← o1 p pa]; exact hp1
    refine k (by omega) (by omega) (by omega) _ p ⟨Gl.updG_same, ?_, ?_, ad, pa, pd⟩ hp0 fun b hb nb nd => ?_
    · show Gl.updG _ _ _ e.dn = _
      rw [Gl.updG_ne ad, Gl.updG_ne (Ne.symm pd), Gl.updG_same]
    · show Gl.updG _ _ _ p = _
      rw [Gl.updG_ne pa, Gl.updG_same]
    · have bp : b ≠ p := fun z => hb (z ▸ hp0)
      rw [Gl.updG_ne nb, Gl.updG_ne bp, Gl.updG_ne nd]
      exact o1 b nb
/-! ### rows behind edits -/
def insR (t : List Dat) : List Er1 := t.map fun d => (none, d)
def kp (cs : List Dat) (p q : Nat) : List Er1 := ((numR 0 cs).take q).drop p
def rwE (cs : List Dat) : Nat → List Edt → List Er1
  | p, [] => kp cs p cs.length
  | p, x :: l => kp cs p x.s ++ (insR x.t ++ rwE cs x.e l)
def preE (cs : List Dat) : Nat → List Edt → List Er1
  | _, [] => []
  | p, x :: l => kp cs p x.s ++ (insR x.t ++ preE cs x.e l)
def endE : Nat → List Edt → Nat
  | p, [] => p
  | _, x :: l => endE x.e l
def shE : List Edt → Int
  | [] => 0
  | x :: l => x.t.length - (x.e - x.s) + shE l
def Fits (n : Nat) : Nat → List Edt → Prop
  | p, [] => p ≤ n
  | p, x :: l => p ≤ x.s ∧ x.s ≤ x.e ∧ x.e ≤ n ∧ (x.s = x.e → x.t ≠ []) ∧ (∀ y ∈ l, x.e < y.s) ∧ Fits n x.e l
theorem fits_of {n : Nat} : ∀ {l : List Edt} {p : Nat}, EdR l → (∀ x ∈ l, x.e ≤ n ∧ (x.s = x.e → x.t ≠ [])) → (∀ x ∈ l, p ≤ x.s) → p ≤ n → Fits n p l
  | [], p, _, _, _, h => h
  | x :: l, p, R, h1, h2, _ => by
    have hx := h1 x List.mem_cons_self
    have pw := List.pairwise_cons.mp R.a
    refine ⟨h2 x List.mem_cons_self, R.o x List.mem_cons_self, hx.1, hx.2, pw.1, fits_of (R.sub (List.sublist_cons_self _ _)) (fun y hy => h1 y (List.mem_cons_of_mem _ hy)) (fun y hy => Nat.le_of_lt (pw.1 y hy)) hx.1⟩
theorem numR_at : ∀ (ds : List Dat) (n i : Nat) (h : i < ds.length), (numR n ds)[i]? = some (some (n + i), ds[i])
  | [], _, _, h => absurd h (Nat.not_lt_zero _)
  | d :: ds, n, 0, _ => rfl
  | d :: ds, n, i + 1, h => by
    show (numR (n + 1) ds)[i]? = _
    rw [numR_at ds (n + 1) i (Nat.lt_of_succ_lt_succ h), show n + 1 + i = n + (i + 1) by omega]
    rfl
section
variable {cs : List Dat}
theorem kp_len {p q : Nat} (h : p ≤ q) (hq : q ≤ cs.length) : (kp cs p q).length = q - p := by
  unfold kp
  rw [List.length_drop, List.length_take, numR_l]
  omega
theorem kp_self (p : Nat) : kp cs p p = [] := by
  unfold kp
  exact List.drop_eq_nil_of_le (by rw [List.length_take]; omega)
theorem kp_at {p q j : Nat} (hq : q ≤ cs.length) (h : p + j < q) : (kp cs p q)[j]? = some (some (p + j), cs[p + j]'(by omega)) := by
  unfold kp
  rw [List.getElem?_drop, List.getElem?_take_of_lt h, numR_at cs 0 (p + j) (by omega), Nat.zero_add]
theorem kp_app {p q r : Nat} (h1 : p ≤ q) (h2 : q ≤ r) : kp cs p q ++ kp cs q r = kp cs p r := by
  unfold kp
  generalize numR 0 cs = l
  have e : l.take r = l.take q ++ (l.take r).drop q := by
    have := (List.take_append_drop q (l.take r)).symm
    rwa [List.take_take, Nat.min_eq_left h2] at this
  by_cases hq : q ≤ l.length
  · conv => rhs; rw [e]
    rw [List.drop_append_of_le_length (by rw [List.length_take]; omega)]
  · have e1 : l.take q = l := List.take_of_length_le (by omega)
    have e2 : l.take r = l := List.take_of_length_le (by omega)
    rw [e1, e2, List.drop_eq_nil_of_le (show l.length ≤ q by omega), List.append_nil]
theorem insR_len (t : List Dat) : (insR t).length = t.length := List.length_map ..
theorem rwE_app : ∀ (m1 m2 : List Edt) (p : Nat), rwE cs p (m1 ++ m2) = preE cs p m1 ++ rwE cs (endE p m1) m2
  | [], _, _ => rfl
  | x :: m1, m2, p => by
    show kp cs p x.s ++ (insR x.t ++ rwE cs x.e (m1 ++ m2)) = (kp cs p x.s ++ (insR x.t ++ preE cs x.e m1)) ++ rwE cs (endE x.e m1) m2
    rw [rwE_app m1 m2 x.e, List.append_assoc, List.append_assoc]
theorem fits_end : ∀ {m1 m2 : List Edt} {p : Nat}, Fits cs.length p (m1 ++ m2) → Fits cs.length (endE p m1) m2 ∧ p ≤ endE p m1
  | [], _, _, h => ⟨h, Nat.le_refl _⟩
  | x :: m1, m2, p, h => by
    obtain ⟨h1, h2, _, _, _, h6⟩ := h
    obtain ⟨a, b⟩ := fits_end (m1 := m1) h6
    exact ⟨a, by show p ≤ endE x.e m1; omega⟩
theorem fits_n : ∀ {l : List Edt} {p : Nat}, Fits cs.length p l → p ≤ cs.length
  | [], _, h => h
  | x :: l, p, h => by
    obtain ⟨h1, h2, h3, _⟩ := h
    omega
theorem pre_len : ∀ {m1 m2 : List Edt} {p : Nat}, Fits cs.length p (m1 ++ m2) → ((preE cs p m1).length : Int) = (endE p m1 : Int) - p + shE m1
  | [], _, p, _ => by
    show (0 : Int) = (p : Int) - p + 0
    omega
  | x :: m1, m2, p, h => by
    obtain ⟨h1, h2, h3, _, _, h6⟩ := h
    have ih := pre_len (m1 := m1) h6
    show ((kp cs p x.s ++ (insR x.t ++ preE cs x.e m1)).length : Int) = (endE x.e m1 : Int) - p + (x.t.length - (x.e - x.s) + shE m1)
    rw [List.length_append, List.length_append, kp_len h1 (by omega), insR_len]
    omega
theorem rwE_split : ∀ {m : List Edt} {q r : Nat}, q ≤ r → r ≤ cs.length → (∀ y ∈ m, r ≤ y.s) → rwE cs q m = kp cs q r ++ rwE cs r m
  | [], q, r, h, hn, _ => (kp_app h hn).symm
  | x :: m, q, r, h, hn, hs => by
    show kp cs q x.s ++ (insR x.t ++ rwE cs x.e m) = kp cs q r ++ (kp cs r x.s ++ (insR x.t ++ rwE cs x.e m))
    rw [← List.append_assoc (kp cs q r), kp_app h (hs x List.mem_cons_self)]
/-- one more edit among others -/
theorem rw_put {m1 m2 : List Edt} {x : Edt} (h : Fits cs.length 0 (m1 ++ x :: m2)) : ∃ S : Nat, (S : Int) = x.s + shE m1 ∧ S + (x.e - x.s) ≤ (rwE cs 0 (m1 ++ m2)).length ∧
    (rwE cs 0 (m1 ++ m2)).take S ++ insR x.t ++ (rwE cs 0 (m1 ++ m2)).drop (S + (x.e - x.s)) = rwE cs 0 (m1 ++ x :: m2) := by
  obtain ⟨F, hp⟩ := fits_end h
  have pl := pre_len h
  obtain ⟨h1, h2, h3, h4, h5, h6⟩ := F
  have k1 := kp_len h1 (Nat.le_trans h2 h3)
  have k2 := kp_len h2 h3
  have e1 : rwE cs 0 (m1 ++ m2) = preE cs 0 m1 ++ (kp cs (endE 0 m1) x.s ++ (kp cs x.s x.e ++ rwE cs x.e m2)) := by
    rw [rwE_app, rwE_split (Nat.le_trans h1 h2) h3 fun y hy => Nat.le_of_lt (h5 y hy), ← kp_app h1 h2, List.append_assoc]
  have e2 : rwE cs 0 (m1 ++ x :: m2) = preE cs 0 m1 ++ (kp cs (endE 0 m1) x.s ++ (insR x.t ++ rwE cs x.e m2)) := rwE_app m1 (x :: m2) 0
  refine ⟨(preE cs 0 m1).length + (x.s - endE 0 m1), by omega, ?_, ?_⟩
  · rw [e1]
    simp only [List.length_append]
    omega
  · rw [e1, e2, ← List.append_assoc (preE cs 0 m1), ← List.append_assoc (preE cs 0 m1)]
    have la : (preE cs 0 m1 ++ kp cs (endE 0 m1) x.s).length = (preE cs 0 m1).length + (x.s - endE 0 m1) := by rw [List.length_append, k1]
    generalize preE cs 0 m1 ++ kp cs (endE 0 m1) x.s = a at la ⊢
    rw [← la, List.take_left' rfl, ← k2, ← List.append_assoc a (kp cs x.s x.e), show a.length + (kp cs x.s x.e).length = (a ++ kp cs x.s x.e).length from List.length_append.symm, List.drop_left' rfl, List.append_assoc]
/-! what stands in them -/
def cnE (cs : List Dat) : Nat → List Edt → List Dat
  | p, [] => cs.drop p
  | p, x :: l => (cs.take x.s).drop p ++ (x.t ++ cnE cs x.e l)
theorem kp_snd (p q : Nat) : (kp cs p q).map (·.2) = (cs.take q).drop p := by
  unfold kp
  rw [List.map_drop, List.map_take, numR_c]
theorem rwE_snd : ∀ (l : List Edt) (p : Nat), (rwE cs p l).map (·.2) = cnE cs p l
  | [], p => by
    show (kp cs p cs.length).map (·.2) = cs.drop p
    rw [kp_snd, List.take_length]
  | x :: l, p => by
    show (kp cs p x.s ++ (insR x.t ++ rwE cs x.e l)).map (·.2) = (cs.take x.s).drop p ++ (x.t ++ cnE cs x.e l)
    rw [List.map_append, List.map_append, kp_snd, rwE_snd l x.e]
    congr 2
    unfold insR
    rw [List.map_map]
    exact List.map_id'' (fun _ => rfl) _
/-! the pieces of them -/
def Good (u : List Er1) : Prop := ∀ j (h : j + 1 < u.length), goesB u[j].1 u[j + 1].1 = true
theorem brk_at {r : List Er1} {j : Nat} (h : j + 1 < r.length) : brk r (j + 1) = !goesB r[j].1 r[j + 1].1 := by
  unfold brk
  rw [decide_eq_false (by omega : ¬ j + 1 = r.length), Bool.false_or, Nat.add_sub_cancel, getD_at (by omega), getD_at h]
theorem cuts_run {a u v : List Er1} {d : List (List Er1)} (h : cutsTo (a ++ (u ++ v)) a.length = (d, a.length)) (g : Good u) : ∀ j, j < u.length → cutsTo (a ++ (u ++ v)) (a.length + j) = (d, a.length)
  | 0, _ => h
  | j + 1, hj => by
    have ih := cuts_run h g j (by omega)
    show (if brk _ (a.length + j + 1) = true then _ else cutsTo _ (a.length + j)) = _
    have hl : a.length + j + 1 < (a ++ (u ++ v)).length := by rw [List.length_append, List.length_append]; omega
    have e1 : (a ++ (u ++ v))[a.length + j]'(by omega) = u[j] := by
      rw [List.getElem_append_right (by omega), List.getElem_append_left (by omega)]
      congr 1
      omega
    have e2 : (a ++ (u ++ v))[a.length + j + 1] = u[j + 1] := by
      rw [List.getElem_append_right (by omega), List.getElem_append_left (by omega)]
      congr 1
      omega
    rw [brk_at hl, e1, e2, g j hj, ih]
    rfl
theorem cuts_blk {a u v : List Er1} {d : List (List Er1)} (h : cutsTo (a ++ (u ++ v)) a.length = (d, a.length)) (g : Good u) (hu : u ≠ []) (hv : ∀ x y w, u.getLast? = some x → v = y :: w → goesB x.1 y.1 = false) : cutsTo (a ++ (u ++ v)) (a ++ u).length = (d ++ [u], (a ++ u).length) := by
  have lu : 0 < u.length := List.length_pos_iff.mpr hu
  have ih := cuts_run h g (u.length - 1) (by omega)
  have el : (a ++ u).length = a.length + (u.length - 1) + 1 := by rw [List.length_append]; omega
  have hb : brk (a ++ (u ++ v)) (a.length + (u.length - 1) + 1) = true := by
    cases v with
    | nil =>
      unfold brk
      rw [decide_eq_true (by rw [List.append_nil]; exact el.symm)]
      rfl
    | cons y w =>
      have hl : a.length + (u.length - 1) + 1 < (a ++ (u ++ y :: w)).length := by rw [List.length_append, List.length_append, List.length_cons]; omega
      have e1 : (a ++ (u ++ y :: w))[a.length + (u.length - 1)]'(by omega) = u[u.length - 1] := by
        rw [List.getElem_append_right (by omega), List.getElem_append_left (by omega)]
        congr 1
        omega
      have e2 : (a ++ (u ++ y :: w))[a.length + (u.length - 1) + 1] = y := by
        rw [List.getElem_append_right (by omega), List.getElem_append_right (by omega)]
        have : a.length + (u.length - 1) + 1 - a.length - u.length = 0 := by omega
        simp only [this]
        rfl
      rw [brk_at hl, e1, e2, hv u[u.length - 1] y w (by rw [List.getLast?_eq_getElem?]; exact List.getElem?_eq_getElem _) rfl]
      rfl
  rw [el]
  show (if brk _ (a.length + (u.length - 1) + 1) = true then _ else _) = _
  rw [if_pos hb, ih]
  show (d ++ [_], _) = _
  congr 2
  rw [← el]
  rw [← List.append_assoc, List.take_left' rfl, List.drop_left' rfl]
theorem good_kp {p q : Nat} (hq : q ≤ cs.length) : Good (kp cs p q) := fun j h => by
  have hl : p ≤ q := by
    by_cases z : p ≤ q
    · exact z
    · have : (kp cs p q).length = 0 := by
        unfold kp
        rw [List.length_drop, List.length_take]
        omega
      omega
  have := kp_len hl hq
  have e1 := kp_at (j := j) hq (by omega : p + j < q)
  have e2 := kp_at (j := j + 1) hq (by omega : p + (j + 1) < q)
  rw [List.getElem?_eq_getElem (by omega)] at e1 e2
  rw [Option.some.inj e1, Option.some.inj e2]
  exact decide_eq_true (by omega)
theorem good_ins (t : List Dat) : Good (insR t) := fun j h => by
  have e : ∀ i (hi : i < (insR t).length), (insR t)[i].1 = none := fun i hi => by
    obtain ⟨q, _, e⟩ := List.mem_map.mp (List.getElem_mem hi)
    rw [← e]
  rw [e, e]
  rfl
theorem last_kp {p q : Nat} (h : p < q) (hq : q ≤ cs.length) : ∃ d, (kp cs p q).getLast? = some (some (q - 1), d) := by
  have e : p + (q - p - 1) = q - 1 := by omega
  refine ⟨cs[p + (q - p - 1)]'(by omega), ?_⟩
  rw [List.getLast?_eq_getElem?, kp_len (Nat.le_of_lt h) hq, kp_at (j := q - p - 1) hq (by omega)]
  exact congrArg (fun z => some (some z, cs[p + (q - p - 1)]'(by omega))) e
theorem head_kp {p q : Nat} (h : p < q) (hq : q ≤ cs.length) : ∃ d w, kp cs p q = (some p, d) :: w := by
  have e := kp_at (j := 0) hq (by omega : p + 0 < q)
  cases hk : kp cs p q with
  | nil => rw [hk] at e; cases e
  | cons y w =>
    rw [hk] at e
    cases e
    exact ⟨_, w, rfl⟩
theorem head_rw {l : List Edt} {p : Nat} (F : Fits cs.length p l) (hl : ∀ y ∈ l, p < y.s) : rwE cs p l = [] ∨ ∃ d w, rwE cs p l = (some p, d) :: w := by
  cases l with
  | nil =>
    show kp cs p cs.length = [] ∨ ∃ d w, kp cs p cs.length = _
    by_cases h : p < cs.length
    · exact .inr (head_kp h (Nat.le_refl _))
    · have : p = cs.length := Nat.le_antisymm F (by omega)
      exact .inl (this ▸ kp_self _)
  | cons x l =>
    obtain ⟨h1, h2, h3, _⟩ := F
    obtain ⟨d, w, e⟩ := head_kp (cs := cs) (hl x List.mem_cons_self) (by omega : x.s ≤ cs.length)
    exact .inr ⟨d, w ++ (insR x.t ++ rwE cs x.e l), by show kp cs p x.s ++ _ = _; rw [e]; rfl⟩
def blkE (cs : List Dat) : Nat → List Edt → List (List Er1)
  | p, [] => if p < cs.length then [kp cs p cs.length] else []
  | p, x :: l => (if p < x.s then [kp cs p x.s] else []) ++ ((if x.t = [] then [] else [insR x.t]) ++ blkE cs x.e l)
theorem cuts_rw : ∀ {l : List Edt} {p : Nat} {a : List Er1} {d : List (List Er1)}, Fits cs.length p l → cutsTo (a ++ rwE cs p l) a.length = (d, a.length) → (cutsTo (a ++ rwE cs p l) (a ++ rwE cs p l).length).1 = d ++ blkE cs p l
  | [], p, a, d, F, h => by
    show (cutsTo (a ++ kp cs p cs.length) (a ++ kp cs p cs.length).length).1 = d ++ (if p < cs.length then [kp cs p cs.length] else [])
    by_cases hp : p < cs.length
    · rw [if_pos hp]
      obtain ⟨_, w, e⟩ := head_kp (cs := cs) hp (Nat.le_refl _)
      have := cuts_blk (u := kp cs p cs.length) (v := []) (by rw [List.append_nil]; exact h) (good_kp (Nat.le_refl _)) (by rw [e]; exact List.cons_ne_nil _ _) (fun x y w _ z => by cases z)
      rw [List.append_nil] at this
      rw [this]
    · rw [if_neg hp]
      have hp' : p = cs.length := Nat.le_antisymm F (by omega)
      have h' : cutsTo (a ++ kp cs p cs.length) a.length = (d, a.length) := h
      rw [hp', kp_self, List.append_nil] at h' ⊢
      rw [h', List.append_nil]
  | x :: l, p, a, d, F, h => by
    obtain ⟨h1, h2, h3, h4, h5, h6⟩ := F
    have hd := head_rw h6 h5
    show (cutsTo (a ++ (kp cs p x.s ++ (insR x.t ++ rwE cs x.e l))) (a ++ (kp cs p x.s ++ (insR x.t ++ rwE cs x.e l))).length).1 = d ++ ((if p < x.s then [kp cs p x.s] else []) ++ ((if x.t = [] then [] else [insR x.t]) ++ blkE cs x.e l))
    have h : cutsTo (a ++ (kp cs p x.s ++ (insR x.t ++ rwE cs x.e l))) a.length = (d, a.length) := h
    -- the kept rows
    have s1 : cutsTo (a ++ (kp cs p x.s ++ (insR x.t ++ rwE cs x.e l))) (a ++ kp cs p x.s).length = (d ++ (if p < x.s then [kp cs p x.s] else []), (a ++ kp cs p x.s).length) := by
      by_cases hp : p < x.s
      · rw [if_pos hp]
        obtain ⟨_, w, e⟩ := head_kp (cs := cs) hp (by omega)
        obtain ⟨dl, el⟩ := last_kp (cs := cs) hp (by omega)
        refine cuts_blk h (good_kp (by omega)) (by rw [e]; exact List.cons_ne_nil _ _) fun z y w hz hv => ?_
        rw [el] at hz
        cases hz
        by_cases ht : x.t = []
        · rw [ht] at hv
          have hv : rwE cs x.e l = y :: w := hv
          rcases hd with q | ⟨d', w', q⟩
          · rw [q] at hv; cases hv
          · rw [q] at hv
            cases hv
            have : x.s ≠ x.e := fun z => h4 z ht
            exact decide_eq_false (by omega)
        · cases hx : x.t with
          | nil => exact absurd hx ht
          | cons t0 tr =>
            rw [hx] at hv
            cases hv
            rfl
      · have : p = x.s := by omega
        subst this
        rw [if_neg (Nat.lt_irrefl _), kp_self, List.append_nil, List.append_nil]
        rw [kp_self] at h
        exact h
    have s2 : cutsTo ((a ++ kp cs p x.s) ++ (insR x.t ++ rwE cs x.e l)) ((a ++ kp cs p x.s) ++ insR x.t).length = ((d ++ (if p < x.s then [kp cs p x.s] else [])) ++ (if x.t = [] then [] else [insR x.t]), ((a ++ kp cs p x.s) ++ insR x.t).length) := by
      rw [← List.append_assoc] at s1
      by_cases ht : x.t = []
      · rw [if_pos ht, ht, show insR [] = [] from rfl, List.append_nil, List.append_nil]
        rw [ht] at s1
        exact s1
      · rw [if_neg ht]
        have hne : insR x.t ≠ [] := fun z => ht (List.map_eq_nil_iff.mp z)
        refine cuts_blk s1 (good_ins _) hne fun z y w hz hv => ?_
        have hz1 : z.1 = none := by
          have := List.mem_of_getLast? hz
          obtain ⟨q, _, rfl⟩ := List.mem_map.mp this
          rfl
        rw [hz1]
        rcases hd with q | ⟨d', w', q⟩
        · rw [q] at hv; cases hv
        · rw [q] at hv
          cases hv
          rfl
    rw [← List.append_assoc] at s2
    have := cuts_rw h6 s2
    rw [← List.append_assoc, ← List.append_assoc, ← List.append_assoc d, ← List.append_assoc]
    exact this
theorem pc_kp {p q : Nat} (h : p < q) (hq : q ≤ cs.length) : pcOf (kp cs p q) = .kept p q := by
  obtain ⟨d, w, e⟩ := head_kp (cs := cs) h hq
  have := kp_len (cs := cs) (Nat.le_of_lt h) hq
  rw [e] at this ⊢
  show Pc.kept p (p + (w.length + 1)) = _
  rw [List.length_cons] at this
  congr 1
  omega
theorem pc_ins {t : List Dat} (h : t ≠ []) : pcOf (insR t) = .ins t := by
  cases t with
  | nil => exact absurd rfl h
  | cons d t =>
    show Pc.ins ((((none, d) : Er1) :: t.map fun d => (none, d)).map (·.2)) = _
    rw [List.map_cons, List.map_map]
    congr 2
    exact List.map_id'' (fun _ => rfl) _
def pzE (cs : List Dat) (p : Nat) (l : List Edt) : List Pc := (blkE cs p l).map pcOf ++ [.kept cs.length cs.length]
theorem pz_first {l : List Edt} {p : Nat} (F : Fits cs.length p l) (hl : ∀ y ∈ l, p < y.s) : ∃ z w, pzE cs p l = .kept p z :: w := by
  unfold pzE
  cases l with
  | nil =>
    show ∃ z w, (if p < cs.length then [kp cs p cs.length] else []).map pcOf ++ _ = _
    by_cases h : p < cs.length
    · rw [if_pos h]
      exact ⟨_, _, by rw [List.map_cons, pc_kp h (Nat.le_refl _)]; rfl⟩
    · rw [if_neg h]
      have : p = cs.length := Nat.le_antisymm F (by omega)
      exact ⟨cs.length, [], by rw [this]; rfl⟩
  | cons x l =>
    obtain ⟨h1, h2, h3, _⟩ := F
    have hx := hl x List.mem_cons_self
    exact ⟨x.s, ((if x.t = [] then [] else [insR x.t]) ++ blkE cs x.e l).map pcOf ++ [.kept cs.length cs.length], by
      show List.map pcOf ((if p < x.s then [kp cs p x.s] else []) ++ _) ++ _ = _
      rw [if_pos hx, List.map_append, List.map_cons, pc_kp hx (by omega)]
      rfl⟩
theorem ef_rw : ∀ {l : List Edt} {p : Nat} {f : List Edt}, Fits cs.length p l → (efRun ⟨f, p, []⟩ (pzE cs p l)).f = f ++ l
  | [], p, f, F => by
    unfold pzE
    show (efRun _ ((if p < cs.length then [kp cs p cs.length] else []).map pcOf ++ _)).f = _
    rw [List.append_nil]
    by_cases h : p < cs.length
    · rw [if_pos h, List.map_cons, pc_kp h (Nat.le_refl _)]
      show (efStep (efStep ⟨f, p, []⟩ (.kept p cs.length)) (.kept cs.length cs.length)).f = f
      have e1 : efStep ⟨f, p, []⟩ (.kept p cs.length) = ⟨f, cs.length, []⟩ := by
        show EfS.mk (if p < p ∨ ([] : List Dat) ≠ [] then _ else _) _ _ = _
        rw [if_neg (fun z => z.elim (Nat.lt_irrefl _) (fun z => z rfl))]
      rw [e1]
      show (if cs.length < cs.length ∨ ([] : List Dat) ≠ [] then _ else f) = f
      rw [if_neg (fun z => z.elim (Nat.lt_irrefl _) (fun z => z rfl))]
    · rw [if_neg h]
      show (if p < cs.length ∨ ([] : List Dat) ≠ [] then _ else f) = f
      rw [if_neg (fun z => z.elim h (fun z => z rfl))]
  | x :: l, p, f, F => by
    obtain ⟨h1, h2, h3, h4, h5, h6⟩ := F
    have e0 : pzE cs p (x :: l) = (if p < x.s then [Pc.kept p x.s] else []) ++ ((if x.t = [] then [] else [Pc.ins x.t]) ++ pzE cs x.e l) := by
      unfold pzE
      show List.map pcOf ((if p < x.s then [kp cs p x.s] else []) ++ ((if x.t = [] then [] else [insR x.t]) ++ blkE cs x.e l)) ++ _ = _
      rw [List.map_append, List.map_append, List.append_assoc, List.append_assoc]
      congr 1
      · by_cases hp : p < x.s
        · rw [if_pos hp, if_pos hp, List.map_cons, pc_kp hp (by omega)]
          rfl
        · rw [if_neg hp, if_neg hp]
          rfl
      · congr 1
        by_cases ht : x.t = []
        · rw [if_pos ht, if_pos ht]
          rfl
        · rw [if_neg ht, if_neg ht, List.map_cons, pc_ins ht]
          rfl
    have r1 : ∀ L, efRun ⟨f, p, []⟩ ((if p < x.s then [Pc.kept p x.s] else []) ++ L) = efRun ⟨f, x.s, []⟩ L := fun L => by
      by_cases hp : p < x.s
      · rw [if_pos hp]
        show efRun (efStep ⟨f, p, []⟩ (.kept p x.s)) L = _
        have e1 : efStep ⟨f, p, []⟩ (.kept p x.s) = ⟨f, x.s, []⟩ := by
          show EfS.mk (if p < p ∨ ([] : List Dat) ≠ [] then _ else _) _ _ = _
          rw [if_neg (fun z => z.elim (Nat.lt_irrefl _) (fun z => z rfl))]
        rw [e1]
      · rw [if_neg hp, show p = x.s by omega]
        rfl
    have r2 : ∀ L, efRun ⟨f, x.s, []⟩ ((if x.t = [] then [] else [Pc.ins x.t]) ++ L) = efRun ⟨f, x.s, x.t⟩ L := fun L => by
      by_cases ht : x.t = []
      · rw [if_pos ht, ht]
        rfl
      · rw [if_neg ht]
        rfl
    rw [e0, r1, r2]
    obtain ⟨z, w, e⟩ := pz_first h6 h5
    have r3 : efRun ⟨f, x.s, x.t⟩ (pzE cs x.e l) = efRun ⟨f ++ [x], x.e, []⟩ (pzE cs x.e l) := by
      rw [e]
      show efRun (efStep ⟨f, x.s, x.t⟩ (.kept x.e z)) w = efRun (efStep ⟨f ++ [x], x.e, []⟩ (.kept x.e z)) w
      congr 1
      show EfS.mk (if x.s < x.e ∨ x.t ≠ [] then f ++ [⟨x.s, x.e, x.t⟩] else f) z [] = EfS.mk (if x.e < x.e ∨ ([] : List Dat) ≠ [] then _ else f ++ [x]) z []
      have c : x.s < x.e ∨ x.t ≠ [] := by
        by_cases q : x.s = x.e
        · exact .inr (h4 q)
        · exact .inl (by omega)
      rw [if_pos c, if_neg (fun z => z.elim (Nat.lt_irrefl _) (fun z => z rfl))]
    rw [r3, ef_rw h6, List.append_assoc]
    rfl
/-- the edits of such rows -/
theorem edits_rw {l : List Edt} (F : Fits cs.length 0 l) : edP (pcs (rwE cs 0 l)) cs.length = l := by
  have h := cuts_rw (a := []) (d := []) F rfl
  have e : pcs (rwE cs 0 l) = (blkE cs 0 l).map pcOf := by
    unfold pcs
    exact congrArg (List.map pcOf) h
  unfold edP
  rw [e]
  exact (ef_rw (f := []) F).trans (List.nil_append _)
theorem rwE_len : ∀ {l : List Edt} {p : Nat}, Fits cs.length p l → ((rwE cs p l).length : Int) = cs.length - p + shE l
  | [], p, h => by
    show ((kp cs p cs.length).length : Int) = cs.length - p + 0
    rw [kp_len h (Nat.le_refl _)]
    have : p ≤ cs.length := h
    omega
  | x :: l, p, h => by
    obtain ⟨h1, h2, h3, _, _, h6⟩ := h
    have ih := rwE_len h6
    show ((kp cs p x.s ++ (insR x.t ++ rwE cs x.e l)).length : Int) = cs.length - p + (x.t.length - (x.e - x.s) + shE l)
    rw [List.length_append, List.length_append, kp_len h1 (by omega), insR_len]
    omega
end
/-! ### what edits make of contents -/
def preC (cs : List Dat) : Nat → List Edt → List Dat
  | _, [] => []
  | p, x :: l => (cs.take x.s).drop p ++ (x.t ++ preC cs x.e l)
theorem cnE_pre (cs : List Dat) : ∀ (l : List Edt) (p : Nat), cnE cs p l = preC cs p l ++ cs.drop (endE p l)
  | [], _ => rfl
  | x :: l, p => by
    show (cs.take x.s).drop p ++ (x.t ++ cnE cs x.e l) = ((cs.take x.s).drop p ++ (x.t ++ preC cs x.e l)) ++ cs.drop (endE x.e l)
    rw [cnE_pre cs l, List.append_assoc, List.append_assoc]
theorem preC_snoc (cs : List Dat) (x : Edt) : ∀ (l : List Edt) (p : Nat), preC cs p (l ++ [x]) = preC cs p l ++ (cs.take x.s).drop (endE p l) ++ x.t ∧ endE p (l ++ [x]) = x.e
  | [], p => by
    show (cs.take x.s).drop p ++ (x.t ++ []) = [] ++ (cs.take x.s).drop p ++ x.t ∧ x.e = x.e
    rw [List.append_nil, List.nil_append]
    exact ⟨rfl, rfl⟩
  | y :: l, p => by
    obtain ⟨a, b⟩ := preC_snoc cs x l y.e
    refine ⟨?_, b⟩
    show (cs.take y.s).drop p ++ (y.t ++ preC cs y.e (l ++ [x])) = ((cs.take y.s).drop p ++ (y.t ++ preC cs y.e l)) ++ (cs.take x.s).drop (endE y.e l) ++ x.t
    rw [a]
    simp only [List.append_assoc]
theorem preC_len {cs : List Dat} {b : Nat} : ∀ {l : List Edt} {p : Nat}, (∀ x ∈ l, x.t.length ≤ b) → (preC cs p l).length ≤ l.length * (cs.length + b)
  | [], _, _ => Nat.zero_le _
  | x :: l, p, h => by
    have ih := preC_len (cs := cs) (p := x.e) fun y hy => h y (List.mem_cons_of_mem _ hy)
    have hx := h x List.mem_cons_self
    show ((cs.take x.s).drop p ++ (x.t ++ preC cs x.e l)).length ≤ (l.length + 1) * (cs.length + b)
    rw [List.length_append, List.length_append, List.length_drop, List.length_take, Nat.succ_mul]
    omega
theorem ends_int (p : Nat) (l : List Edt) : (endE p l : Int) = ((endE p l : Nat) : Int) := rfl
structure EdL (cs : List Dat) (l : List Edt) : Prop where
  c : cs.length ≤ 2000
  n : l.length ≤ 100
  t : ∀ x ∈ l, x.t.length ≤ 100
theorem EdL.pl {cs : List Dat} {l : List Edt} (h : EdL cs l) (i : Nat) (p : Nat) : (preC cs p (l.take i)).length ≤ 300000 := by
  refine Nat.le_trans (preC_len (b := 100) fun x hx => h.t x (List.mem_of_mem_take hx)) ?_
  refine Nat.le_trans (Nat.mul_le_mul (show (l.take i).length ≤ 100 by rw [List.length_take]; have := h.n; omega) (show cs.length + 100 ≤ 2100 by have := h.c; omega)) (by decide)
theorem EdL.cl {cs : List Dat} {l : List Edt} (h : EdL cs l) : (cnE cs 0 l).length ≤ 400000 := by
  have := h.pl l.length 0
  rw [List.take_length] at this
  rw [cnE_pre, List.length_append, List.length_drop]
  have := h.c
  omega
def dAppE : DSpX := fun ds Q X => ∃ (cs : List Dat) (l : List Edt), ds = [.tuple cs, .tuple (l.map Edt.d)] ∧ EdL cs l ∧ ((cnE cs 0 l).length ≤ 2000 → Q (.tuple (cnE cs 0 l)) .none) ∧ (2000 < (cnE cs 0 l).length → X (eMany ((cnE cs 0 l).length : Nat)) .none)
abbrev s_apply_edits : Stmt := top 10
theorem c_apply_edits : FnScope ["contents", "edits", "found", "place", "start", "end", "inserted"] ["contents", "edits"] (defScope s_apply_edits) := ⟨rfl, rfl, rfl, by decide +kernel, rfl, by decide +kernel, by decide +kernel⟩

theorem ok_apply_edits {f : Addr} {fd : FuncData} (F : Fun K "apply_edits" "apply_edits" s_apply_edits f fd) (T : Txt mg) (C_checked : ClX P w K mg base 4 "checked" ["contents"] (spOfX mg 1 none false dChkd)) : FnOk P w K mg base (L2.CX P w) 5 f fd ["contents", "edits"] (spOfX mg 2 none false dAppE) := by
  refine F.okX c_apply_edits (fun vs H Q E h => h.1) (fun cdv A outer s H vs Q E hr h => ?_)
  refine ⟨_, (pss_cons (ps_set (i := 2) c_apply_edits.nd rfl (Or.inl rfl) (pe_lst pa_nil))
      (pss_cons (ps_set (i := 3) c_apply_edits.nd rfl (Or.inl rfl) pe_int)
      (pss_cons (ps_for (passes_of rfl) rfl (pi_tup (pv 1)) (pg_tup rfl (pgs_cons (pg_name (i := 4) c_apply_edits.nd rfl (Or.inl rfl)) (pgs_cons (pg_name (i := 5) c_apply_edits.nd rfl (Or.inl rfl)) (pgs_cons (pg_name (i := 6) c_apply_edits.nd rfl (Or.inl rfl)) pgs_nil)))) (pss_cons (ps_expr (pe_bm PySem.F.plainAttrs_list PySem.F.slot_list_extend PySem.F.type_list_extend Em.mt_extendT (pv 2) (pa_cons (pe_slice (r := rSlA K) sl_tupA (pv 0) (po_some (pv 3)) (po_some (pv 4))) pa_nil)))
      (pss_cons (ps_expr (pe_bm PySem.F.plainAttrs_list PySem.F.slot_list_extend PySem.F.type_list_extend Em.mt_extendT (pv 2) (pa_cons (pv 6) pa_nil)))
      (pss_one (ps_set (i := 3) c_apply_edits.nd rfl (Or.inl rfl) (pv 5))))))
      (pss_cons (ps_expr (pe_bm PySem.F.plainAttrs_list PySem.F.slot_list_extend PySem.F.type_list_extend Em.mt_extendT (pv 2) (pa_cons (pe_slice (r := rSlA K) sl_tupA (pv 0) (po_some (pv 3)) po_none) pa_nil)))
      (pss_one (ps_ret (Dl.pe_clX C_checked (takes_of rfl rfl rfl rfl) (hr.mono (by omega)) (by rfl) (pa_cons (pe_callTy (r := Dl.rTupleOf K) Dl.cr_tupleOf (by rfl) T.n_tuple (by decide +kernel) (pa_cons (pv 2) pa_nil)) pa_nil)))))))), ?_⟩
  apply entryX0 (O := fun i => i == 2) h
  (case ht => intro dy Xc hx; walk_at "rf")
  (case hO => decide)

  rintro ds Qd Xd hn ⟨cs, l, rfl, L, k1, k2⟩
  have hc := L.c
  walk_at "z"
  refine ⟨_, rfl, fun i E => ∃ a b c, E = [some (.tuple cs), some (.tuple (l.map Edt.d)), some (.list (preC cs 0 (l.take i))), some (.int (endE 0 (l.take i))), a, b, c], ⟨none, none, none, rfl⟩, ?_, ?_⟩
  · rintro i x E hi hx ⟨a, b, c, rfl⟩
    obtain ⟨hi', rfl⟩ := map_get hx
    have tk : l.take (i + 1) = l.take i ++ [l[i]] := by rw [List.take_succ, List.getElem?_eq_getElem hi']; rfl
    obtain ⟨p1, p2⟩ := preC_snoc cs l[i] (l.take i) 0
    have pl := L.pl i 0
    have tl := L.t l[i] (List.getElem_mem hi')
    rw [show l[i].d = PyData.tuple [.int l[i].s, .int l[i].e, .tuple l[i].t] from rfl]
    have dl : ((cs.take l[i].s).drop (endE 0 (l.take i))).length ≤ 2000 := by rw [List.length_drop, List.length_take]; omega
    walk_at "z"
    refine ⟨_, rfl, ?_⟩
    walk_at "z"
    rw [cutD_both]
    refine ⟨_, _, rfl, rfl, szle2 (by omega), ?_⟩
    walk_at "z"
    refine ⟨_, rfl, ?_⟩
    walk_at "z"
    refine ⟨_, _, rfl, rfl, szle2 (by rw [List.length_append]; omega), ?_⟩
    walk_at "z"
    exact ⟨_, _, _, by rw [tk, p1, p2]; rfl⟩
  · rintro E ⟨a, b, c, rfl⟩
    rw [take_all]
    have pl := L.pl l.length 0
    rw [List.take_length] at pl
    have cl := L.cl
    rw [cnE_pre] at k1 k2 cl
    have dl : (cs.drop (endE 0 l)).length ≤ 2000 := by rw [List.length_drop]; omega
    walk_at "z"
    refine ⟨_, rfl, ?_⟩
    walk_at "z"
    rw [cutD_from]
    refine ⟨_, _, rfl, rfl, szle2 (by omega), ?_⟩
    walk_at "z"
    refine ⟨_, _, rfl, rfl, by omega, fun h => ?_, fun h => k2 h⟩
    walk_at "z"
    exact k1 h
def dEdtd : DSp := fun ds Q => ∃ (cs : List Dat) (l : List Edt), ds = [.tuple cs, .tuple (l.map Edt.d)] ∧ EdL cs l ∧ Q (.tuple (cnE cs 0 l)) .none
abbrev s__law_edited : Stmt := top 28
theorem c__law_edited : FnScope ["base", "edits", "found", "place", "edit"] ["base", "edits"] (defScope s__law_edited) := ⟨rfl, rfl, rfl, by decide +kernel, rfl, by decide +kernel, by decide +kernel⟩

theorem ok_edited {f : Addr} {fd : FuncData} (F : Fun K "_law_edited" "_law_edited" s__law_edited f fd) (T : Txt mg) : FnOk P w K mg base CX0 1 f fd ["base", "edits"] (spOf 2 none false dEdtd) := by
  refine F.ok c__law_edited (fun vs H Q E h => h.1) (fun cdv A outer s H vs Q E hr h => ?_)
  refine ⟨_, (pss_cons (ps_set (i := 2) c__law_edited.nd rfl (Or.inl rfl) (pe_lst pa_nil))
      (pss_cons (ps_set (i := 3) c__law_edited.nd rfl (Or.inl rfl) pe_int)
      (pss_cons (ps_for PassesOwn.never rfl (pi_tup (pv 1)) (pg_name (i := 4) c__law_edited.nd rfl (Or.inl rfl)) (pss_cons (ps_set (i := 2) c__law_edited.nd rfl (Or.inl rfl) (pe_op op_cat (pe_op op_cat (pv 2) (pe_callTy (r := Dl.rListU K) (Dl.call_listU rfl) (by rfl) T.n_list (by decide +kernel) (pa_cons (pe_slice (r := rSlA K) sl_tupA (pv 0) (po_some (pv 3)) (po_some (pe_ix (r := rIxT K) ix_tup (pv 4) pe_int (fun _ _ => rfl)))) pa_nil))) (pe_callTy (r := Dl.rListU K) (Dl.call_listU rfl) (by rfl) T.n_list (by decide +kernel) (pa_cons (pe_ix (r := rIxT K) ix_tup (pv 4) pe_int (fun _ _ => rfl)) pa_nil))))
      (pss_one (ps_set (i := 3) c__law_edited.nd rfl (Or.inl rfl) (pe_ix (r := rIxT K) ix_tup (pv 4) pe_int (fun _ _ => rfl))))))
      (pss_one (ps_ret (pe_callTy (r := Dl.rTupleOf K) Dl.cr_tupleOf (by rfl) T.n_tuple (by decide +kernel) (pa_cons (pe_op op_cat (pv 2) (pe_callTy (r := Dl.rListU K) (Dl.call_listU rfl) (by rfl) T.n_list (by decide +kernel) (pa_cons (pe_slice (r := rSlA K) sl_tupA (pv 0) (po_some (pv 3)) po_none) pa_nil))) pa_nil))))))), ?_⟩
  apply entry0 (O := fun _ => false) h
  (case ht => intro dy; walk_at "rf")
  (case hO => decide)

  rintro ds Qd hn ⟨cs, l, rfl, L, k⟩
  have hc := L.c
  walk_at "z"
  refine ⟨_, rfl, fun i E => ∃ a, E = [some (.tuple cs), some (.tuple (l.map Edt.d)), some (.list (preC cs 0 (l.take i))), some (.int (endE 0 (l.take i))), a], ⟨none, rfl⟩, ?_, ?_⟩
  · rintro i x E hi hx ⟨a, rfl⟩
    obtain ⟨hi', rfl⟩ := map_get hx
    have tk : l.take (i + 1) = l.take i ++ [l[i]] := by rw [List.take_succ, List.getElem?_eq_getElem hi']; rfl
    obtain ⟨p1, p2⟩ := preC_snoc cs l[i] (l.take i) 0
    have pl := L.pl i 0
    have tl := L.t l[i] (List.getElem_mem hi')
    have dl : ((cs.take l[i].s).drop (endE 0 (l.take i))).length ≤ 2000 := by rw [List.length_drop, List.length_take]; omega
    rw [show l[i].d = PyData.tuple [.int l[i].s, .int l[i].e, .tuple l[i].t] from rfl]
    walk_at "z"
    exact ⟨_, by rw [tk, p1, p2, cutD_both]; rfl⟩
  · rintro E ⟨a, rfl⟩
    rw [take_all]
    have pl := L.pl l.length 0
    rw [List.take_length] at pl
    have dl : (cs.drop (endE 0 l)).length ≤ 2000 := by rw [List.length_drop]; omega
    rw [cnE_pre] at k
    walk_at "z"
    rw [cutD_from]
    exact k
theorem shE_le : ∀ {l : List Edt}, (∀ x ∈ l, x.t.length ≤ 3 ∧ x.s ≤ x.e) → shE l ≤ 3 * l.length
  | [], _ => Int.le_refl _
  | x :: l, h => by
    have ih := shE_le fun y hy => h y (List.mem_cons_of_mem _ hy)
    have hx := h x List.mem_cons_self
    show (x.t.length - (x.e - x.s) + shE l : Int) ≤ 3 * (l.length + 1 : Nat)
    omega
theorem shE_snoc (x : Edt) : ∀ l : List Edt, shE (l ++ [x]) = shE l + (x.t.length - (x.e - x.s))
  | [] => by
    show (x.t.length - (x.e - x.s) + 0 : Int) = 0 + (x.t.length - (x.e - x.s))
    omega
  | y :: l => by
    show (y.t.length - (y.e - y.s) + shE (l ++ [x]) : Int) = (y.t.length - (y.e - y.s) + shE l) + (x.t.length - (x.e - x.s))
    rw [shE_snoc x l]
    omega
theorem rw_nil (cs : List Dat) : rwE cs 0 [] = numR 0 cs := by
  show kp cs 0 cs.length = _
  unfold kp
  rw [List.drop_zero]
  exact List.take_of_length_le (Nat.le_of_eq (numR_l cs 0))
theorem eds_dep {l : List Edt} (h : l.length ≤ 1000000) (hd : ∀ x ∈ l, EdD x) (n : Nat) : Dep (n + 4) (.tuple (l.map Edt.d)) := .tup (by rw [List.length_map]; exact h) fun x hx => by
  obtain ⟨p, hp, rfl⟩ := List.mem_map.mp hx
  exact ed_dep (hd p hp) n
theorem cn_mem {cs : List Dat} {y : Dat} : ∀ {l : List Edt} {p : Nat}, y ∈ cnE cs p l → y ∈ cs ∨ ∃ x ∈ l, y ∈ x.t
  | [], _, h => .inl (List.mem_of_mem_drop h)
  | x :: l, p, h => by
    rcases List.mem_append.mp (show y ∈ (cs.take x.s).drop p ++ (x.t ++ cnE cs x.e l) from h) with h | h
    · exact .inl (List.mem_of_mem_take (List.mem_of_mem_drop h))
    · rcases List.mem_append.mp h with h | h
      · exact .inr ⟨x, List.mem_cons_self, h⟩
      · rcases cn_mem h with h | ⟨z, hz, hy⟩
        · exact .inl h
        · exact .inr ⟨z, List.mem_cons_of_mem _ hz, hy⟩
theorem cn_len {cs : List Dat} {l : List Edt} (F : Fits cs.length 0 l) : ((cnE cs 0 l).length : Int) = cs.length + shE l := by
  have := rwE_len F
  rw [← rwE_snd, List.length_map]
  omega
theorem any_ed {os : List Edt} {x : Edt} (h : ∀ y ∈ os, EdD y) (hx : EdD x) : ((os.map Edt.d).any fun z => PyData.eqv z x.d) = @decide (x ∈ os) (Classical.propDecidable _) := by
  have : ((os.map Edt.d).any fun z => PyData.eqv z x.d) = true ↔ x ∈ os := by
    rw [List.any_eq_true]
    constructor
    · rintro ⟨d, hd, e⟩
      obtain ⟨y, hy, rfl⟩ := List.mem_map.mp hd
      rw [← ed_inj ((pk_eqv _ _ (ed_pk (h y hy)) (ed_pk hx)).mp e)]
      exact hy
    · intro hm
      exact ⟨x.d, List.mem_map.mpr ⟨x, hm, rfl⟩, (pk_eqv _ _ (ed_pk hx) (ed_pk hx)).mpr rfl⟩
  by_cases q : x ∈ os
  · rw [@decide_eq_true _ (Classical.propDecidable _) q, this.mpr q]
  · rw [@decide_eq_false _ (Classical.propDecidable _) q]
    cases e : ((os.map Edt.d).any fun z => PyData.eqv z x.d) with
    | true => exact absurd (this.mp e) q
    | false => rfl
theorem tup_pk {l : List Edt} (h : ∀ x ∈ l, EdD x) : Pk (.tuple (l.map Edt.d)) := .tup _ fun x hx => by
  obtain ⟨p, hp, rfl⟩ := List.mem_map.mp hx
  exact ed_pk (h p hp)
/-! ### both sides, one behind the other -/
def dBoth : DSp := fun ds Q => ∃ (bs : List Dat) (l os ts : List Edt), ds = [.tuple bs, .tuple (os.map Edt.d), .tuple (ts.map Edt.d)] ∧ EdR l ∧ bs.length ≤ 16 ∧ l.length ≤ 6 ∧ (∀ x ∈ l, x.e ≤ bs.length ∧ (x.s = x.e → x.t ≠ []) ∧ x.t.length ≤ 3) ∧ os.Sublist l ∧ ts.Sublist l ∧ (∀ x ∈ l, x ∈ os ∨ x ∈ ts) ∧ Q (.tuple [.tuple (cnE bs 0 l), .tuple (l.map Edt.d)]) .none
noncomputable def pB (p : Edt → Prop) (x : Edt) : Bool := @decide (p x) (Classical.propDecidable _)
theorem pB_t {p : Edt → Prop} {x : Edt} (h : p x) : pB p x = true := @decide_eq_true _ (Classical.propDecidable _) h
theorem pB_f {p : Edt → Prop} {x : Edt} (h : ¬ p x) : ¬ pB p x = true := fun z => h (@of_decide_eq_true _ (Classical.propDecidable _) z)
noncomputable def selE (p : Edt → Prop) (l : List Edt) : List Edt := l.filter (pB p)
theorem sel_y {p : Edt → Prop} {x : Edt} {l : List Edt} (h : p x) : selE p (x :: l) = x :: selE p l := List.filter_cons_of_pos (pB_t h)
theorem sel_n {p : Edt → Prop} {x : Edt} {l : List Edt} (h : ¬ p x) : selE p (x :: l) = selE p l := List.filter_cons_of_neg (pB_f h)
theorem sel_app {p : Edt → Prop} {l m : List Edt} : selE p (l ++ m) = selE p l ++ selE p m := List.filter_append ..
theorem sel_congr {p q : Edt → Prop} : ∀ {l : List Edt}, (∀ x ∈ l, p x ↔ q x) → selE p l = selE q l
  | [], _ => rfl
  | x :: l, h => by
    have ih := sel_congr fun y hy => h y (List.mem_cons_of_mem _ hy)
    by_cases z : p x
    · rw [sel_y z, sel_y ((h x List.mem_cons_self).mp z), ih]
    · rw [sel_n z, sel_n (fun w => z ((h x List.mem_cons_self).mpr w)), ih]
theorem sel_all {p : Edt → Prop} : ∀ {l : List Edt}, (∀ x ∈ l, p x) → selE p l = l
  | [], _ => rfl
  | x :: l, h => by rw [sel_y (h x List.mem_cons_self), sel_all fun y hy => h y (List.mem_cons_of_mem _ hy)]
theorem sel_none {p : Edt → Prop} : ∀ {l : List Edt}, (∀ x ∈ l, ¬ p x) → selE p l = []
  | [], _ => rfl
  | x :: l, h => by rw [sel_n (h x List.mem_cons_self), sel_none fun y hy => h y (List.mem_cons_of_mem _ hy)]
theorem sel_sub {os l : List Edt} (s : os.Sublist l) : l.Nodup → selE (· ∈ os) l = os := by
  induction s with
  | slnil => exact fun _ => rfl
  | cons a s ih =>
    intro nd
    have nd := List.nodup_cons.mp nd
    rw [sel_n fun h => nd.1 (s.subset h), ih nd.2]
  | @cons_cons os' l' a s ih =>
    intro nd
    have nd := List.nodup_cons.mp nd
    have c : selE (· ∈ a :: os') l' = selE (· ∈ os') l' := sel_congr fun x hx => ⟨fun h => (List.mem_cons.mp h).resolve_left fun z => nd.1 (z ▸ hx), fun h => List.mem_cons_of_mem _ h⟩
    rw [sel_y (p := (· ∈ a :: os')) List.mem_cons_self, c, ih nd.2]
theorem sel_put {p : Edt → Prop} {l1 l2 : List Edt} {x : Edt} (hp : ¬ p x) (n1 : x ∉ l1) (n2 : x ∉ l2) : selE p (l1 ++ x :: l2) = selE p l1 ++ selE p l2 ∧ selE (fun y => p y ∨ y = x) (l1 ++ x :: l2) = selE p l1 ++ x :: selE p l2 := by
  refine ⟨by rw [sel_app, sel_n hp], ?_⟩
  rw [sel_app, sel_y (p := fun y => p y ∨ y = x) (Or.inr rfl), sel_congr (q := p) (l := l1) fun y hy => ⟨fun h => h.resolve_right fun z => n1 (z ▸ hy), .inl⟩, sel_congr (q := p) (l := l2) fun y hy => ⟨fun h => h.resolve_right fun z => n2 (z ▸ hy), .inl⟩]
theorem EdR.nd {l : List Edt} (R : EdR l) : l.Nodup := R.asc.imp fun h z => by rw [z] at h; omega
theorem sel_lsub (p : Edt → Prop) (l : List Edt) : (selE p l).Sublist l := List.filter_sublist
/-- how far the edit's place has moved -/
theorem moved_eq {l1 l2 os : List Edt} {x : Edt} (R : EdR (l1 ++ x :: l2)) (so : os.Sublist (l1 ++ x :: l2)) (hx : x ∉ os) : selE (fun y => y.s < x.s) os = selE (· ∈ os) l1 := by
  have pw := List.pairwise_append.mp R.asc
  have pw2 := List.pairwise_cons.mp pw.2.1
  have n1 : x ∉ l1 := fun h => by have := pw.2.2 x h x List.mem_cons_self; omega
  have n2 : x ∉ l2 := fun h => by have := pw2.1 x h; omega
  have e := sel_sub so R.nd
  rw [(sel_put (p := (· ∈ os)) hx n1 n2).1] at e
  conv => lhs; rw [← e]
  rw [sel_app, sel_all (l := selE (· ∈ os) l1), sel_none (l := selE (· ∈ os) l2), List.append_nil]
  · intro y hy
    have := pw2.1 y ((sel_lsub _ _).subset hy)
    omega
  · intro y hy
    exact pw.2.2 y ((sel_lsub _ _).subset hy) x List.mem_cons_self
abbrev s__law_both : Stmt := top 29
theorem c__law_both : FnScope ["base", "ours", "theirs", "editor", "edit", "moved", "other"] ["base", "ours", "theirs"] (defScope s__law_both) := ⟨rfl, rfl, rfl, by decide +kernel, rfl, by decide +kernel, by decide +kernel⟩

theorem ok_both {f : Addr} {fd : FuncData} (F : Fun K "_law_both" "_law_both" s__law_both f fd) (T : Txt mg) (OB_Editor : Oc_Editor K OA_Editor) (K_Editor : Gl.Mkr P w K mg base 1 "Editor" OA_Editor (Gl.spG 2 none (dInit OA_Editor))) (P_Editor_contents : Gl.Prp P w K mg base 1 OA_Editor "contents" (Gl.spG 1 none (dCts OA_Editor))) (P_Editor_edits : Gl.Prp P w K mg base 3 OA_Editor "edits" (Gl.spG 1 none (dEds OA_Editor))) (M_Editor_replace_range : Gl.Mth (L2.CX P w) P w K mg base 4 OA_Editor "replace_range" (Gl.spGX mg 4 none (dRep OA_Editor))) : FnOk P w K mg base CX0 6 f fd ["base", "ours", "theirs"] (spOf 3 none false dBoth) := by
  refine F.ok c__law_both (fun vs H Q E h => h.1) (fun cdv A outer s H vs Q E hr h => ?_)
  refine ⟨_, (pss_cons (ps_set (i := 3) c__law_both.nd rfl (Or.inl rfl) (Gl.pe_mkr K_Editor (hr.mono (by omega)) (by rfl) (pa_cons (Gl.pe_pu (pv 0)) pa_nil)))
      (pss_cons (ps_for PassesOwn.never rfl (Gl.pi_pu (pi_reversed (by rfl) T.n_reversed (pa_cons (pe_callTy (r := Dl.rListU K) (Dl.call_listU rfl) (by rfl) T.n_list (by decide +kernel) (pa_cons (pv 1) pa_nil)) pa_nil))) (pg_name (i := 4) c__law_both.nd rfl (Or.inl rfl)) (pss_one (ps_expr (Gl.pe_mthN M_Editor_replace_range (hr.mono (by omega)) (Gl.pe_pu (pv 3)) (pa_cons (Gl.pe_pu (pe_ix (r := rIxT K) ix_tup (pv 4) pe_int (fun _ _ => rfl))) (pa_cons (Gl.pe_pu (pe_ix (r := rIxT K) ix_tup (pv 4) pe_int (fun _ _ => rfl))) (pa_cons (Gl.pe_pu (pe_ix (r := rIxT K) ix_tup (pv 4) pe_int (fun _ _ => rfl))) pa_nil)))))))
      (pss_cons (ps_for PassesOwn.never rfl (Gl.pi_pu (pi_reversed (by rfl) T.n_reversed (pa_cons (pe_callTy (r := Dl.rListU K) (Dl.call_listU rfl) (by rfl) T.n_list (by decide +kernel) (pa_cons (pv 2) pa_nil)) pa_nil))) (pg_name (i := 4) c__law_both.nd rfl (Or.inl rfl)) (pss_one (ps_if (Gl.pt_pu (pt_cmpR (r := Dl.rNotInT K) (Dl.op_notInT (Dl.hu65 hr)) (pv 4) (pv 1) rfl)) (pss_cons (ps_set (i := 5) c__law_both.nd rfl (Or.inl rfl) (Gl.pe_pu pe_int))
      (pss_cons (ps_for PassesOwn.never rfl (Gl.pi_pu (pi_tup (pv 1))) (pg_name (i := 6) c__law_both.nd rfl (Or.inl rfl)) (pss_one (ps_if (Gl.pt_pu (pt_cmpR op_lt (pe_ix (r := rIxT K) ix_tup (pv 6) pe_int (fun _ _ => rfl)) (pe_ix (r := rIxT K) ix_tup (pv 4) pe_int (fun _ _ => rfl)) (nomark _))) (pss_one (ps_set (i := 5) c__law_both.nd rfl (Or.inl rfl) (Gl.pe_pu (pe_op op_sub (pe_op op_add (pv 5) (pe_callB (r := Dl.rLen K) Dl.cr_len (by rfl) T.n_len (by decide +kernel) (pa_cons (pe_ix (r := rIxT K) ix_tup (pv 6) pe_int (fun _ _ => rfl)) pa_nil))) (pe_op op_sub (pe_ix (r := rIxT K) ix_tup (pv 6) pe_int (fun _ _ => rfl)) (pe_ix (r := rIxT K) ix_tup (pv 6) pe_int (fun _ _ => rfl))))))) pss_nil)))
      (pss_one (ps_expr (Gl.pe_mthN M_Editor_replace_range (hr.mono (by omega)) (Gl.pe_pu (pv 3)) (pa_cons (Gl.pe_pu (pe_op op_add (pe_ix (r := rIxT K) ix_tup (pv 4) pe_int (fun _ _ => rfl)) (pv 5))) (pa_cons (Gl.pe_pu (pe_op op_add (pe_ix (r := rIxT K) ix_tup (pv 4) pe_int (fun _ _ => rfl)) (pv 5))) (pa_cons (Gl.pe_pu (pe_ix (r := rIxT K) ix_tup (pv 4) pe_int (fun _ _ => rfl))) pa_nil)))))))) pss_nil)))
      (pss_one (ps_ret (pe_tup (pa_cons (Gl.pe_prp P_Editor_contents (hr.mono (by omega)) (Gl.pe_pu (pv 3)) (by rfl)) (pa_cons (Gl.pe_prp P_Editor_edits (hr.mono (by omega)) (Gl.pe_pu (pv 3)) (by rfl)) pa_nil)))))))), ?_⟩
  have ⟨_, _o3_0, _o3_1, _o3_2, _o3_3, _o3_4⟩ := OB_Editor
  apply Gl.entryG0 (O := fun _ => false) (pure_G h)
  (case ht => intro dyz Zz; walk_at "rg")
  (case hO => decide)

  rintro ds G Qd hn ⟨g0, bs, l, os, ts, rfl, R, bl, ll, lb, so, st, cov, k⟩
  have lb3 : ∀ x ∈ l, x.t.length ≤ 3 ∧ x.s ≤ x.e := fun x hx => ⟨(lb x hx).2.2, R.o x hx⟩
  have subF : ∀ m, m.Sublist l → Fits bs.length 0 m := fun m s => fits_of (R.sub s) (fun x hx => ⟨(lb x (s.subset hx)).1, (lb x (s.subset hx)).2.1⟩) (fun _ _ => Nat.zero_le _) (Nat.zero_le _)
  have subL : ∀ m, m.Sublist l → (rwE bs 0 m).length ≤ 100 := fun m s => by
    have h1 := rwE_len (subF m s)
    have h2 := shE_le (l := m) fun x hx => lb3 x (s.subset hx)
    have h3 := s.length_le
    omega
  have ol := so.length_le
  have tl := st.length_le
  walk_at "z"
  refine ⟨rfl, fun a ha => ⟨a, bs, rfl, Gl.updG_same, by omega, fun G1 dn un A h1 h2 fr => ⟨rfl, ?_⟩⟩⟩
  walk_at "z"
  refine ⟨_, rfl, fun i E G => ∃ o e, E = [some (.tuple bs), some (.tuple (os.map Edt.d)), some (.tuple (ts.map Edt.d)), some (refD a), o, none, none] ∧ EdAt OA_Editor G a e ∧ e.many = bs.length ∧ e.rows = rwE bs 0 (os.drop (os.length - i)) ∧ e.dl.length = i, ⟨none, _, rfl, A, rfl, by rw [Nat.sub_zero, List.drop_length, rw_nil], rfl⟩, ?_, ?_⟩
  · clear A
    rintro k x E G hk hx ⟨o, e, rfl, A, em, er, el⟩
    obtain ⟨hj, rfl⟩ := map_get hx
    generalize hjj : (os.map Edt.d).length - 1 - k = j at hj ⊢
    have hk' : k < os.length := by have : k < (os.map Edt.d).length := hk; rwa [List.length_map] at this
    have ej : j = os.length - (k + 1) := by rw [← hjj, List.length_map]; omega
    have hd : os.drop (os.length - (k + 1)) = os[j] :: os.drop (os.length - k) := by
      rw [← ej, List.drop_eq_getElem_cons hj]
      congr 2
      omega
    have sub : ∀ n, (os.drop n).Sublist l := fun n => (List.drop_sublist n os).trans so
    obtain ⟨T, hT1, hT2, hT3⟩ := rw_put (cs := bs) (m1 := []) (m2 := os.drop (os.length - k)) (x := os[j]) (by rw [List.nil_append, ← hd]; exact subF _ (sub _))
    have hT : T = os[j].s := by have : shE [] = 0 := rfl; omega
    have xl := so.subset (List.getElem_mem hj)
    have xo := R.o os[j] xl
    have x3 := (lb3 os[j] xl).1
    have xb := (lb os[j] xl).1
    have rl := subL _ (sub (os.length - k))
    rw [List.nil_append] at hT2 hT3
    have ga := A.o
    rw [show os[j].d = PyData.tuple [.int os[j].s, .int os[j].e, .tuple os[j].t] from rfl]
    walk_at "z"
    have hT' : os[j].s + (os[j].e - os[j].s) = os[j].e := by omega
    rw [hT, hT'] at hT2 hT3
    rw [← er] at hT2 hT3 rl
    refine ⟨rfl, a, e, os[j].s, os[j].e, os[j].t, rfl, A, by omega, by omega, by omega, by omega, by omega, fun h => (by omega), fun h1 h2 => (by omega), fun h1 h2 h3 => (by omega), fun _ _ _ G' un' A' hun fr => ?_⟩
    refine ⟨_, _, rfl, A', em, ?_, ?_⟩
    · rw [hd]
      exact hT3
    · show (e.dl ++ [_]).length = k + 1
      rw [List.length_append, el]
      rfl
  · clear A h1 h2 fr
    rintro E G ⟨o, e, rfl, A, em, er, el⟩
    rw [show (⟨(os.map Edt.d).length, fun k x => (os.map Edt.d)[(os.map Edt.d).length - 1 - k]? = some x⟩ : DIt).n = os.length from List.length_map ..] at er el
    rw [Nat.sub_self, List.drop_zero] at er
    walk_at "z"
    refine ⟨_, rfl, fun i E G => ∃ o m p e, E = [some (.tuple bs), some (.tuple (os.map Edt.d)), some (.tuple (ts.map Edt.d)), some (refD a), o, m, p] ∧ EdAt OA_Editor G a e ∧ e.many = bs.length ∧ e.rows = rwE bs 0 (selE (fun y => y ∈ os ∨ y ∈ ts.drop (ts.length - i)) l) ∧ e.dl.length ≤ 6 + i, ⟨o, none, none, e, rfl, A, em, ?_, by omega⟩, ?_, ?_⟩
    · rw [er, Nat.sub_zero, List.drop_length]
      congr 1
      refine (sel_sub so R.nd).symm.trans (sel_congr fun y _ => ⟨.inl, fun h => h.resolve_right fun z => absurd z List.not_mem_nil⟩)
    · clear A em er el
      rintro c x E G hk hx ⟨o, m, p, e, rfl, A, em, er, el⟩
      obtain ⟨hj, rfl⟩ := map_get hx
      generalize hjj : (ts.map Edt.d).length - 1 - c = j at hj ⊢
      have hk' : c < ts.length := by have : c < (ts.map Edt.d).length := hk; rwa [List.length_map] at this
      have ej : j = ts.length - (c + 1) := by rw [← hjj, List.length_map]; omega
      have hd : ts.drop (ts.length - (c + 1)) = ts[j] :: ts.drop (ts.length - c) := by
        rw [← ej, List.drop_eq_getElem_cons hj]
        congr 2
        omega
      have xl := st.subset (List.getElem_mem hj)
      have xo := R.o ts[j] xl
      have x3 := (lb3 ts[j] xl).1
      have xb := (lb ts[j] xl).1
      have xd := R.d ts[j] xl
      have later : ∀ y ∈ ts.drop (ts.length - c), ts[j].s < y.s := by
        have := ((R.sub st).sub (List.drop_sublist (ts.length - (c + 1)) ts)).asc
        rw [hd] at this
        exact (List.pairwise_cons.mp this).1
      generalize ts[j] = x at *
      have od : ∀ y ∈ os, EdD y := fun y hy => R.d y (so.subset hy)
      rw [show x.d = PyData.tuple [.int x.s, .int x.e, .tuple x.t] from rfl]
      walk_at "z"
      refine ⟨_, rfl, pk_shaped (ed_pk xd) (ed_dep xd 1) (by decide), pk_shaped (tup_pk od) (eds_dep (by omega) od 1) (by decide), ?_⟩
      have ha := any_ed od xd
      rw [show x.d = PyData.tuple [.int x.s, .int x.e, .tuple x.t] from rfl] at ha
      rw [ha]
      by_cases q : x ∈ os
      · rw [@decide_eq_true _ (Classical.propDecidable _) q]
        walk_at "z"
        refine ⟨_, _, _, e, rfl, A, em, ?_, by omega⟩
        rw [er, hd]
        exact congrArg (rwE bs 0) (sel_congr fun y _ => ⟨fun h => h.elim .inl fun h => .inr (List.mem_cons_of_mem _ h), fun h => h.elim .inl fun h => (List.mem_cons.mp h).elim (fun z => .inl (z ▸ q)) .inr⟩)
      · rw [@decide_eq_false _ (Classical.propDecidable _) q]
        walk_at "z"
        refine ⟨_, rfl, fun i E G' => G' = G ∧ ∃ p, E = [some (.tuple bs), some (.tuple (os.map Edt.d)), some (.tuple (ts.map Edt.d)), some (refD a), some (.tuple [.int x.s, .int x.e, .tuple x.t]), some (.int (shE (selE (fun y => y.s < x.s) (os.take i)))), p], ⟨rfl, p, rfl⟩, ?_, ?_⟩
        · rintro i z E G' hi hz ⟨rfl, p, rfl⟩
          obtain ⟨hi', rfl⟩ := map_get hz
          have tk : os.take (i + 1) = os.take i ++ [os[i]] := by rw [List.take_succ, List.getElem?_eq_getElem hi']; rfl
          have oo := R.o os[i] (so.subset (List.getElem_mem hi'))
          rw [show os[i].d = PyData.tuple [.int os[i].s, .int os[i].e, .tuple os[i].t] from rfl]
          walk_at "z"
          refine w_ite (fun g => ?_) (fun g => ?_)
          · have g' : os[i].s < x.s := by omega
            walk_at "z"
            refine ⟨rfl, some (.tuple [.int os[i].s, .int os[i].e, .tuple os[i].t]), ?_⟩
            have eS : shE (selE (fun y => y.s < x.s) (os.take i)) + (os[i].t.length : Int) - ((os[i].e : Int) - (os[i].s : Int)) = shE (selE (fun y => y.s < x.s) (os.take (i + 1))) := by
              rw [tk, sel_app, sel_y (p := fun y => y.s < x.s) g']
              show _ = shE (_ ++ [os[i]])
              rw [shE_snoc]
              omega
            rw [eS]
            rfl
          · have g' : ¬ os[i].s < x.s := by omega
            walk_at "z"
            refine ⟨rfl, some (.tuple [.int os[i].s, .int os[i].e, .tuple os[i].t]), ?_⟩
            rw [tk, sel_app, sel_n (p := fun y => y.s < x.s) g', show selE (fun y => y.s < x.s) [] = [] from rfl, List.append_nil]
            rfl
        · rintro E G' ⟨rfl, p, rfl⟩
          rw [take_all]
          obtain ⟨l1, l2, hl⟩ := List.append_of_mem xl
          subst hl
          have pw := List.pairwise_append.mp R.asc
          have pw2 := List.pairwise_cons.mp pw.2.1
          have n1 : x ∉ l1 := fun h => by have := pw.2.2 x h x List.mem_cons_self; omega
          have n2 : x ∉ l2 := fun h => by have := pw2.1 x h; omega
          have np : ¬ (x ∈ os ∨ x ∈ ts.drop (ts.length - c)) := fun h => h.elim q fun h => by have := later x h; omega
          obtain ⟨s1, s2⟩ := sel_put (p := fun y => y ∈ os ∨ y ∈ ts.drop (ts.length - c)) np n1 n2
          have s3 : selE (fun y => y ∈ os ∨ y ∈ ts.drop (ts.length - (c + 1))) (l1 ++ x :: l2) = selE (fun y => y ∈ os ∨ y ∈ ts.drop (ts.length - c)) l1 ++ x :: selE (fun y => y ∈ os ∨ y ∈ ts.drop (ts.length - c)) l2 := by
            rw [← s2, hd]
            exact sel_congr fun y _ => ⟨fun h => h.elim (fun h => .inl (.inl h)) fun h => (List.mem_cons.mp h).elim .inr fun h => .inl (.inr h), fun h => h.elim (fun h => h.elim .inl fun h => .inr (List.mem_cons_of_mem _ h)) fun h => .inr (List.mem_cons.mpr (.inl h))⟩
          have s4 : selE (fun y => y.s < x.s) os = selE (fun y => y ∈ os ∨ y ∈ ts.drop (ts.length - c)) l1 := (moved_eq R so q).trans (sel_congr fun y hy => ⟨.inl, fun h => h.resolve_right fun z => by
            have h1 := later y z
            have h2 := pw.2.2 y hy x List.mem_cons_self
            omega⟩)
          rw [s4]
          have F3 := subF _ (sel_lsub (fun y => y ∈ os ∨ y ∈ ts.drop (ts.length - (c + 1))) (l1 ++ x :: l2))
          have rl := subL _ (sel_lsub (fun y => y ∈ os ∨ y ∈ ts.drop (ts.length - c)) (l1 ++ x :: l2))
          rw [s3] at F3
          rw [s1] at er rl
          rw [← er] at rl
          obtain ⟨T, hT1, hT2, hT3⟩ := rw_put (cs := bs) F3
          rw [← s3, ← er] at hT3
          rw [← er] at hT2
          have ga := A.o
          walk_at "z"
          have e1 : (x.e : Int) + shE (selE (fun y => y ∈ os ∨ y ∈ ts.drop (ts.length - c)) l1) = ((T + (x.e - x.s) : Nat) : Int) := by omega
          rw [← hT1, e1]
          refine ⟨rfl, a, e, T, T + (x.e - x.s), x.t, rfl, A, by omega, by omega, by omega, by omega, by omega, fun h => (by omega), fun h1 h2 => (by omega), fun h1 h2 h3 => (by omega), fun _ _ _ G' un' A' hun fr => ?_⟩
          refine ⟨_, _, _, _, rfl, A', em, hT3, ?_⟩
          show (e.dl ++ [_]).length ≤ 6 + (c + 1)
          rw [List.length_append]
          show e.dl.length + 1 ≤ _
          omega
    · rintro E G ⟨o, m, p, e', rfl, A, em, er, el⟩
      rw [show (⟨(ts.map Edt.d).length, fun k x => (ts.map Edt.d)[(ts.map Edt.d).length - 1 - k]? = some x⟩ : DIt).n = ts.length from List.length_map .., Nat.sub_self, List.drop_zero, sel_all cov] at er
      have ga := A.o
      have F := subF l (List.Sublist.refl l)
      have lt := subL l (List.Sublist.refl l)
      walk_at "z"
      refine ⟨a, e', rfl, A.o, ?_⟩
      walk_at "z"
      refine ⟨a, e', rfl, A.o, by rw [er]; omega, ?_⟩
      rw [er, em, edits_rw F, rwE_snd]
      walk_at "z"
      exact k _
/-! ### the law -/
def pick (c : Int) : List Edt → List Int → List Edt
  | x :: l, n :: ns => if n = c then pick c l ns else x :: pick c l ns
  | _, _ => []
theorem pick_sub (c : Int) : ∀ (l : List Edt) (ns : List Int), (pick c l ns).Sublist l
  | [], _ => List.Sublist.slnil
  | x :: l, [] => List.nil_sublist _
  | x :: l, n :: ns => by
    show (if n = c then pick c l ns else x :: pick c l ns).Sublist _
    by_cases h : n = c
    · rw [if_pos h]
      exact (pick_sub c l ns).cons _
    · rw [if_neg h]
      exact (pick_sub c l ns).cons_cons _
theorem pick_cov : ∀ (l : List Edt) (ns : List Int), l.length = ns.length → ∀ x ∈ l, x ∈ pick 0 l ns ∨ x ∈ pick 1 l ns
  | [], _, _ => fun x h => absurd h List.not_mem_nil
  | x :: l, [], h => by cases h
  | x :: l, n :: ns, h => fun y hy => by
    have ih := pick_cov l ns (Nat.succ.inj h)
    show y ∈ (if n = 0 then pick 0 l ns else x :: pick 0 l ns) ∨ y ∈ (if n = 1 then pick 1 l ns else x :: pick 1 l ns)
    rcases List.mem_cons.mp hy with rfl | hy
    · by_cases h0 : n = 0
      · rw [if_neg (show ¬ n = 1 by omega)]
        exact .inr List.mem_cons_self
      · rw [if_neg h0]
        exact .inl List.mem_cons_self
    · refine (ih y hy).imp (fun h => ?_) fun h => ?_
      · by_cases h0 : n = 0
        · rw [if_pos h0]; exact h
        · rw [if_neg h0]; exact List.mem_cons_of_mem _ h
      · by_cases h0 : n = 1
        · rw [if_pos h0]; exact h
        · rw [if_neg h0]; exact List.mem_cons_of_mem _ h
theorem pick_take (c : Int) : ∀ (l : List Edt) (ns : List Int) (i : Nat) (h1 : i < l.length) (h2 : i < ns.length), pick c (l.take (i + 1)) ns = pick c (l.take i) ns ++ (if ns[i] = c then [] else [l[i]])
  | [], _, _, h, _ => absurd h (Nat.not_lt_zero _)
  | _ :: _, [], _, _, h => absurd h (Nat.not_lt_zero _)
  | x :: l, n :: ns, 0, _, _ => by
    show (if n = c then pick c [] ns else x :: pick c [] ns) = [] ++ (if n = c then [] else [x])
    by_cases h : n = c
    · rw [if_pos h, if_pos h]; rfl
    · rw [if_neg h, if_neg h]; rfl
  | x :: l, n :: ns, i + 1, h1, h2 => by
    have ih := pick_take c l ns i (Nat.lt_of_succ_lt_succ h1) (Nat.lt_of_succ_lt_succ h2)
    show (if n = c then pick c (l.take (i + 1)) ns else x :: pick c (l.take (i + 1)) ns) = (if n = c then pick c (l.take i) ns else x :: pick c (l.take i) ns) ++ (if (ns[i]'(Nat.lt_of_succ_lt_succ h2)) = c then [] else [l[i]'(Nat.lt_of_succ_lt_succ h1)])
    rw [ih]
    by_cases h : n = c
    · rw [if_pos h, if_pos h]
    · rw [if_neg h, if_neg h]
      rfl
theorem touch_eq {l : List Edt} (R : EdR l) {o t : Edt} (ho : o ∈ l) (ht : t ∈ l) (q : Touch o t) : o = t := by
  obtain ⟨i, hi, rfl⟩ := List.getElem_of_mem ho
  obtain ⟨j, hj, rfl⟩ := List.getElem_of_mem ht
  obtain ⟨q1, q2⟩ := q
  rcases Nat.lt_trichotomy i j with z | z | z
  · have := R.lt z hj
    omega
  · subst z
    rfl
  · have := R.lt z hi
    omega
theorem pairs_none {os ts : List Edt} (h : ∀ o ∈ os, ∀ t ∈ ts, Touch o t → o = t) : pairsE os ts = [] := by
  have r : ∀ o ∈ os, ∀ i n, n ≤ ts.length → rowE o ts i n = [] := fun o ho i n => by
    induction n with
    | zero => exact fun _ => rfl
    | succ n ih =>
      intro hn
      rw [rowE_no (by omega) (fun c => c.2 (h o ho _ (List.getElem_mem (by omega)) c.1))]
      exact ih (by omega)
  unfold pairsE upE
  refine List.flatMap_eq_nil_iff.mpr fun i hi => ?_
  have hi := List.mem_range.mp hi
  rw [getD_ed hi]
  exact r _ (List.getElem_mem hi) i _ (Nat.le_refl _)
abbrev s_law : Stmt := top 30
theorem c_law : FnScope ["script", "tape", "pool", "base", "edits", "sides", "ours", "theirs", "due", "merged", "edit", "k"] ["script"] (defScope s_law) := ⟨rfl, rfl, rfl, by decide +kernel, rfl, by decide +kernel, by decide +kernel⟩

theorem ok_law {f : Addr} {fd : FuncData} (F : Fun K "law" "law" s_law f fd) (T : Txt mg) (C__law_tape : Cl P w K mg base 1 "_law_tape" ["script"] (spTape K)) (C__law_draw : Cl P w K mg base 1 "_law_draw" ["tape", "many"] (spOf 2 (some 0) false dDraw)) (C__law_pool : Cl P w K mg base 4 "_law_pool" ["tape"] (spOf 1 (some 0) false dPool)) (C__law_contents : Cl P w K mg base 5 "_law_contents" ["tape", "pool", "most"] (spOf 3 (some 0) false dCont)) (C__law_drawn_edits : Cl P w K mg base 2 "_law_drawn_edits" ["tape", "base", "pool", "most"] (spOf 4 (some 0) false dDrawnE)) (C_clashes : Cl P w K mg base 1 "clashes" ["ours", "theirs"] (spOf 2 none false dClashes)) (C_merged_edits : Cl P w K mg base 2 "merged_edits" ["ours", "theirs"] (spOf 2 none false dMer)) (C_apply_edits : ClX P w K mg base 5 "apply_edits" ["contents", "edits"] (spOfX mg 2 none false dAppE)) (C__law_edited : Cl P w K mg base 1 "_law_edited" ["base", "edits"] (spOf 2 none false dEdtd)) (C__law_both : Cl P w K mg base 6 "_law_both" ["base", "ours", "theirs"] (spOf 3 none false dBoth)) (C__law_alike : Cl P w K mg base 9 "_law_alike" ["told", "due"] (spOf 2 none false (dAlike 9))) : FnOk P w K mg base CX0 12 f fd ["script"] (spLaw K) := by
  refine F.ok c_law (fun vs H Q E h => by obtain ⟨a, ns, rfl, _⟩ := h; rfl) (fun cdv A outer s H vs Q E hr h => ?_)
  refine ⟨_, (pss_cons (ps_set (i := 1) c_law.nd rfl (Or.inr rfl) (pe_cl C__law_tape (hr.mono (by omega)) (by rfl) (pa_cons (pv 0) pa_nil)))
      (pss_cons (ps_set (i := 2) c_law.nd rfl (Or.inl rfl) (pe_cl C__law_pool (hr.mono (by omega)) (by rfl) (pa_cons (pv 1) pa_nil)))
      (pss_cons (ps_set (i := 3) c_law.nd rfl (Or.inl rfl) (pe_cl C__law_contents (hr.mono (by omega)) (by rfl) (pa_cons (pv 1) (pa_cons (pv 2) (pa_cons pe_int pa_nil)))))
      (pss_cons (ps_set (i := 4) c_law.nd rfl (Or.inr rfl) (pe_cl C__law_drawn_edits (hr.mono (by omega)) (by rfl) (pa_cons (pv 1) (pa_cons (pv 3) (pa_cons (pv 2) (pa_cons pe_int pa_nil))))))
      (pss_cons (ps_set (i := 5) c_law.nd rfl (Or.inr rfl) (pe_lc (own := [("edit", 10)]) (by rfl) c_law.nd (pi_tup (pv 4)) (blkOk_by (own := [("edit", 10)]) (N := ["script", "tape", "pool", "base", "edits", "sides", "ours", "theirs", "due", "merged", "edit", "k"]) (sc := defScope s_law) (by decide +kernel)) (fun _ _ _ _ _ => pg_name (i := 10) c_law.nd rfl (Or.inl rfl)) (fun _ _ _ _ _ => pts_nil) (fun _ _ _ _ _ => (pe_cl C__law_draw (hr.mono (by omega)) (by rfl) (pa_cons (pv 1) (pa_cons pe_int pa_nil))))))
      (pss_cons (ps_set (i := 6) c_law.nd rfl (Or.inl rfl) (pe_callTy (r := Dl.rTupleOf K) Dl.cr_tupleOf (by rfl) T.n_tuple (by decide +kernel) (pa_cons (pe_lc (own := [("k", 11)]) (by rfl) c_law.nd (pi_range1 (by rfl) T.n_range (pa_cons (pe_callB (r := Dl.rLen K) Dl.cr_len (by rfl) T.n_len (by decide +kernel) (pa_cons (pv 4) pa_nil)) pa_nil)) (blkOk_by (own := [("k", 11)]) (N := ["script", "tape", "pool", "base", "edits", "sides", "ours", "theirs", "due", "merged", "edit", "k"]) (sc := defScope s_law) (by decide +kernel)) (fun _ _ _ _ _ => pg_name (i := 11) c_law.nd rfl (Or.inl rfl)) (fun _ _ _ _ _ => (pts_one (pt_cmpR (r := Dl.rNeU K) (Dl.op_neU (hu64 hr)) (pe_ix (r := rIxL K) ix_list (pv 5) (pv 11) (fun _ _ => rfl)) pe_int (nomark _)))) (fun _ _ _ _ _ => (pe_ix (r := rIxT K) ix_tup (pv 4) (pv 11) (fun _ _ => rfl)))) pa_nil)))
      (pss_cons (ps_set (i := 7) c_law.nd rfl (Or.inl rfl) (pe_callTy (r := Dl.rTupleOf K) Dl.cr_tupleOf (by rfl) T.n_tuple (by decide +kernel) (pa_cons (pe_lc (own := [("k", 11)]) (by rfl) c_law.nd (pi_range1 (by rfl) T.n_range (pa_cons (pe_callB (r := Dl.rLen K) Dl.cr_len (by rfl) T.n_len (by decide +kernel) (pa_cons (pv 4) pa_nil)) pa_nil)) (blkOk_by (own := [("k", 11)]) (N := ["script", "tape", "pool", "base", "edits", "sides", "ours", "theirs", "due", "merged", "edit", "k"]) (sc := defScope s_law) (by decide +kernel)) (fun _ _ _ _ _ => pg_name (i := 11) c_law.nd rfl (Or.inl rfl)) (fun _ _ _ _ _ => (pts_one (pt_cmpR (r := Dl.rNeU K) (Dl.op_neU (hu64 hr)) (pe_ix (r := rIxL K) ix_list (pv 5) (pv 11) (fun _ _ => rfl)) pe_int (nomark _)))) (fun _ _ _ _ _ => (pe_ix (r := rIxT K) ix_tup (pv 4) (pv 11) (fun _ _ => rfl)))) pa_nil)))
      (pss_cons (ps_set (i := 8) c_law.nd rfl (Or.inl rfl) (pe_cl C__law_edited (hr.mono (by omega)) (by rfl) (pa_cons (pv 3) (pa_cons (pv 4) pa_nil))))
      (pss_cons (ps_if (pt_not (pt_val (pe_cl C__law_alike (hr.mono (by omega)) (by rfl) (pa_cons (pe_tup (pa_cons (pe_cl C_clashes (hr.mono (by omega)) (by rfl) (pa_cons (pv 6) (pa_cons (pv 7) pa_nil))) (pa_cons (pe_cl C_clashes (hr.mono (by omega)) (by rfl) (pa_cons (pv 7) (pa_cons (pv 6) pa_nil))) pa_nil))) (pa_cons (pe_tup (pa_cons (pe_tup pa_nil) (pa_cons (pe_tup pa_nil) pa_nil))) pa_nil))))) (pss_one (ps_ret pe_bl)) pss_nil)
      (pss_cons (ps_set (i := 9) c_law.nd rfl (Or.inl rfl) (pe_cl C_merged_edits (hr.mono (by omega)) (by rfl) (pa_cons (pv 6) (pa_cons (pv 7) pa_nil))))
      (pss_cons (ps_if (PW.pt (pw_or (pt_not (pt_val (pe_cl C__law_alike (hr.mono (by omega)) (by rfl) (pa_cons (pv 9) (pa_cons (pv 4) pa_nil))))) (pw_or1 (pt_not (pt_val (pe_cl C__law_alike (hr.mono (by omega)) (by rfl) (pa_cons (pe_cl C_merged_edits (hr.mono (by omega)) (by rfl) (pa_cons (pv 7) (pa_cons (pv 6) pa_nil))) (pa_cons (pv 4) pa_nil)))))))) (pss_one (ps_ret pe_bl)) pss_nil)
      (pss_cons (ps_if (pt_not (pt_val (pe_cl C__law_alike (hr.mono (by omega)) (by rfl) (pa_cons (Dl.pe_clN C_apply_edits (hr.mono (by omega)) (by rfl) (pa_cons (pv 3) (pa_cons (pv 9) pa_nil))) (pa_cons (pv 8) pa_nil))))) (pss_one (ps_ret pe_bl)) pss_nil)
      (pss_one (ps_ret (pe_and (pe_cl C__law_alike (hr.mono (by omega)) (by rfl) (pa_cons (pe_cl C__law_both (hr.mono (by omega)) (by rfl) (pa_cons (pv 3) (pa_cons (pv 6) (pa_cons (pv 7) pa_nil)))) (pa_cons (pe_tup (pa_cons (pv 8) (pa_cons (pv 4) pa_nil))) pa_nil))) (pe_one (pe_cl C__law_alike (hr.mono (by omega)) (by rfl) (pa_cons (pe_cl C__law_both (hr.mono (by omega)) (by rfl) (pa_cons (pv 3) (pa_cons (pv 7) (pa_cons (pv 6) pa_nil)))) (pa_cons (pe_tup (pa_cons (pv 8) (pa_cons (pv 4) pa_nil))) pa_nil))))))))))))))))))), ?_⟩
  apply entry_law (S := (⟨fun i => i == 1, some 1, false, none⟩ : Dl.Sx)) (k := 12) h rfl rfl rfl rfl
  (case hu => intro dy; walk_at "rf")
  (case hN => rfl)
  intro td htd

  walk_at "z"
  refine ⟨_, rfl, htd, fun pool td1 pne pl pE ht1 => ?_⟩
  walk_at "z"
  refine ⟨_, pool, 16, rfl, ht1, pne, pl, pE, by decide, by decide, fun bs td2 bE bl ht2 => ?_⟩
  walk_at "z"
  refine ⟨_, bs, pool, 6, rfl, ht2, pne, pl, pE, by omega, by omega, fun l td3 R ll lb ht3 => ?_⟩
  have lb3 : ∀ x ∈ l, x.t.length ≤ 3 ∧ x.s ≤ x.e := fun x hx => ⟨(lb x hx).2.2, R.o x hx⟩
  have hsh := shE_le lb3
  have L : EdL bs l := ⟨by omega, by omega, fun x hx => Nat.le_trans (lb3 x hx).1 (by decide)⟩
  have F : Fits bs.length 0 l := fits_of R (fun x hx => ⟨(lb x hx).1, (lb x hx).2.1⟩) (fun _ _ => Nat.zero_le _) (Nat.zero_le _)
  have cl := cn_len F
  have cE : ∀ y ∈ cnE bs 0 l, ElD y := fun y hy => (cn_mem hy).elim (bE y) fun ⟨x, hx, h⟩ => (R.d x hx).2.2.2 y h
  walk_at "z"
  refine ⟨_, rfl, fun i acc E => ∃ td ns, E = [none, some td, some (.list pool), some (.tuple bs), some (.tuple (l.map Edt.d)), none, none, none, none, none, none, none] ∧ TapeD td ∧ acc = ns.map .int ∧ ns.length = i, ⟨td3, [], rfl, ht3, rfl, rfl⟩, ?_, ?_⟩
  · rintro i x acc E hi hx ⟨td, ns, rfl, ht, rfl, hn⟩
    obtain ⟨hi', rfl⟩ := map_get hx
    walk_at "z"
    refine z_draw ht (by decide) (by decide) fun r td4 l0 u0 ht4 => ?_
    exact ⟨szlt2 (by rw [List.length_map]; omega), td4, ns ++ [r], rfl, ht4, map1 _ _ _, by rw [List.length_append, hn]; rfl⟩
  rintro acc E ⟨td, ns, rfl, ht, rfl, hn⟩
  rw [show (⟨(l.map Edt.d).length, fun k x => (l.map Edt.d)[k]? = some x⟩ : DIt).n = l.length from List.length_map ..] at hn
  walk_at "z"
  rw [List.length_map]
  refine ⟨_, rfl, by omega, by omega, fun i acc E => E = [none, some td, some (.list pool), some (.tuple bs), some (.tuple (l.map Edt.d)), some (.list (ns.map .int)), none, none, none, none, none, none] ∧ acc = (pick 0 (l.take i) ns).map Edt.d, ⟨rfl, rfl⟩, ?_, ?_⟩
  · rintro i x acc E hi rfl ⟨rfl, rfl⟩
    have hi' : i < l.length := by have : i < (l.length : Int).toNat := hi; omega
    have pt := pick_take 0 l ns i hi' (by omega)
    have pl' : (pick 0 (l.take i) ns).length ≤ 6 := by
      have h1 := (pick_sub 0 (l.take i) ns).length_le
      rw [List.length_take] at h1
      omega
    walk_at "z"
    refine z_ixL (d := .int ns[i]) (atI_nat (by rw [List.getElem?_map, List.getElem?_eq_getElem (by omega)]; rfl)) ?_
    walk_at "z"
    by_cases g : ns[i] = 0
    · rw [decide_eq_true g]
      rw [if_pos g, List.append_nil] at pt
      walk_at "z"
      exact ⟨rfl, by rw [pt]⟩
    · rw [decide_eq_false g]
      rw [if_neg g] at pt
      walk_at "z"
      refine z_ixT (d := l[i].d) (atI_nat (by rw [List.getElem?_map, List.getElem?_eq_getElem hi']; rfl)) ?_
      exact ⟨szlt2 (by rw [List.length_map]; omega), rfl, by rw [pt, List.map_append]; rfl⟩
  rintro acc E ⟨rfl, rfl⟩
  rw [show (l.length : Int).toNat = l.length by omega, List.take_length]
  generalize ho : pick 0 l ns = os
  have so : os.Sublist l := ho ▸ pick_sub 0 l ns
  walk_at "z"
  rw [List.length_map]
  refine ⟨_, rfl, by omega, by omega, fun i acc E => E = [none, some td, some (.list pool), some (.tuple bs), some (.tuple (l.map Edt.d)), some (.list (ns.map .int)), some (.tuple (os.map Edt.d)), none, none, none, none, none] ∧ acc = (pick 1 (l.take i) ns).map Edt.d, ⟨rfl, rfl⟩, ?_, ?_⟩
  · rintro i x acc E hi rfl ⟨rfl, rfl⟩
    have hi' : i < l.length := by have : i < (l.length : Int).toNat := hi; omega
    have pt := pick_take 1 l ns i hi' (by omega)
    have pl' : (pick 1 (l.take i) ns).length ≤ 6 := by
      have h1 := (pick_sub 1 (l.take i) ns).length_le
      rw [List.length_take] at h1
      omega
    walk_at "z"
    refine z_ixL (d := .int ns[i]) (atI_nat (by rw [List.getElem?_map, List.getElem?_eq_getElem (by omega)]; rfl)) ?_
    walk_at "z"
    by_cases g : ns[i] = 1
    · rw [decide_eq_true g]
      rw [if_pos g, List.append_nil] at pt
      walk_at "z"
      exact ⟨rfl, by rw [pt]⟩
    · rw [decide_eq_false g]
      rw [if_neg g] at pt
      walk_at "z"
      refine z_ixT (d := l[i].d) (atI_nat (by rw [List.getElem?_map, List.getElem?_eq_getElem hi']; rfl)) ?_
      exact ⟨szlt2 (by rw [List.length_map]; omega), rfl, by rw [pt, List.map_append]; rfl⟩
  rintro acc E ⟨rfl, rfl⟩
  rw [show (l.length : Int).toNat = l.length by omega, List.take_length]
  generalize hts : pick 1 l ns = ts
  have st : ts.Sublist l := hts ▸ pick_sub 1 l ns
  have cov : ∀ x ∈ l, x ∈ os ∨ x ∈ ts := by rw [← ho, ← hts]; exact pick_cov l ns hn.symm
  have O := R.sub so
  have T' := R.sub st
  have p1 : pairsE os ts = [] := pairs_none fun o h1 t h2 q => touch_eq R (so.subset h1) (st.subset h2) q
  have p2 : pairsE ts os = [] := pairs_none fun o h1 t h2 q => touch_eq R (st.subset h1) (so.subset h2) q
  have dn : Dep 7 (.tuple []) := .tup (Nat.zero_le _) fun x hx => absurd hx List.not_mem_nil
  have dp : Dep 8 (.tuple [.tuple (cnE bs 0 l), .tuple (l.map Edt.d)]) := dep2 (depE cE (by omega) 5) (eds_dep (by omega) R.d 3)
  walk_at "z"
  refine ⟨bs, l, rfl, L, ?_⟩
  walk_at "z"
  refine ⟨os, ts, rfl, O, T', ?_⟩
  walk_at "z"
  refine ⟨ts, os, rfl, T', O, ?_⟩
  rw [p1, p2]
  walk_at "z"
  refine z_alike rfl (dep2 dn dn) ?_
  walk_at "z"
  refine ⟨os, ts, rfl, O, T', fun h => absurd p1 h, fun _ M hM => ?_⟩
  have eM : M = l := ed_uniq hM.a R.asc fun x => (hM.m x).trans ⟨fun h => h.elim (fun h => so.subset h) fun h => st.subset h, cov x⟩
  rw [eM]
  walk_at "z"
  refine z_alike rfl (eds_dep (by omega) R.d 4) ?_
  walk_at "z"
  refine ⟨ts, os, rfl, T', O, fun h => absurd p2 h, fun _ M2 hM2 => ?_⟩
  have eM2 : M2 = l := ed_uniq hM2.a R.asc fun x => (hM2.m x).trans ⟨fun h => h.elim (fun h => st.subset h) fun h => so.subset h, fun h => (cov x h).symm⟩
  rw [eM2]
  walk_at "z"
  refine z_alike rfl (eds_dep (by omega) R.d 4) ?_
  walk_at "z"
  refine ⟨bs, l, rfl, L, fun h => ?_, fun h => by omega⟩
  walk_at "z"
  refine z_alike rfl (depE cE (by omega) 6) ?_
  walk_at "z"
  refine ⟨bs, l, os, ts, rfl, R, by omega, by omega, lb, so, st, cov, ?_⟩
  walk_at "z"
  refine z_alike rfl dp ?_
  walk_at "z"
  refine ⟨bs, l, ts, os, rfl, R, by omega, by omega, lb, st, so, fun x h => (cov x h).symm, ?_⟩
  walk_at "z"
  refine z_alike rfl dp ?_
  exact rfl
end
theorem all_mk {l : PySem.W.OpenLaw} {w : World} {K : PySem.W.Frag} {h : Heap} {mg : Str → Option Value} {fa : Addr} (X : K.In h) (G : h.Ns mainGlobals mg) (hfa : mg "law" = some (.ref fa))
    {OA_Editor : Addr}
    (qa_Editor : PySem.W.nsIn K mainGlobals "Editor" = some (some (.ref OA_Editor)))
    (qp_Editor : PySem.W.plainGet K OA_Editor Str.empty = true)
    (qd_Editor : PySem.W.hasDictIn K OA_Editor = true)
    (qo_Editor : PySem.W.plainOver K OA_Editor = true)
    (qs_Editor : PySem.W.findIn K (.ref OA_Editor) "__setattr__" = some (some (.builtin "object.__setattr__")))
    (qn_Editor__many : PySem.W.findIn K (.ref OA_Editor) "_many" = some none)
    (qn_Editor__rows : PySem.W.findIn K (.ref OA_Editor) "_rows" = some none)
    (qn_Editor__contents : PySem.W.findIn K (.ref OA_Editor) "_contents" = some none)
    (qn_Editor__done : PySem.W.findIn K (.ref OA_Editor) "_done" = some none)
    (qn_Editor__undone : PySem.W.findIn K (.ref OA_Editor) "_undone" = some none)
    (qm_Editor : PySem.W.makesIn K OA_Editor = true)
    (qk_Editor : PySem.W.keepIn K (.ref OA_Editor) = true)
    {f0 : Addr} {od0 an0 : Option Addr} {sl0 : Array (Option Value)} {oc0 kV0 dc0 pm0 cd0 ct0 : Value}
    (a0 : PySem.W.nsIn K mainGlobals "_law_draw" = some (some (.ref f0))) (l0 : K.lookup f0 = some ⟨oc0, od0, .func (PySem.W.fnOf "_law_draw" "_law_draw" (defArgs s__law_draw) (defBody s__law_draw) (defScope s__law_draw) .none kV0 dc0 pm0 an0 cd0 ct0), sl0⟩) (c0 : PySem.W.codeIn K cd0 "_law_draw" = true) (k0 : PySem.W.keepIn K (.ref f0) = true)
    {f1 : Addr} {od1 an1 : Option Addr} {sl1 : Array (Option Value)} {oc1 kV1 dc1 pm1 cd1 ct1 : Value}
    (a1 : PySem.W.nsIn K mainGlobals "_law_tape" = some (some (.ref f1))) (l1 : K.lookup f1 = some ⟨oc1, od1, .func (PySem.W.fnOf "_law_tape" "_law_tape" (defArgs s__law_tape) (defBody s__law_tape) (defScope s__law_tape) .none kV1 dc1 pm1 an1 cd1 ct1), sl1⟩) (c1 : PySem.W.codeIn K cd1 "_law_tape" = true) (k1 : PySem.W.keepIn K (.ref f1) = true)
    {f2 : Addr} {od2 an2 : Option Addr} {sl2 : Array (Option Value)} {oc2 kV2 dc2 pm2 cd2 ct2 : Value}
    (a2 : PySem.W.nsIn K mainGlobals "_law_alike" = some (some (.ref f2))) (l2 : K.lookup f2 = some ⟨oc2, od2, .func (PySem.W.fnOf "_law_alike" "_law_alike" (defArgs s__law_alike) (defBody s__law_alike) (defScope s__law_alike) .none kV2 dc2 pm2 an2 cd2 ct2), sl2⟩) (c2 : PySem.W.codeIn K cd2 "_law_alike" = true) (k2 : PySem.W.keepIn K (.ref f2) = true)
    {f3 : Addr} {od3 an3 : Option Addr} {sl3 : Array (Option Value)} {oc3 kV3 dc3 pm3 cd3 ct3 : Value}
    (a3 : PySem.W.nsIn K mainGlobals "_law_scalar" = some (some (.ref f3))) (l3 : K.lookup f3 = some ⟨oc3, od3, .func (PySem.W.fnOf "_law_scalar" "_law_scalar" (defArgs s__law_scalar) (defBody s__law_scalar) (defScope s__law_scalar) .none kV3 dc3 pm3 an3 cd3 ct3), sl3⟩) (c3 : PySem.W.codeIn K cd3 "_law_scalar" = true) (k3 : PySem.W.keepIn K (.ref f3) = true)
    {f4 : Addr} {od4 an4 : Option Addr} {sl4 : Array (Option Value)} {oc4 kV4 dc4 pm4 cd4 ct4 : Value}
    (a4 : PySem.W.nsIn K mainGlobals "_law_element" = some (some (.ref f4))) (l4 : K.lookup f4 = some ⟨oc4, od4, .func (PySem.W.fnOf "_law_element" "_law_element" (defArgs s__law_element) (defBody s__law_element) (defScope s__law_element) .none kV4 dc4 pm4 an4 cd4 ct4), sl4⟩) (c4 : PySem.W.codeIn K cd4 "_law_element" = true) (k4 : PySem.W.keepIn K (.ref f4) = true)
    {f5 : Addr} {od5 an5 : Option Addr} {sl5 : Array (Option Value)} {oc5 kV5 dc5 pm5 cd5 ct5 : Value}
    (a5 : PySem.W.nsIn K mainGlobals "_law_pool" = some (some (.ref f5))) (l5 : K.lookup f5 = some ⟨oc5, od5, .func (PySem.W.fnOf "_law_pool" "_law_pool" (defArgs s__law_pool) (defBody s__law_pool) (defScope s__law_pool) .none kV5 dc5 pm5 an5 cd5 ct5), sl5⟩) (c5 : PySem.W.codeIn K cd5 "_law_pool" = true) (k5 : PySem.W.keepIn K (.ref f5) = true)
    {f6 : Addr} {od6 an6 : Option Addr} {sl6 : Array (Option Value)} {oc6 kV6 dc6 pm6 cd6 ct6 : Value}
    (a6 : PySem.W.nsIn K mainGlobals "_law_contents" = some (some (.ref f6))) (l6 : K.lookup f6 = some ⟨oc6, od6, .func (PySem.W.fnOf "_law_contents" "_law_contents" (defArgs s__law_contents) (defBody s__law_contents) (defScope s__law_contents) .none kV6 dc6 pm6 an6 cd6 ct6), sl6⟩) (c6 : PySem.W.codeIn K cd6 "_law_contents" = true) (k6 : PySem.W.keepIn K (.ref f6) = true)
    {f7 : Addr} {od7 an7 : Option Addr} {sl7 : Array (Option Value)} {oc7 kV7 dc7 pm7 cd7 ct7 : Value}
    (a7 : PySem.W.nsIn K mainGlobals "check_count" = some (some (.ref f7))) (l7 : K.lookup f7 = some ⟨oc7, od7, .func (PySem.W.fnOf "check_count" "check_count" (defArgs s_check_count) (defBody s_check_count) (defScope s_check_count) .none kV7 dc7 pm7 an7 cd7 ct7), sl7⟩) (c7 : PySem.W.codeIn K cd7 "check_count" = true) (k7 : PySem.W.keepIn K (.ref f7) = true)
    {f8 : Addr} {od8 an8 : Option Addr} {sl8 : Array (Option Value)} {oc8 kV8 dc8 pm8 cd8 ct8 : Value}
    (a8 : PySem.W.nsIn K mainGlobals "checked" = some (some (.ref f8))) (l8 : K.lookup f8 = some ⟨oc8, od8, .func (PySem.W.fnOf "checked" "checked" (defArgs s_checked) (defBody s_checked) (defScope s_checked) .none kV8 dc8 pm8 an8 cd8 ct8), sl8⟩) (c8 : PySem.W.codeIn K cd8 "checked" = true) (k8 : PySem.W.keepIn K (.ref f8) = true)
    {f9 : Addr} {od9 an9 : Option Addr} {sl9 : Array (Option Value)} {oc9 kV9 dc9 pm9 cd9 ct9 : Value}
    (a9 : PySem.W.nsIn K mainGlobals "_law_drawn_edits" = some (some (.ref f9))) (l9 : K.lookup f9 = some ⟨oc9, od9, .func (PySem.W.fnOf "_law_drawn_edits" "_law_drawn_edits" (defArgs s__law_drawn_edits) (defBody s__law_drawn_edits) (defScope s__law_drawn_edits) .none kV9 dc9 pm9 an9 cd9 ct9), sl9⟩) (c9 : PySem.W.codeIn K cd9 "_law_drawn_edits" = true) (k9 : PySem.W.keepIn K (.ref f9) = true)
    {f10 : Addr} {od10 an10 : Option Addr} {sl10 : Array (Option Value)} {oc10 kV10 dc10 pm10 cd10 ct10 : Value}
    (a10 : PySem.W.nsIn K mainGlobals "goes_on" = some (some (.ref f10))) (l10 : K.lookup f10 = some ⟨oc10, od10, .func (PySem.W.fnOf "goes_on" "goes_on" (defArgs s_goes_on) (defBody s_goes_on) (defScope s_goes_on) .none kV10 dc10 pm10 an10 cd10 ct10), sl10⟩) (c10 : PySem.W.codeIn K cd10 "goes_on" = true) (k10 : PySem.W.keepIn K (.ref f10) = true)
    {f11 : Addr} {od11 an11 : Option Addr} {sl11 : Array (Option Value)} {oc11 kV11 dc11 pm11 cd11 ct11 : Value}
    (a11 : PySem.W.nsIn K mainGlobals "piece_of" = some (some (.ref f11))) (l11 : K.lookup f11 = some ⟨oc11, od11, .func (PySem.W.fnOf "piece_of" "piece_of" (defArgs s_piece_of) (defBody s_piece_of) (defScope s_piece_of) .none kV11 dc11 pm11 an11 cd11 ct11), sl11⟩) (c11 : PySem.W.codeIn K cd11 "piece_of" = true) (k11 : PySem.W.keepIn K (.ref f11) = true)
    {f12 : Addr} {od12 an12 : Option Addr} {sl12 : Array (Option Value)} {oc12 kV12 dc12 pm12 cd12 ct12 : Value}
    (a12 : PySem.W.nsIn K mainGlobals "pieces_of" = some (some (.ref f12))) (l12 : K.lookup f12 = some ⟨oc12, od12, .func (PySem.W.fnOf "pieces_of" "pieces_of" (defArgs s_pieces_of) (defBody s_pieces_of) (defScope s_pieces_of) .none kV12 dc12 pm12 an12 cd12 ct12), sl12⟩) (c12 : PySem.W.codeIn K cd12 "pieces_of" = true) (k12 : PySem.W.keepIn K (.ref f12) = true)
    {f13 : Addr} {od13 an13 : Option Addr} {sl13 : Array (Option Value)} {oc13 kV13 dc13 pm13 cd13 ct13 : Value}
    (a13 : PySem.W.nsIn K mainGlobals "edits_of" = some (some (.ref f13))) (l13 : K.lookup f13 = some ⟨oc13, od13, .func (PySem.W.fnOf "edits_of" "edits_of" (defArgs s_edits_of) (defBody s_edits_of) (defScope s_edits_of) .none kV13 dc13 pm13 an13 cd13 ct13), sl13⟩) (c13 : PySem.W.codeIn K cd13 "edits_of" = true) (k13 : PySem.W.keepIn K (.ref f13) = true)
    {f14 : Addr} {od14 an14 : Option Addr} {sl14 : Array (Option Value)} {oc14 kV14 dc14 pm14 cd14 ct14 : Value}
    (qi14 : PySem.W.findIn K (.ref OA_Editor) "_put" = some (some (.ref f14))) (qf14 : PySem.W.isFn K (.ref f14) = true)
    (l14 : K.lookup f14 = some ⟨oc14, od14, .func (PySem.W.fnOf "_put" "Editor._put" (defArgs s_Editor__put) (defBody s_Editor__put) (defScope s_Editor__put) .none kV14 dc14 pm14 an14 cd14 ct14), sl14⟩) (c14 : PySem.W.codeIn K cd14 "Editor._put" = true) (k14 : PySem.W.keepIn K (.ref f14) = true)
    {f15 : Addr} {od15 an15 : Option Addr} {sl15 : Array (Option Value)} {oc15 kV15 dc15 pm15 cd15 ct15 : Value}
    (qi15 : PySem.W.findIn K (.ref OA_Editor) "__init__" = some (some (.ref f15))) (qf15 : PySem.W.isFn K (.ref f15) = true)
    (l15 : K.lookup f15 = some ⟨oc15, od15, .func (PySem.W.fnOf "__init__" "Editor.__init__" (defArgs s_Editor___init__) (defBody s_Editor___init__) (defScope s_Editor___init__) .none kV15 dc15 pm15 an15 cd15 ct15), sl15⟩) (c15 : PySem.W.codeIn K cd15 "Editor.__init__" = true) (k15 : PySem.W.keepIn K (.ref f15) = true)
    {f16 : Addr} {od16 an16 : Option Addr} {sl16 : Array (Option Value)} {oc16 kV16 dc16 pm16 cd16 ct16 : Value} {p16 : Addr} {rs16 : List Value}
    (qi16 : PySem.W.findIn K (.ref OA_Editor) "contents" = some (some (.ref p16))) (qg16 : PySem.W.specialIn K (.ref p16) "__get__" = some (some (.builtin "property.__get__"))) (qt16 : PySem.W.takesIn K (.ref p16) = some true) (qr16 : PySem.W.recIn K p16 "property" = some (.ref f16 :: rs16))
    (l16 : K.lookup f16 = some ⟨oc16, od16, .func (PySem.W.fnOf "contents" "Editor.contents" (defArgs s_Editor_contents) (defBody s_Editor_contents) (defScope s_Editor_contents) .none kV16 dc16 pm16 an16 cd16 ct16), sl16⟩) (c16 : PySem.W.codeIn K cd16 "Editor.contents" = true) (k16 : PySem.W.keepIn K (.ref f16) = true)
    {f17 : Addr} {od17 an17 : Option Addr} {sl17 : Array (Option Value)} {oc17 kV17 dc17 pm17 cd17 ct17 : Value} {p17 : Addr} {rs17 : List Value}
    (qi17 : PySem.W.findIn K (.ref OA_Editor) "edits" = some (some (.ref p17))) (qg17 : PySem.W.specialIn K (.ref p17) "__get__" = some (some (.builtin "property.__get__"))) (qt17 : PySem.W.takesIn K (.ref p17) = some true) (qr17 : PySem.W.recIn K p17 "property" = some (.ref f17 :: rs17))
    (l17 : K.lookup f17 = some ⟨oc17, od17, .func (PySem.W.fnOf "edits" "Editor.edits" (defArgs s_Editor_edits) (defBody s_Editor_edits) (defScope s_Editor_edits) .none kV17 dc17 pm17 an17 cd17 ct17), sl17⟩) (c17 : PySem.W.codeIn K cd17 "Editor.edits" = true) (k17 : PySem.W.keepIn K (.ref f17) = true)
    {f18 : Addr} {od18 an18 : Option Addr} {sl18 : Array (Option Value)} {oc18 kV18 dc18 pm18 cd18 ct18 : Value}
    (qi18 : PySem.W.findIn K (.ref OA_Editor) "replace_range" = some (some (.ref f18))) (qf18 : PySem.W.isFn K (.ref f18) = true)
    (l18 : K.lookup f18 = some ⟨oc18, od18, .func (PySem.W.fnOf "replace_range" "Editor.replace_range" (defArgs s_Editor_replace_range) (defBody s_Editor_replace_range) (defScope s_Editor_replace_range) .none kV18 dc18 pm18 an18 cd18 ct18), sl18⟩) (c18 : PySem.W.codeIn K cd18 "Editor.replace_range" = true) (k18 : PySem.W.keepIn K (.ref f18) = true)
    {f19 : Addr} {od19 an19 : Option Addr} {sl19 : Array (Option Value)} {oc19 kV19 dc19 pm19 cd19 ct19 : Value}
    (a19 : PySem.W.nsIn K mainGlobals "apply_edits" = some (some (.ref f19))) (l19 : K.lookup f19 = some ⟨oc19, od19, .func (PySem.W.fnOf "apply_edits" "apply_edits" (defArgs s_apply_edits) (defBody s_apply_edits) (defScope s_apply_edits) .none kV19 dc19 pm19 an19 cd19 ct19), sl19⟩) (c19 : PySem.W.codeIn K cd19 "apply_edits" = true) (k19 : PySem.W.keepIn K (.ref f19) = true)
    {f20 : Addr} {od20 an20 : Option Addr} {sl20 : Array (Option Value)} {oc20 kV20 dc20 pm20 cd20 ct20 : Value}
    (a20 : PySem.W.nsIn K mainGlobals "_law_edited" = some (some (.ref f20))) (l20 : K.lookup f20 = some ⟨oc20, od20, .func (PySem.W.fnOf "_law_edited" "_law_edited" (defArgs s__law_edited) (defBody s__law_edited) (defScope s__law_edited) .none kV20 dc20 pm20 an20 cd20 ct20), sl20⟩) (c20 : PySem.W.codeIn K cd20 "_law_edited" = true) (k20 : PySem.W.keepIn K (.ref f20) = true)
    {f21 : Addr} {od21 an21 : Option Addr} {sl21 : Array (Option Value)} {oc21 kV21 dc21 pm21 cd21 ct21 : Value}
    (a21 : PySem.W.nsIn K mainGlobals "clashes" = some (some (.ref f21))) (l21 : K.lookup f21 = some ⟨oc21, od21, .func (PySem.W.fnOf "clashes" "clashes" (defArgs s_clashes) (defBody s_clashes) (defScope s_clashes) .none kV21 dc21 pm21 an21 cd21 ct21), sl21⟩) (c21 : PySem.W.codeIn K cd21 "clashes" = true) (k21 : PySem.W.keepIn K (.ref f21) = true)
    {f22 : Addr} {od22 an22 : Option Addr} {sl22 : Array (Option Value)} {oc22 kV22 dc22 pm22 cd22 ct22 : Value}
    (a22 : PySem.W.nsIn K mainGlobals "merged_edits" = some (some (.ref f22))) (l22 : K.lookup f22 = some ⟨oc22, od22, .func (PySem.W.fnOf "merged_edits" "merged_edits" (defArgs s_merged_edits) (defBody s_merged_edits) (defScope s_merged_edits) .none kV22 dc22 pm22 an22 cd22 ct22), sl22⟩) (c22 : PySem.W.codeIn K cd22 "merged_edits" = true) (k22 : PySem.W.keepIn K (.ref f22) = true)
    {f23 : Addr} {od23 an23 : Option Addr} {sl23 : Array (Option Value)} {oc23 kV23 dc23 pm23 cd23 ct23 : Value}
    (a23 : PySem.W.nsIn K mainGlobals "_law_both" = some (some (.ref f23))) (l23 : K.lookup f23 = some ⟨oc23, od23, .func (PySem.W.fnOf "_law_both" "_law_both" (defArgs s__law_both) (defBody s__law_both) (defScope s__law_both) .none kV23 dc23 pm23 an23 cd23 ct23), sl23⟩) (c23 : PySem.W.codeIn K cd23 "_law_both" = true) (k23 : PySem.W.keepIn K (.ref f23) = true)
    {f24 : Addr} {od24 an24 : Option Addr} {sl24 : Array (Option Value)} {oc24 kV24 dc24 pm24 cd24 ct24 : Value}
    (a24 : PySem.W.nsIn K mainGlobals "law" = some (some (.ref f24))) (l24 : K.lookup f24 = some ⟨oc24, od24, .func (PySem.W.fnOf "law" "law" (defArgs s_law) (defBody s_law) (defScope s_law) .none kV24 dc24 pm24 an24 cd24 ct24), sl24⟩) (c24 : PySem.W.codeIn K cd24 "law" = true) (k24 : PySem.W.keepIn K (.ref f24) = true)
    (z_len : PySem.W.nsIn K mainGlobals "len" = some none)
    (z_tuple : PySem.W.nsIn K mainGlobals "tuple" = some none)
    (z_enumerate : PySem.W.nsIn K mainGlobals "enumerate" = some none)
    (z_sorted : PySem.W.nsIn K mainGlobals "sorted" = some none)
    (z_range : PySem.W.nsIn K mainGlobals "range" = some none)
    (z_list : PySem.W.nsIn K mainGlobals "list" = some none)
    (z_int : PySem.W.nsIn K mainGlobals "int" = some none)
    (z_abs : PySem.W.nsIn K mainGlobals "abs" = some none)
    (z_max : PySem.W.nsIn K mainGlobals "max" = some none)
    (z_isinstance : PySem.W.nsIn K mainGlobals "isinstance" = some none)
    (z_str : PySem.W.nsIn K mainGlobals "str" = some none)
    (z_bool : PySem.W.nsIn K mainGlobals "bool" = some none)
    (z_reversed : PySem.W.nsIn K mainGlobals "reversed" = some none)
    (z_iter : PySem.W.nsIn K mainGlobals "iter" = some none)
    (z_property : PySem.W.nsIn K mainGlobals "property" = some none)
    {t_MOST : _} (y_MOST : PySem.W.nsIn K mainGlobals "MOST" = some (some (.int 2000 t_MOST)))
    {CA_ShapeError : Addr}
    (xa_ShapeError : PySem.W.nsIn K mainGlobals "ShapeError" = some (some (.ref CA_ShapeError)))
    (xs_ShapeError : PySem.W.specialIn K (.ref CA_ShapeError) "__getattribute__" = some (some (.builtin "type.__getattribute__")))
    (xr_ShapeError : PySem.W.readsIn K CA_ShapeError (.type "type") = true)
    (xf_ShapeError : PySem.W.findCls K (.ref CA_ShapeError) (.type "type") "__init__" = some (.val (.builtin "ValueError.__init__")))
    (xd_ShapeError : PySem.W.hasDictIn K CA_ShapeError = true)
    (xt_ShapeError : PySem.W.typeIn K (.ref CA_ShapeError) = some (.type "type"))
    (xb_ShapeError : PySem.W.subIn K (.ref CA_ShapeError) (.type "BaseException") = some true)
    (xn_get : PySem.W.specialIn K (.builtin "object.__class__") "__get__" = some (some (.builtin "getset_descriptor.__get__")))
    (xn_tk : PySem.W.takesIn K (.builtin "object.__class__") = some true)
    {CA_IndexOutOfRange : Addr}
    (xa_IndexOutOfRange : PySem.W.nsIn K mainGlobals "IndexOutOfRange" = some (some (.ref CA_IndexOutOfRange)))
    (xg_IndexOutOfRange : PySem.W.findIn K (.ref CA_IndexOutOfRange) "__getattribute__" = some (some (.builtin "BaseException.__getattribute__")))
    (xh_IndexOutOfRange : PySem.W.findIn K (.ref CA_IndexOutOfRange) "__getattr__" = some none)
    (xb_IndexOutOfRange : PySem.W.subIn K (.ref CA_IndexOutOfRange) (.type "BaseException") = some true)
    (xd_IndexOutOfRange : PySem.W.hasDictIn K CA_IndexOutOfRange = true)
    (xc_IndexOutOfRange : PySem.W.findIn K (.ref CA_IndexOutOfRange) "__class__" = some (some (.builtin "object.__class__")))
    (xm_IndexOutOfRange : PySem.W.mroIn K CA_IndexOutOfRange (.type "object") = some true)
    (xt_IndexOutOfRange : PySem.W.typeIn K (.ref CA_IndexOutOfRange) = some (.type "type"))
    (xk_IndexOutOfRange : PySem.W.keepIn K (.ref CA_IndexOutOfRange) = true)
    {nm_IndexOutOfRange : Str} {q_IndexOutOfRange : Str} {N_IndexOutOfRange : Addr} {bs_IndexOutOfRange : List Value} {bm_IndexOutOfRange : List Value} {sn_IndexOutOfRange : List Str} {sub_IndexOutOfRange : List Value} {ab_IndexOutOfRange : Bool} {col_IndexOutOfRange : Option Bool} {dd_IndexOutOfRange : Option Addr} {k0_IndexOutOfRange : Option Value} {k1_IndexOutOfRange : Option Value} {k2_IndexOutOfRange : Option Value} {k3_IndexOutOfRange : Option Value} {k5_IndexOutOfRange : Option Value} {fI_IndexOutOfRange : Addr} {od_IndexOutOfRange an_IndexOutOfRange : Option Addr} {sl_IndexOutOfRange : Array (Option Value)} {oc_IndexOutOfRange kV_IndexOutOfRange dc_IndexOutOfRange pm_IndexOutOfRange cd_IndexOutOfRange ct_IndexOutOfRange : Value}
    (xl_IndexOutOfRange : K.lookup CA_IndexOutOfRange = some (excClassObj nm_IndexOutOfRange q_IndexOutOfRange CA_IndexOutOfRange N_IndexOutOfRange bs_IndexOutOfRange bm_IndexOutOfRange true sn_IndexOutOfRange sub_IndexOutOfRange ab_IndexOutOfRange col_IndexOutOfRange dd_IndexOutOfRange k0_IndexOutOfRange k1_IndexOutOfRange k2_IndexOutOfRange k3_IndexOutOfRange k5_IndexOutOfRange "ValueError.__new__"))
    (xv_IndexOutOfRange : PySem.HandSPX.refsVE bm_IndexOutOfRange = true)
    (xs_IndexOutOfRange : PySem.W.findIn K (.ref CA_IndexOutOfRange) "__setattr__" = some (some (.builtin "object.__setattr__")))
    (xf_IndexOutOfRange : PySem.W.findIn K (.ref CA_IndexOutOfRange) "place" = some none)
    (xi_IndexOutOfRange : PySem.W.findIn K (.ref CA_IndexOutOfRange) "__init__" = some (some (.ref fI_IndexOutOfRange)))
    (xj_IndexOutOfRange : PySem.W.typeIn K (.ref fI_IndexOutOfRange) = some (.type "function"))
    (xL_IndexOutOfRange : K.lookup fI_IndexOutOfRange = some ⟨oc_IndexOutOfRange, od_IndexOutOfRange, .func (PySem.W.fnOf "__init__" "IndexOutOfRange.__init__" (defArgs si_IndexOutOfRange) (defBody si_IndexOutOfRange) (defScope si_IndexOutOfRange) .none kV_IndexOutOfRange dc_IndexOutOfRange pm_IndexOutOfRange an_IndexOutOfRange cd_IndexOutOfRange ct_IndexOutOfRange), sl_IndexOutOfRange⟩)
    (xC_IndexOutOfRange : PySem.W.codeIn K cd_IndexOutOfRange "IndexOutOfRange.__init__" = true)
    (xK_IndexOutOfRange : PySem.W.keepIn K (.ref fI_IndexOutOfRange) = true)
    {CA_TooManyElements : Addr}
    (xa_TooManyElements : PySem.W.nsIn K mainGlobals "TooManyElements" = some (some (.ref CA_TooManyElements)))
    (xg_TooManyElements : PySem.W.findIn K (.ref CA_TooManyElements) "__getattribute__" = some (some (.builtin "BaseException.__getattribute__")))
    (xh_TooManyElements : PySem.W.findIn K (.ref CA_TooManyElements) "__getattr__" = some none)
    (xb_TooManyElements : PySem.W.subIn K (.ref CA_TooManyElements) (.type "BaseException") = some true)
    (xd_TooManyElements : PySem.W.hasDictIn K CA_TooManyElements = true)
    (xc_TooManyElements : PySem.W.findIn K (.ref CA_TooManyElements) "__class__" = some (some (.builtin "object.__class__")))
    (xm_TooManyElements : PySem.W.mroIn K CA_TooManyElements (.type "object") = some true)
    (xt_TooManyElements : PySem.W.typeIn K (.ref CA_TooManyElements) = some (.type "type"))
    (xk_TooManyElements : PySem.W.keepIn K (.ref CA_TooManyElements) = true)
    {nm_TooManyElements : Str} {q_TooManyElements : Str} {N_TooManyElements : Addr} {bs_TooManyElements : List Value} {bm_TooManyElements : List Value} {sn_TooManyElements : List Str} {sub_TooManyElements : List Value} {ab_TooManyElements : Bool} {col_TooManyElements : Option Bool} {dd_TooManyElements : Option Addr} {k0_TooManyElements : Option Value} {k1_TooManyElements : Option Value} {k2_TooManyElements : Option Value} {k3_TooManyElements : Option Value} {k5_TooManyElements : Option Value} {fI_TooManyElements : Addr} {od_TooManyElements an_TooManyElements : Option Addr} {sl_TooManyElements : Array (Option Value)} {oc_TooManyElements kV_TooManyElements dc_TooManyElements pm_TooManyElements cd_TooManyElements ct_TooManyElements : Value}
    (xl_TooManyElements : K.lookup CA_TooManyElements = some (excClassObj nm_TooManyElements q_TooManyElements CA_TooManyElements N_TooManyElements bs_TooManyElements bm_TooManyElements true sn_TooManyElements sub_TooManyElements ab_TooManyElements col_TooManyElements dd_TooManyElements k0_TooManyElements k1_TooManyElements k2_TooManyElements k3_TooManyElements k5_TooManyElements "ValueError.__new__"))
    (xv_TooManyElements : PySem.HandSPX.refsVE bm_TooManyElements = true)
    (xs_TooManyElements : PySem.W.findIn K (.ref CA_TooManyElements) "__setattr__" = some (some (.builtin "object.__setattr__")))
    (xf_TooManyElements : PySem.W.findIn K (.ref CA_TooManyElements) "count" = some none)
    (xi_TooManyElements : PySem.W.findIn K (.ref CA_TooManyElements) "__init__" = some (some (.ref fI_TooManyElements)))
    (xj_TooManyElements : PySem.W.typeIn K (.ref fI_TooManyElements) = some (.type "function"))
    (xL_TooManyElements : K.lookup fI_TooManyElements = some ⟨oc_TooManyElements, od_TooManyElements, .func (PySem.W.fnOf "__init__" "TooManyElements.__init__" (defArgs si_TooManyElements) (defBody si_TooManyElements) (defScope si_TooManyElements) .none kV_TooManyElements dc_TooManyElements pm_TooManyElements an_TooManyElements cd_TooManyElements ct_TooManyElements), sl_TooManyElements⟩)
    (xC_TooManyElements : PySem.W.codeIn K cd_TooManyElements "TooManyElements.__init__" = true)
    (xK_TooManyElements : PySem.W.keepIn K (.ref fI_TooManyElements) = true)
    : ∃ fd : FuncData, (∀ (s : Shared) (v : Value), BindsTo s fd ⟨[v], []⟩ [("script", v)]) ∧ ∀ base : Heap, K.In base → base.Ns mainGlobals mg → FnOk l.prog w K mg base CX0 12 fa fd ["script"] (spLaw K) := by
  have e := hfa.symm.trans (PySem.W.mg_of X G a24)
  cases e
  have T : Txt mg := ⟨PySem.W.mg_none_of X G z_len, PySem.W.mg_none_of X G z_tuple, PySem.W.mg_none_of X G z_enumerate, PySem.W.mg_none_of X G z_sorted, PySem.W.mg_none_of X G z_range, PySem.W.mg_none_of X G z_list, PySem.W.mg_none_of X G z_int, PySem.W.mg_none_of X G z_abs, PySem.W.mg_none_of X G z_max, PySem.W.mg_none_of X G z_isinstance, PySem.W.mg_none_of X G z_str, PySem.W.mg_none_of X G z_bool, PySem.W.mg_none_of X G z_reversed, PySem.W.mg_none_of X G z_iter, PySem.W.mg_none_of X G z_property, ⟨_, PySem.W.mg_of X G y_MOST, ⟨_, rfl⟩⟩⟩
  have ma_ShapeError := PySem.W.mg_of X G xa_ShapeError
  have ma_IndexOutOfRange := PySem.W.mg_of X G xa_IndexOutOfRange
  have ma_TooManyElements := PySem.W.mg_of X G xa_TooManyElements
  have B : Xm.BaseX K mg := ⟨_, ma_ShapeError, xs_ShapeError, xr_ShapeError, xf_ShapeError⟩
  have E_IndexOutOfRange := Xm.excC_at ma_IndexOutOfRange xg_IndexOutOfRange xh_IndexOutOfRange xb_IndexOutOfRange xd_IndexOutOfRange xc_IndexOutOfRange xn_get xn_tk xm_IndexOutOfRange
  have FI_IndexOutOfRange := fun_mk (st := si_IndexOutOfRange) xL_IndexOutOfRange xC_IndexOutOfRange xK_IndexOutOfRange
  have E_TooManyElements := Xm.excC_at ma_TooManyElements xg_TooManyElements xh_TooManyElements xb_TooManyElements xd_TooManyElements xc_TooManyElements xn_get xn_tk xm_TooManyElements
  have FI_TooManyElements := fun_mk (st := si_TooManyElements) xL_TooManyElements xC_TooManyElements xK_TooManyElements
  have XT : XTxt K mg := ⟨Xm.g_at ma_ShapeError, Xm.g_at ma_IndexOutOfRange, Xm.g_at ma_TooManyElements, E_IndexOutOfRange, Xm.xfC_of E_IndexOutOfRange, Xm.fn_at ma_IndexOutOfRange xf_IndexOutOfRange, E_TooManyElements, Xm.xfC_of E_TooManyElements, Xm.fn_at ma_TooManyElements xf_TooManyElements⟩
  have mq_Editor := PySem.W.mg_of X G qa_Editor
  have OB_Editor : Oc_Editor K OA_Editor := ⟨⟨qp_Editor, qd_Editor, qo_Editor, qs_Editor⟩, qn_Editor__many, qn_Editor__rows, qn_Editor__contents, qn_Editor__done, qn_Editor__undone⟩
  have F0 := fun_mk (st := s__law_draw) l0 c0 k0
  have F1 := fun_mk (st := s__law_tape) l1 c1 k1
  have F2 := fun_mk (st := s__law_alike) l2 c2 k2
  have F3 := fun_mk (st := s__law_scalar) l3 c3 k3
  have F4 := fun_mk (st := s__law_element) l4 c4 k4
  have F5 := fun_mk (st := s__law_pool) l5 c5 k5
  have F6 := fun_mk (st := s__law_contents) l6 c6 k6
  have F7 := fun_mk (st := s_check_count) l7 c7 k7
  have F8 := fun_mk (st := s_checked) l8 c8 k8
  have F9 := fun_mk (st := s__law_drawn_edits) l9 c9 k9
  have F10 := fun_mk (st := s_goes_on) l10 c10 k10
  have F11 := fun_mk (st := s_piece_of) l11 c11 k11
  have F12 := fun_mk (st := s_pieces_of) l12 c12 k12
  have F13 := fun_mk (st := s_edits_of) l13 c13 k13
  have F14 := fun_mk (st := s_Editor__put) l14 c14 k14
  have F15 := fun_mk (st := s_Editor___init__) l15 c15 k15
  have F16 := fun_mk (st := s_Editor_contents) l16 c16 k16
  have F17 := fun_mk (st := s_Editor_edits) l17 c17 k17
  have F18 := fun_mk (st := s_Editor_replace_range) l18 c18 k18
  have F19 := fun_mk (st := s_apply_edits) l19 c19 k19
  have F20 := fun_mk (st := s__law_edited) l20 c20 k20
  have F21 := fun_mk (st := s_clashes) l21 c21 k21
  have F22 := fun_mk (st := s_merged_edits) l22 c22 k22
  have F23 := fun_mk (st := s__law_both) l23 c23 k23
  have F24 := fun_mk (st := s_law) l24 c24 k24
  refine ⟨PySem.W.fnOf "law" "law" (defArgs s_law) (defBody s_law) (defScope s_law) .none kV24 dc24 pm24 an24 cd24 ct24, fun s v => .of_eq rfl, fun base _ _ => ?_⟩
  have G_IndexOutOfRange : Xm.ErrF l.prog w K mg base "IndexOutOfRange" "place" := Xm.errF_at ma_IndexOutOfRange E_IndexOutOfRange xl_IndexOutOfRange xv_IndexOutOfRange xs_IndexOutOfRange xt_IndexOutOfRange xk_IndexOutOfRange xf_IndexOutOfRange xi_IndexOutOfRange xj_IndexOutOfRange (oki_IndexOutOfRange FI_IndexOutOfRange B) (FI_IndexOutOfRange.binds (ps := ["self", "place"]) fun _ _ _ _ _ _ us hl => match us, hl with | [_, _], _ => rfl)
  have G_TooManyElements : Xm.ErrF l.prog w K mg base "TooManyElements" "count" := Xm.errF_at ma_TooManyElements E_TooManyElements xl_TooManyElements xv_TooManyElements xs_TooManyElements xt_TooManyElements xk_TooManyElements xf_TooManyElements xi_TooManyElements xj_TooManyElements (oki_TooManyElements FI_TooManyElements B) (FI_TooManyElements.binds (ps := ["self", "count"]) fun _ _ _ _ _ _ us hl => match us, hl with | [_, _], _ => rfl)
  have C__law_draw : Cl l.prog w K mg base 1 "_law_draw" ["tape", "many"] (spOf 2 (some 0) false dDraw) := ⟨f0, _, ok_drawD (ok_draw F0 T), PySem.W.mg_of X G a0, k0, F0.binds (ps := ["tape", "many"]) fun _ _ _ _ _ _ us hl => match us, hl with | [_, _], _ => rfl⟩
  have C__law_tape : Cl l.prog w K mg base 1 "_law_tape" ["script"] (spTape K) := ⟨f1, _, ok_tape F1 T, PySem.W.mg_of X G a1, k1, F1.binds (ps := ["script"]) fun _ _ _ _ _ _ us hl => match us, hl with | [_], _ => rfl⟩
  have C__law_alike : Cl l.prog w K mg base 9 "_law_alike" ["told", "due"] (spOf 2 none false (dAlike 9)) := ⟨f2, _, ok_alike F2 T (PySem.W.mg_of X G a2) 9, PySem.W.mg_of X G a2, k2, F2.binds (ps := ["told", "due"]) fun _ _ _ _ _ _ us hl => match us, hl with | [_, _], _ => rfl⟩
  have C__law_scalar : Cl l.prog w K mg base 2 "_law_scalar" ["tape"] (spOf 1 (some 0) false dScal) := ⟨f3, _, ok_scalar F3 T C__law_draw, PySem.W.mg_of X G a3, k3, F3.binds (ps := ["tape"]) fun _ _ _ _ _ _ us hl => match us, hl with | [_], _ => rfl⟩
  have C__law_element : Cl l.prog w K mg base 3 "_law_element" ["tape"] (spOf 1 (some 0) false dElem) := ⟨f4, _, ok_element F4 T C__law_draw C__law_scalar, PySem.W.mg_of X G a4, k4, F4.binds (ps := ["tape"]) fun _ _ _ _ _ _ us hl => match us, hl with | [_], _ => rfl⟩
  have C__law_pool : Cl l.prog w K mg base 4 "_law_pool" ["tape"] (spOf 1 (some 0) false dPool) := ⟨f5, _, ok_pool F5 T C__law_draw C__law_element, PySem.W.mg_of X G a5, k5, F5.binds (ps := ["tape"]) fun _ _ _ _ _ _ us hl => match us, hl with | [_], _ => rfl⟩
  have C__law_contents : Cl l.prog w K mg base 5 "_law_contents" ["tape", "pool", "most"] (spOf 3 (some 0) false dCont) := ⟨f6, _, ok_contents F6 T C__law_draw, PySem.W.mg_of X G a6, k6, F6.binds (ps := ["tape", "pool", "most"]) fun _ _ _ _ _ _ us hl => match us, hl with | [_, _, _], _ => rfl⟩
  have C_check_count : ClX l.prog w K mg base 3 "check_count" ["count"] (spOfX mg 1 none false dChk) := ⟨f7, _, ok_check_count F7 T G_TooManyElements, PySem.W.mg_of X G a7, k7, F7.binds (ps := ["count"]) fun _ _ _ _ _ _ us hl => match us, hl with | [_], _ => rfl⟩
  have C_checked : ClX l.prog w K mg base 4 "checked" ["contents"] (spOfX mg 1 none false dChkd) := ⟨f8, _, ok_checked F8 T C_check_count, PySem.W.mg_of X G a8, k8, F8.binds (ps := ["contents"]) fun _ _ _ _ _ _ us hl => match us, hl with | [_], _ => rfl⟩
  have C__law_drawn_edits : Cl l.prog w K mg base 2 "_law_drawn_edits" ["tape", "base", "pool", "most"] (spOf 4 (some 0) false dDrawnE) := ⟨f9, _, ok_drawn_edits F9 T C__law_draw, PySem.W.mg_of X G a9, k9, F9.binds (ps := ["tape", "base", "pool", "most"]) fun _ _ _ _ _ _ us hl => match us, hl with | [_, _, _, _], _ => rfl⟩
  have C_goes_on : Cl l.prog w K mg base 1 "goes_on" ["before", "after"] (spOf 2 none false dGoes) := ⟨f10, _, ok_goes_on F10 T, PySem.W.mg_of X G a10, k10, F10.binds (ps := ["before", "after"]) fun _ _ _ _ _ _ us hl => match us, hl with | [_, _], _ => rfl⟩
  have C_piece_of : Cl l.prog w K mg base 1 "piece_of" ["rows"] (spOf 1 none false dPieceOf) := ⟨f11, _, ok_piece_of F11 T, PySem.W.mg_of X G a11, k11, F11.binds (ps := ["rows"]) fun _ _ _ _ _ _ us hl => match us, hl with | [_], _ => rfl⟩
  have C_pieces_of : Cl l.prog w K mg base 2 "pieces_of" ["rows"] (spOf 1 none false dPiecesOf) := ⟨f12, _, ok_pieces_of F12 T C_goes_on C_piece_of, PySem.W.mg_of X G a12, k12, F12.binds (ps := ["rows"]) fun _ _ _ _ _ _ us hl => match us, hl with | [_], _ => rfl⟩
  have C_edits_of : Cl l.prog w K mg base 1 "edits_of" ["pieces", "many"] (spOf 2 none false dEditsOf) := ⟨f13, _, ok_edits_of F13 T, PySem.W.mg_of X G a13, k13, F13.binds (ps := ["pieces", "many"]) fun _ _ _ _ _ _ us hl => match us, hl with | [_, _], _ => rfl⟩
  have M_Editor__put : Gl.Mth CX0 l.prog w K mg base 1 OA_Editor "_put" (Gl.spG 4 none (dPut OA_Editor)) := ⟨f14, _, _, OB_Editor.cl, ⟨qi14, qf14, k14⟩, ok_Editor__put F14 T OB_Editor, F14.binds (ps := ["self", "start", "old", "new"]) fun _ _ _ _ _ _ us hl => match us, hl with | [_, _, _, _], _ => rfl⟩
  have K_Editor : Gl.Mkr l.prog w K mg base 1 "Editor" OA_Editor (Gl.spG 2 none (dInit OA_Editor)) := ⟨f15, _, _, ⟨qm_Editor, qi15, qf15, qk_Editor⟩, ok_Editor___init__ F15 T OB_Editor, mq_Editor, F15.binds (ps := ["self", "contents"]) fun _ _ _ _ _ _ us hl => match us, hl with | [_, _], _ => rfl⟩
  have P_Editor_contents : Gl.Prp l.prog w K mg base 1 OA_Editor "contents" (Gl.spG 1 none (dCts OA_Editor)) := ⟨p16, f16, _, _, OB_Editor.cl, ⟨qi16, qg16, qt16, rs16, qr16⟩, ok_Editor_contents F16 T OB_Editor, F16.binds (ps := ["self"]) fun _ _ _ _ _ _ us hl => match us, hl with | [_], _ => rfl⟩
  have P_Editor_edits : Gl.Prp l.prog w K mg base 3 OA_Editor "edits" (Gl.spG 1 none (dEds OA_Editor)) := ⟨p17, f17, _, _, OB_Editor.cl, ⟨qi17, qg17, qt17, rs17, qr17⟩, ok_Editor_edits F17 T OB_Editor C_pieces_of C_edits_of, F17.binds (ps := ["self"]) fun _ _ _ _ _ _ us hl => match us, hl with | [_], _ => rfl⟩
  have M_Editor_replace_range : Gl.Mth (L2.CX l.prog w) l.prog w K mg base 4 OA_Editor "replace_range" (Gl.spGX mg 4 none (dRep OA_Editor)) := ⟨f18, _, _, OB_Editor.cl, ⟨qi18, qf18, k18⟩, ok_Editor_replace_range F18 T OB_Editor G_IndexOutOfRange C_check_count M_Editor__put, F18.binds (ps := ["self", "start", "end", "inserted"]) fun _ _ _ _ _ _ us hl => match us, hl with | [_, _, _, _], _ => rfl⟩
  have C_apply_edits : ClX l.prog w K mg base 5 "apply_edits" ["contents", "edits"] (spOfX mg 2 none false dAppE) := ⟨f19, _, ok_apply_edits F19 T C_checked, PySem.W.mg_of X G a19, k19, F19.binds (ps := ["contents", "edits"]) fun _ _ _ _ _ _ us hl => match us, hl with | [_, _], _ => rfl⟩
  have C__law_edited : Cl l.prog w K mg base 1 "_law_edited" ["base", "edits"] (spOf 2 none false dEdtd) := ⟨f20, _, ok_edited F20 T, PySem.W.mg_of X G a20, k20, F20.binds (ps := ["base", "edits"]) fun _ _ _ _ _ _ us hl => match us, hl with | [_, _], _ => rfl⟩
  have C_clashes : Cl l.prog w K mg base 1 "clashes" ["ours", "theirs"] (spOf 2 none false dClashes) := ⟨f21, _, ok_clashes F21 T, PySem.W.mg_of X G a21, k21, F21.binds (ps := ["ours", "theirs"]) fun _ _ _ _ _ _ us hl => match us, hl with | [_, _], _ => rfl⟩
  have C_merged_edits : Cl l.prog w K mg base 2 "merged_edits" ["ours", "theirs"] (spOf 2 none false dMer) := ⟨f22, _, ok_merged_edits F22 T C_clashes, PySem.W.mg_of X G a22, k22, F22.binds (ps := ["ours", "theirs"]) fun _ _ _ _ _ _ us hl => match us, hl with | [_, _], _ => rfl⟩
  have C__law_both : Cl l.prog w K mg base 6 "_law_both" ["base", "ours", "theirs"] (spOf 3 none false dBoth) := ⟨f23, _, ok_both F23 T OB_Editor K_Editor P_Editor_contents P_Editor_edits M_Editor_replace_range, PySem.W.mg_of X G a23, k23, F23.binds (ps := ["base", "ours", "theirs"]) fun _ _ _ _ _ _ us hl => match us, hl with | [_, _, _], _ => rfl⟩
  exact ok_law F24 T C__law_tape C__law_draw C__law_pool C__law_contents C__law_drawn_edits C_clashes C_merged_edits C_apply_edits C__law_edited C__law_both C__law_alike
end Ss
open PySem PySem.W PyProof.Rows
set_option maxHeartbeats 0 in
theorem PySem.Challenge.cw_sameshape_k75_whole_merged_edits_apply_holds : PySem.Challenge.rw_sameshape_k75_whole_merged_edits_apply.Holds := by
  w_on; o_law; k_head; (case hw => w_witness2)
  k_fill
  refine L2.walk_of (l := PySem.Challenge.rw_sameshape_k75_whole_merged_edits_apply) (n := 63) (k := 12) (x := "script") (CX := fun _ => L2.CX0) (sp := fun w => Ss.spLaw _) rfl (by decide) rfl ⟨rfl, by decide, by decide⟩ (fun w h Y => PySem.W.kIn_of Y) ?F (fun _ _ a ns hl _ hS => ⟨a, ns, rfl, hS, hl, fun _ => rfl⟩) (fun _ _ _ _ _ h => h)
  case F =>
    intro w mg fa h KX G hmg
    refine' Ss.all_mk KX G hmg ?qa_Editor ?qp_Editor ?qd_Editor ?qo_Editor ?qs_Editor ?qn_Editor__many ?qn_Editor__rows ?qn_Editor__contents ?qn_Editor__done ?qn_Editor__undone ?qm_Editor ?qk_Editor ?a0 ?l0 ?c0 ?k0 ?a1 ?l1 ?c1 ?k1 ?a2 ?l2 ?c2 ?k2 ?a3 ?l3 ?c3 ?k3 ?a4 ?l4 ?c4 ?k4 ?a5 ?l5 ?c5 ?k5 ?a6 ?l6 ?c6 ?k6 ?a7 ?l7 ?c7 ?k7 ?a8 ?l8 ?c8 ?k8 ?a9 ?l9 ?c9 ?k9 ?a10 ?l10 ?c10 ?k10 ?a11 ?l11 ?c11 ?k11 ?a12 ?l12 ?c12 ?k12 ?a13 ?l13 ?c13 ?k13 ?qi14 ?qf14 ?l14 ?c14 ?k14 ?qi15 ?qf15 ?l15 ?c15 ?k15 ?qi16 ?qg16 ?qt16 ?qr16 ?l16 ?c16 ?k16 ?qi17 ?qg17 ?qt17 ?qr17 ?l17 ?c17 ?k17 ?qi18 ?qf18 ?l18 ?c18 ?k18 ?a19 ?l19 ?c19 ?k19 ?a20 ?l20 ?c20 ?k20 ?a21 ?l21 ?c21 ?k21 ?a22 ?l22 ?c22 ?k22 ?a23 ?l23 ?c23 ?k23 ?a24 ?l24 ?c24 ?k24 ?z_len ?z_tuple ?z_enumerate ?z_sorted ?z_range ?z_list ?z_int ?z_abs ?z_max ?z_isinstance ?z_str ?z_bool ?z_reversed ?z_iter ?z_property ?y_MOST ?xa_ShapeError ?xs_ShapeError ?xr_ShapeError ?xf_ShapeError ?xd_ShapeError ?xt_ShapeError ?xb_ShapeError ?xn_get ?xn_tk ?xa_IndexOutOfRange ?xg_IndexOutOfRange ?xh_IndexOutOfRange ?xb_IndexOutOfRange ?xd_IndexOutOfRange ?xc_IndexOutOfRange ?xm_IndexOutOfRange ?xt_IndexOutOfRange ?xk_IndexOutOfRange ?xl_IndexOutOfRange ?xv_IndexOutOfRange ?xs_IndexOutOfRange ?xf_IndexOutOfRange ?xi_IndexOutOfRange ?xj_IndexOutOfRange ?xL_IndexOutOfRange ?xC_IndexOutOfRange ?xK_IndexOutOfRange ?xa_TooManyElements ?xg_TooManyElements ?xh_TooManyElements ?xb_TooManyElements ?xd_TooManyElements ?xc_TooManyElements ?xm_TooManyElements ?xt_TooManyElements ?xk_TooManyElements ?xl_TooManyElements ?xv_TooManyElements ?xs_TooManyElements ?xf_TooManyElements ?xi_TooManyElements ?xj_TooManyElements ?xL_TooManyElements ?xC_TooManyElements ?xK_TooManyElements
    (case qa_Editor => k_is); (case qp_Editor => k_is); (case qd_Editor => k_is); (case qo_Editor => k_is); (case qs_Editor => k_is); (case qn_Editor__many => k_is); (case qn_Editor__rows => k_is); (case qn_Editor__contents => k_is); (case qn_Editor__done => k_is); (case qn_Editor__undone => k_is); (case qm_Editor => k_is); (case qk_Editor => k_is); (case a0 => k_is); (case l0 => k_is); (case c0 => k_is); (case k0 => k_is); (case a1 => k_is); (case l1 => k_is); (case c1 => k_is); (case k1 => k_is); (case a2 => k_is); (case l2 => k_is); (case c2 => k_is); (case k2 => k_is); (case a3 => k_is); (case l3 => k_is); (case c3 => k_is); (case k3 => k_is); (case a4 => k_is); (case l4 => k_is); (case c4 => k_is); (case k4 => k_is); (case a5 => k_is); (case l5 => k_is); (case c5 => k_is); (case k5 => k_is); (case a6 => k_is); (case l6 => k_is); (case c6 => k_is); (case k6 => k_is); (case a7 => k_is); (case l7 => k_is); (case c7 => k_is); (case k7 => k_is); (case a8 => k_is); (case l8 => k_is); (case c8 => k_is); (case k8 => k_is); (case a9 => k_is); (case l9 => k_is); (case c9 => k_is); (case k9 => k_is); (case a10 => k_is); (case l10 => k_is); (case c10 => k_is); (case k10 => k_is); (case a11 => k_is); (case l11 => k_is); (case c11 => k_is); (case k11 => k_is); (case a12 => k_is); (case l12 => k_is); (case c12 => k_is); (case k12 => k_is); (case a13 => k_is); (case l13 => k_is); (case c13 => k_is); (case k13 => k_is); (case qi14 => k_is); (case qf14 => k_is); (case l14 => k_is); (case c14 => k_is); (case k14 => k_is); (case qi15 => k_is); (case qf15 => k_is); (case l15 => k_is); (case c15 => k_is); (case k15 => k_is); (case qi16 => k_is); (case qg16 => k_is); (case qt16 => k_is); (case qr16 => k_is); (case l16 => k_is); (case c16 => k_is); (case k16 => k_is); (case qi17 => k_is); (case qg17 => k_is); (case qt17 => k_is); (case qr17 => k_is); (case l17 => k_is); (case c17 => k_is); (case k17 => k_is); (case qi18 => k_is); (case qf18 => k_is); (case l18 => k_is); (case c18 => k_is); (case k18 => k_is); (case a19 => k_is); (case l19 => k_is); (case c19 => k_is); (case k19 => k_is); (case a20 => k_is); (case l20 => k_is); (case c20 => k_is); (case k20 => k_is); (case a21 => k_is); (case l21 => k_is); (case c21 => k_is); (case k21 => k_is); (case a22 => k_is); (case l22 => k_is); (case c22 => k_is); (case k22 => k_is); (case a23 => k_is); (case l23 => k_is); (case c23 => k_is); (case k23 => k_is); (case a24 => k_is); (case l24 => k_is); (case c24 => k_is); (case k24 => k_is); (case z_len => k_is); (case z_tuple => k_is); (case z_enumerate => k_is); (case z_sorted => k_is); (case z_range => k_is); (case z_list => k_is); (case z_int => k_is); (case z_abs => k_is); (case z_max => k_is); (case z_isinstance => k_is); (case z_str => k_is); (case z_bool => k_is); (case z_reversed => k_is); (case z_iter => k_is); (case z_property => k_is); (case y_MOST => k_is); (case xa_ShapeError => k_is); (case xs_ShapeError => k_is); (case xr_ShapeError => k_is); (case xf_ShapeError => k_is); (case xd_ShapeError => k_is); (case xt_ShapeError => k_is); (case xb_ShapeError => k_is); (case xn_get => k_is); (case xn_tk => k_is); (case xa_IndexOutOfRange => k_is); (case xg_IndexOutOfRange => k_is); (case xh_IndexOutOfRange => k_is); (case xb_IndexOutOfRange => k_is); (case xd_IndexOutOfRange => k_is); (case xc_IndexOutOfRange => k_is); (case xm_IndexOutOfRange => k_is); (case xt_IndexOutOfRange => k_is); (case xk_IndexOutOfRange => k_is); (case xl_IndexOutOfRange => k_is); (case xv_IndexOutOfRange => rfl); (case xs_IndexOutOfRange => k_is); (case xf_IndexOutOfRange => k_is); (case xi_IndexOutOfRange => k_is); (case xj_IndexOutOfRange => k_is); (case xL_IndexOutOfRange => k_is); (case xC_IndexOutOfRange => k_is); (case xK_IndexOutOfRange => k_is); (case xa_TooManyElements => k_is); (case xg_TooManyElements => k_is); (case xh_TooManyElements => k_is); (case xb_TooManyElements => k_is); (case xd_TooManyElements => k_is); (case xc_TooManyElements => k_is); (case xm_TooManyElements => k_is); (case xt_TooManyElements => k_is); (case xk_TooManyElements => k_is); (case xl_TooManyElements => k_is); (case xv_TooManyElements => rfl); (case xs_TooManyElements => k_is); (case xf_TooManyElements => k_is); (case xi_TooManyElements => k_is); (case xj_TooManyElements => k_is); (case xL_TooManyElements => k_is); (case xC_TooManyElements => k_is); (case xK_TooManyElements => k_is)
#print axioms PySem.Challenge.cw_sameshape_k75_whole_merged_edits_apply_holds

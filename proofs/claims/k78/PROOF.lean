import PyProof.Rows.All
import Wide.All
import OpenK.AllK
import Wide.FinOn
import PySem.Challenge.RW_neverdark_k78_whole_falls_of_a_hand
import HandS.ForMost
import HandS.Walk
import HandS.IsInst
import HandS.Style
import HandS.FStr
import HandS.WideBits
import HandS.Deep
import HandS.Steps
import HandS.Lambda
import HandS.EndTab
import KE.SortKeyHeap
import KE.DatumOrd
import KE.KDictPairs
import KE.KDictCopyH
import PyProof.P3In
import HandS.NoneIn
import HandS.Star
import HandS.List
import KE.DataMinMax
import HandS.Flow
import HandS.Iter
import HandS.Zip
import HandS.DictTup
import HandS.ForExc
import HandS.ExcIs
import HandS.ExcField
import HandS.ExcSuper
import KE.KExcSuper
import KE.SortData
import KE.RegKSuper
import KE.GoesEnumKw
import KE.GoesMore
import HandS.Codes
set_option Elab.async false
set_option linter.all false
set_option maxRecDepth 100000
set_option maxHeartbeats 4000000
namespace NK
open PySem PySem.Spec PyProof.Rows L2
/-! ### a def of the text that keeps a promise, found by its name -/
def Ok (P : Program) (w : World) (K : PySem.W.Frag) (mg : Str → Option Value) (base : Heap) (k : Nat) (x : Str) (ps : List Str) (sp : Sp) : Prop :=
  ∃ (f : Addr) (fd : FuncData), FnOk P w K mg base CX0 k f fd ps sp ∧ mg x = some (.ref f) ∧ PySem.W.keepIn K (.ref f) = true ∧ Binds K fd ps []
def Def (K : PySem.W.Frag) (mg : Str → Option Value) (x : Str) (st : Stmt) (ps : List Str) : Prop :=
  ∃ (f : Addr) (fd : FuncData), Fun K x x st f fd ∧ mg x = some (.ref f) ∧ Binds K fd ps []
section
variable {P : Program} {w : World} {K : PySem.W.Frag} {mg : Str → Option Value} {base : Heap}
theorem Def.ok {x : Str} {st : Stmt} {N ps : List Str} {k : Nat} {sp : Sp} (D : Def K mg x st ps) (S : FnScope N ps (defScope st)) (len : ∀ vs H Q E, sp vs H Q E → vs.length = ps.length)
    (hbody : ∀ (cdv : Value) (f : Addr) (A : Around) (outer : List Env) (s : Shared) (H : Hp) (vs : List V) (Q : VK) (E : XK), Room k (A.deeper (envOfC x (defScope st) s.heap.objs.size f cdv)) → sp vs H Q E →
      ∃ t, PSs (cxOf CX0 P w K mg base N x (defScope st) f cdv A outer s H E).nox (defBody st) t ∧ t { nx := fun _ H' => Q .non H', rt := Q } (start N vs) H) : Ok P w K mg base (k + 1) x ps sp := by
  obtain ⟨f, fd, F, hm, hb⟩ := D
  exact ⟨f, fd, F.ok S len fun cdv A outer s H vs Q E hr h => hbody cdv f A outer s H vs Q E hr h, hm, F.kp, hb⟩
theorem Ok.mono {j k : Nat} {x : Str} {ps : List Str} {sp : Sp} (h : Ok P w K mg base j x ps sp) (hk : j ≤ k) : Ok P w K mg base k x ps sp := by
  obtain ⟨f, fd, F, r⟩ := h
  exact ⟨f, fd, F.mono hk, r⟩
end
section
variable {X : Cx}
theorem pe_callO {x : Str} {p pos : Pos} {e : Expr} {es : List Expr} {t : TA} {k : Nat} {ps : List Str} {sp : Sp} (h : Ok X.prog X.w X.K X.mg X.base k x ps sp) (hr : Room k X.A) (hg : Gl X x) (ha : PA X (e :: es) t)
    (hdb : (x == ("__debug__" : Str)) = false := by decide) (he : starEach (e :: es) X.env = (false, eval e X.env) :: starEach es X.env := by rfl) (hpl : (backTo pos (starEach es X.env)).any (·.1) = false := by rfl) :
    PE X (.Call (.Name x p) (e :: es) [] pos) (tCall sp [] E0 t) := by
  obtain ⟨f, fd, F, hm, hk, hb⟩ := h
  exact pe_call F hr hg hm hk hb .nil pass0 ha hdb he hpl
/-- a module's constant -/
theorem pe_glS {x : Str} {z : Str} {pos : Pos} (hg : Gl X x) (hm : ∃ t, X.mg x = some (.str z t)) (hd : (x == ("__debug__" : Str)) = false := by decide) : PE X (.Name x pos) (tC (.str z)) := by
  obtain ⟨t, hm⟩ := hm
  exact pe_glob hg hm ⟨t, rfl⟩ hd
theorem pe_glI {x : Str} {z : Int} {pos : Pos} (hg : Gl X x) (hm : ∃ t, X.mg x = some (.int z t)) (hd : (x == ("__debug__" : Str)) = false := by decide) : PE X (.Name x pos) (tC (.int z)) := by
  obtain ⟨t, hm⟩ := hm
  exact pe_glob hg hm ⟨t, rfl⟩ hd
/-- the empty tuple ahead of another one -/
def rCatT0 (K : PySem.W.Frag) : R2 := fun x y H Q => ∃ a b ys, x = .ref a ∧ y = .ref b ∧ SqT K H a [] ∧ SqT K H b ys ∧ Q (.ref b) H
theorem op_catT0 {X : Cx} (K : PySem.W.Frag) (hK : X.K = K) : OpR X (binaryOp .Add) (rCatT0 K) := by
  subst hK
  intro pins s σ H x y v u Q I rx ry h
  obtain ⟨a, b, ys, rfl, rfl, ha, hb, q⟩ := h
  cases rx
  cases ry
  obtain ⟨its, rv, ⟨o, ho, hc, n, hd⟩, hz⟩ := I.tuple ha
  obtain ⟨its2, rv2, ⟨o2, ho2, hc2, n2, hd2⟩, hz2⟩ := I.tuple hb
  cases rv
  obtain ⟨c1, d1, k1, s1⟩ := o
  obtain ⟨c2, d2, k2, s2⟩ := o2
  simp only at hc hd hc2 hd2
  subst hc hd hc2 hd2
  have t1 : s.TypeIs (.ref a) "tuple" := ⟨_, ho, rfl⟩
  have t2 : s.TypeIs (.ref b) "tuple" := ⟨_, ho2, rfl⟩
  refine PySem.wpAny_binaryOp_concat (T := "tuple") (id := "tuple.__add__") t1 t2 PySem.noFill_tuple_add PySem.seq_tuple_add ?_
  exact PySem.call_meets PySem.F.slot_tuple_add t1 PySem.F.entry_tuple_add (PySem.F.args_tuple_add_2 _ _) (PyProof.Rows.tuple_addW0 a b #[] its2.toArray n n2 d1 d2 s1 s2 rfl) ⟨ho, ho2, ⟨.ref b, H, I, rfl, q⟩⟩
/-! ### one rule for each sign, whatever its operands are; K is the written part by its name -/
def rPlus (K : PySem.W.Frag) : R2 := fun x y H Q => (rI0 (fun i j => .int (i + j)) x y H Q) ∨ (∃ i j, x = .str i ∧ y = .str j ∧ i.length + j.length ≤ sizeLine ∧ Q (.str (i ++ j)) H) ∨ (rCat x y H Q) ∨ (rCatT K x y H Q) ∨ (rCatT0 K x y H Q)
theorem op_plus (K : PySem.W.Frag) (hK : X.K = K) : OpR X (binaryOp .Add) (rPlus K) := by
  have h0 := op_catT0 (X := X) K hK
  subst hK
  exact op_add.or (op_add_str.or (op_cat.or (op_catT.or h0)))
def rEqU (K : PySem.W.Frag) : R2 := fun x y H Q => rEq x y H Q ∨ rEqD K x y H Q
def rNeU (K : PySem.W.Frag) : R2 := fun x y H Q => rNe x y H Q ∨ rNeD K x y H Q
theorem op_eqU (K : PySem.W.Frag) (hK : X.K = K) (hu : X.A.units + 64 < cLine) : OpR X (compareOp .Eq) (rEqU K) := by
  subst hK
  exact op_eq.or (op_eqD hu)
theorem op_neU (K : PySem.W.Frag) (hK : X.K = K) (hu : X.A.units + 64 < cLine) : OpR X (compareOp .NotEq) (rNeU K) := by
  subst hK
  exact op_ne.or (op_neD hu)
def rInU (K : PySem.W.Frag) : R2 := fun x y H Q => rIn K false x y H Q ∨ rInS x y H Q
def rNinU (K : PySem.W.Frag) : R2 := fun x y H Q => rIn K true x y H Q ∨ rNotInS x y H Q
theorem op_inU (K : PySem.W.Frag) (hK : X.K = K) : OpR X (compareOp .In) (rInU K) := by
  subst hK
  exact op_in_seq.or op_in_sign
theorem op_ninU (K : PySem.W.Frag) (hK : X.K = K) : OpR X (compareOp .NotIn) (rNinU K) := by
  subst hK
  exact op_notIn_seq.or op_notIn_sign
def rIsU : R2 := fun x y H Q => rIsB x y H Q ∨ rIsN x y H Q
def rIsNU : R2 := fun x y H Q => rNotB x y H Q ∨ rNotN x y H Q
theorem op_isU : OpR X (compareOp .Is) rIsU := op_isBl.or op_isN
theorem op_isnotU : OpR X (compareOp .IsNot) rIsNU := op_notBl.or op_notN
theorem ix_U (K : PySem.W.Frag) (hK : X.K = K) : IxR X (rIx K) := by
  subst hK
  exact ix_seq
def rSlU (K : PySem.W.Frag) : V → Option Int → Option Int → Hp → VK → Prop := fun x lo hi H Q => rSlL K x lo hi H Q ∨ rSlS x lo hi H Q ∨ rSlT K x lo hi H Q
theorem sl_U (K : PySem.W.Frag) (hK : X.K = K) : SlR X (rSlU K) := by
  subst hK
  exact sl_list.or (sl_str.or sl_tup)
def rLenU (K : PySem.W.Frag) : List V → Hp → VK → Prop := fun xs H Q => (∃ z, xs = [.str z] ∧ z.length ≤ sizeLine ∧ Q (.int z.length) H) ∨ (∃ p ys, xs = [.ref p] ∧ (SqL K H p ys ∨ SqT K H p ys) ∧ Q (.int ys.length) H)
theorem call_lenU (K : PySem.W.Frag) (hK : X.K = K) : CallR X (.builtin "len") (rLenU K) := by
  subst hK
  exact call_len_str.or call_len_seq
def rInt1 : List V → Hp → VK → Prop := fun xs H Q => (∃ i, xs = [.int i] ∧ Q (.int i) H) ∨ ∃ k, xs = [.bl k] ∧ Q (.int (if k then 1 else 0)) H
theorem call_int1U : CallR X (.type "int") rInt1 := call_int1
def rListOf (K : PySem.W.Frag) : List V → Hp → VK → Prop := fun xs H Q => ∃ p ys, xs = [.ref p] ∧ (SqL K H p ys ∨ SqT K H p ys) ∧ ∀ l, H l = none → Q (.ref l) (upd H l (.lst ys))
theorem call_listU (K : PySem.W.Frag) (hK : X.K = K) : CallR X (.type "list") (rListOf K) := by
  subst hK
  exact call_list_of
def rTupOf (K : PySem.W.Frag) : List V → Hp → VK → Prop := fun xs H Q => ∃ p ys, xs = [.ref p] ∧ ((SqL K H p ys ∧ ∀ l, H l = none → Q (.ref l) (upd H l (.tup ys))) ∨ (SqT K H p ys ∧ Q (.ref p) H))
theorem call_tupU (K : PySem.W.Frag) (hK : X.K = K) : CallR X (.type "tuple") (rTupOf K) := by
  subst hK
  exact call_tuple_of
theorem call_allU (K : PySem.W.Frag) (hK : X.K = K) (hc : X.calm = true) : CallR X (.builtin "all") (rAll K) := by
  subst hK
  exact cr_all hc
theorem call_anyU (K : PySem.W.Frag) (hK : X.K = K) (hc : X.calm = true) : CallR X (.builtin "any") (rAny K) := by
  subst hK
  exact cr_any hc
theorem call_isiU (K : PySem.W.Frag) (hK : X.K = K) : CallR X (.builtin "isinstance") (rIsi K) := by
  subst hK
  exact call_isi
def rSplit : V → List V → Hp → VK → Prop := fun x xs H Q => ∃ a b, x = .str a ∧ xs = [.str b] ∧ (b.length == 0) = false ∧ a.length + 2 ≤ sizeLine ∧ rNewStrs (Txt.split a b) H Q
def rJoin (K : PySem.W.Frag) : V → List V → Hp → VK → Prop := fun x xs H Q => ∃ a p, ∃ ys : List Str, x = .str a ∧ xs = [.ref p] ∧ (SqL K H p (ys.map V.str) ∨ SqT K H p (ys.map V.str)) ∧ (ys.map (·.length)).sum + ys.length * a.length ≤ 16777216 ∧ Q (.str (Txt.join a ys)) H
def rEndsW : V → List V → Hp → VK → Prop := fun x xs H Q => ∃ a b, x = .str a ∧ xs = [.str b] ∧ Q (.bl (Txt.endswith a b)) H
theorem mt_splitU : MtR X "str.split" rSplit := mt_split
theorem mt_endsU : MtR X "str.endswith" rEndsW := mt_endswith
theorem mt_joinU (K : PySem.W.Frag) (hK : X.K = K) : MtR X "str.join" (rJoin K) := by
  subst hK
  exact mt_join
theorem pt_E {e : Expr} {t : TE} (h : PE X e t) (he : ∀ whole, isTrue e X.env whole = (do let v ← whole; standAt e.pos; holding [v] (truthy v)) := by intro _; rfl) : PT X e (tB t) := pt_val h he
theorem pe_rev (K : PySem.W.Frag) (hK : X.K = K) {e : Expr} {te : TE} {k : Nat} {p1 p2 p3 pos : Pos} (he : PE X e te) : PE X (.Subscript e (.Slice none none (some (.UnaryOp .USub (.Constant (.int 1) k p1) p2)) p3) pos) (tRevL K te) := by
  subst hK
  exact pe_revL he
end
/-! ### steps of a reading -/
section
variable {K : PySem.W.Frag} {σ : L2.St} {H : Hp} {Q : VK} {te ta tb : TE} {D : Ends} {nx : L2.St → Hp → Prop} {rt : VK} {bk ct : L2.St → Hp → Prop}
theorem rd_var {i : Nat} {v : V} (h : σ[i]? = some (some v)) (q : Q v H) : tVar i σ H Q := ⟨v, h, q⟩
theorem rd_c {v : V} (q : Q v H) : tC v σ H Q := q
theorem rd_op {r : R2} (q : ta σ H fun x H1 => tb σ H1 fun y H2 => r x y H2 Q) : tOp r ta tb σ H Q := q
theorem rd_un {r : V → Hp → VK → Prop} (q : ta σ H fun x H1 => r x H1 Q) : tUn r ta σ H Q := q
theorem rd_i0 {f : Int → Int → V} {i j : Int} (q : Q (f i j) H) : rI0 f (.int i) (.int j) H Q := ⟨i, j, rfl, rfl, q⟩
theorem rd_i {C : Int → Int → Prop} {f : Int → Int → V} {i j : Int} (c : C i j) (q : Q (f i j) H) : rI C f (.int i) (.int j) H Q := ⟨i, j, rfl, rfl, c, q⟩
theorem rd_plusI {i j : Int} (q : Q (.int (i + j)) H) : rPlus K (.int i) (.int j) H Q := .inl ⟨i, j, rfl, rfl, q⟩
theorem rd_plusS {i j : Str} (c : i.length + j.length ≤ sizeLine) (q : Q (.str (i ++ j)) H) : rPlus K (.str i) (.str j) H Q := .inr (.inl ⟨i, j, rfl, rfl, c, q⟩)
theorem rd_uI {f : Int → Int} {i : Int} (q : Q (.int (f i)) H) : rU (fun i => .int (f i)) (.int i) H Q := ⟨i, rfl, q⟩
theorem rd_eqS {x y : V} (h : scal x y = true) (q : Q (.bl (decide (x = y))) H) : rEqU K x y H Q := .inl ⟨h, q⟩
theorem rd_neS {x y : V} (h : scal x y = true) (q : Q (.bl (!decide (x = y))) H) : rNeU K x y H Q := .inl ⟨h, q⟩
theorem rd_ixL {p : Addr} {xs : List V} {i : Int} {v : V} (h : SqL K H p xs) (a : atI xs i = some v) (q : Q v H) : rIx K (.ref p) (.int i) H Q := .inl ⟨p, xs, i, v, rfl, rfl, h, a, q⟩
theorem rd_ixT {p : Addr} {xs : List V} {i : Int} {v : V} (h : SqT K H p xs) (a : atI xs i = some v) (q : Q v H) : rIx K (.ref p) (.int i) H Q := .inr (.inl ⟨p, xs, i, v, rfl, rfl, h, a, q⟩)
theorem rd_B {Q : Bool → Hp → Prop} (q : te σ H fun v H1 => ∃ b, v = .bl b ∧ Q b H1) : tB te σ H Q := q
theorem rd_bl {b : Bool} {Q : Bool → Prop} (q : Q b) : ∃ c, V.bl b = .bl c ∧ Q c := ⟨b, rfl, q⟩
theorem rd_if {c : TT} {t u : TS} (q : c σ H fun b H1 => if b = true then t D σ H1 else u D σ H1) : tIfS c t u D σ H := q
theorem rd_ifE {c : TT} (q : c σ H fun b H1 => if b = true then ta σ H1 Q else tb σ H1 Q) : tIf c ta tb σ H Q := q
theorem rd_seq {t u : TS} (q : t ⟨fun σ H => u ⟨nx, rt, bk, ct⟩ σ H, rt, bk, ct⟩ σ H) : tSeq t u ⟨nx, rt, bk, ct⟩ σ H := q
theorem rd_next (q : nx σ H) : tNext ⟨nx, rt, bk, ct⟩ σ H := q
theorem rd_asg {g : TG} (q : te σ H fun x H1 => g x σ H1 nx) : tAsg te g ⟨nx, rt, bk, ct⟩ σ H := q
theorem rd_name {i : Nat} {v : V} {Q : L2.St → Hp → Prop} (q : Q (σ.set i (some v)) H) : gName i v σ H Q := q
theorem rd_ret (q : te σ H rt) : tRet te ⟨nx, rt, bk, ct⟩ σ H := q
theorem rd_drop (q : te σ H fun _ H1 => nx σ H1) : tDrop te ⟨nx, rt, bk, ct⟩ σ H := q
theorem rd_call {sp : Sp} {E : XK} {t : TA} (q : t σ H fun vs H1 => sp (vs ++ []) H1 Q E) : tCall sp [] E t σ H Q := q
theorem rd_cons {tr : TA} {Q : List V → Hp → Prop} (q : ta σ H fun x H1 => tr σ H1 fun xs H2 => Q (x :: xs) H2) : tCons ta tr σ H Q := q
theorem rd_nil {Q : List V → Hp → Prop} (q : Q [] H) : tNil σ H Q := q
theorem rd_cb {r : List V → Hp → VK → Prop} {t : TA} (q : t σ H fun vs H1 => r vs H1 Q) : tCB r t σ H Q := q
theorem rd_sub {to ti : TE} {t : TSet} {v : V} {Q : L2.St → Hp → Prop} (q : to σ H fun o H1 => ti σ H1 fun i H2 => t o i v H2 fun H3 => Q σ H3) : gSub to ti t v σ H Q := q
theorem rd_not (q : ta σ H fun x H1 => ∃ c, x = .bl c ∧ Q (.bl (!c)) H1) : tNotV ta σ H Q := q
theorem rd_and (q : ta σ H fun x H1 => ∃ c, x = .bl c ∧ if c = true then tb σ H1 Q else Q (.bl false) H1) : tAndV ta tb σ H Q := q
theorem rd_or (q : ta σ H fun x H1 => ∃ c, x = .bl c ∧ if c = true then Q (.bl true) H1 else tb σ H1 Q) : tOrV ta tb σ H Q := q
theorem rd_T {Q : Bool → Hp → Prop} (q : te σ H fun v H1 => ∃ b, v = .bl b ∧ Q b H1) : tTest te σ H Q := q
theorem rd_tnot {t : TT} {Q : Bool → Hp → Prop} (q : t σ H fun c H1 => Q (!c) H1) : tNot t σ H Q := q
theorem rd_tand {t u : TT} {Q : Bool → Hp → Prop} (q : t σ H fun c H1 => if c = true then u σ H1 Q else Q false H1) : tAnd t u σ H Q := q
theorem rd_tor {t u : TT} {Q : Bool → Hp → Prop} (q : t σ H fun c H1 => if c = true then Q true H1 else u σ H1 Q) : tOr t u σ H Q := q
theorem rd_chain {r r' : R2} {tc : TE} (q : ta σ H fun x H1 => tb σ H1 fun y H2 => r x y H2 fun z H3 => ∃ k, z = .bl k ∧ (if k = true then tc σ H3 fun w' H4 => r' y w' H4 Q else Q (.bl false) H3)) : tChain r r' ta tb tc σ H Q := q
theorem rd_ite {p A B : Prop} [Decidable p] (h1 : p → A) (h2 : ¬ p → B) : if decide p = true then A else B := by
  by_cases h : p
  · rw [if_pos (decide_eq_true h)]
    exact h1 h
  · rw [if_neg (by rw [decide_eq_false h]; decide)]
    exact h2 h
theorem rd_itn {p A B : Prop} [Decidable p] (h1 : p → B) (h2 : ¬ p → A) : if (!decide p) = true then A else B := by
  by_cases h : p
  · rw [decide_eq_true h]
    exact h1 h
  · rw [decide_eq_false h]
    exact h2 h
theorem rd_len {z : Str} (h : z.length ≤ sizeLine) (q : Q (.int z.length) H) : rLenU K [.str z] H Q := .inl ⟨z, rfl, h, q⟩
theorem rd_lenL {p : Addr} {ys : List V} (h : SqL K H p ys) (q : Q (.int ys.length) H) : rLenU K [.ref p] H Q := .inr ⟨p, ys, rfl, .inl h, q⟩
theorem rd_int1 {i : Int} (q : Q (.int i) H) : rInt1 [.int i] H Q := .inl ⟨i, rfl, q⟩
theorem rd_listL {p : Addr} {ys : List V} (h : SqL K H p ys) (q : ∀ l, H l = none → Q (.ref l) (upd H l (.lst ys))) : rListOf K [.ref p] H Q := ⟨p, ys, rfl, .inl h, q⟩
theorem rd_tupL {p : Addr} {ys : List V} (h : SqL K H p ys) (q : ∀ l, H l = none → Q (.ref l) (upd H l (.tup ys))) : rTupOf K [.ref p] H Q := ⟨p, ys, rfl, .inl ⟨h, q⟩⟩
theorem rd_m1 {r : V → List V → Hp → VK → Prop} (q : ta σ H fun x H1 => (∃ a, x = .str a) ∧ tb σ H1 fun y H2 => r x [y] H2 Q) : tM1 r ta tb σ H Q := q
theorem rd_split {a b : Str} (hb : (b.length == 0) = false) (ha : a.length + 2 ≤ sizeLine) (q : ∀ p, H p = none → Q (.ref p) (upd H p (.lst ((Txt.split a b).map V.str)))) : rSplit (.str a) [.str b] H Q := ⟨a, b, rfl, rfl, hb, ha, q⟩
theorem rd_ends {a b : Str} (q : Q (.bl (Txt.endswith a b)) H) : rEndsW (.str a) [.str b] H Q := ⟨a, b, rfl, rfl, q⟩
theorem rd_join {a : Str} {p : Addr} {ys : List Str} (h : SqL K H p (ys.map V.str)) (c : (ys.map (·.length)).sum + ys.length * a.length ≤ 16777216) (q : Q (.str (Txt.join a ys)) H) : rJoin K (.str a) [.ref p] H Q := ⟨a, p, ys, rfl, rfl, .inl h, c, q⟩
theorem rd_inS {c : Nat} {z : Str} (q : Q (.bl (decide (c ∈ z.cps.toList))) H) : rInU K (.str ⟨#[c]⟩) (.str z) H Q := .inr ⟨c, z, rfl, rfl, q⟩
theorem rd_ninS {c : Nat} {z : Str} (q : Q (.bl (!decide (c ∈ z.cps.toList))) H) : rNinU K (.str ⟨#[c]⟩) (.str z) H Q := .inr ⟨c, z, rfl, rfl, q⟩
theorem rd_all {a : Addr} {bs : List Bool} (h : SqL K H a (bs.map V.bl)) (q : Q (.bl (bs.all id)) H) : rAll K [.ref a] H Q := ⟨a, bs, rfl, h, q⟩
theorem rd_isStr {z : Str} (q : Q (.bl true) H) : rIsi K [.str z, .ty "str"] H Q := ⟨_, _, _, _, true, rfl, .ty _, .base (.str _), rfl, q⟩
theorem rd_lst {t : TA} (q : t σ H fun xs H1 => xs.length ≤ sizeLine ∧ ∀ p, H1 p = none → Q (.ref p) (upd H1 p (.lst xs))) : tLst t σ H Q := q
theorem rd_tup {t : TA} (q : t σ H fun xs H1 => xs.length ≤ sizeLine ∧ ∀ p, H1 p = none → Q (.ref p) (upd H1 p (.tup xs))) : tTup t σ H Q := q
theorem rd_set {p : Addr} {k : Int} {v : V} {xs : List V} {j : Nat} {Q : Hp → Prop} (h : H p = some (.lst xs)) (a : ixN xs.length k = some j) (q : Q (upd H p (.lst (xs.set j v)))) : rSetL (.ref p) (.int k) v H Q := ⟨p, xs, k, j, rfl, rfl, h, a, q⟩
end
/-! ### what stays: all but the objects of ms, and the tables of code objects -/
open LamX in
structure Ext (T : List (Addr × Str)) (ms : List Addr) (H H' : Hp) : Prop where
  keep : ∀ b o, b ∉ ms → (∀ ps, o ≠ .tbl ps) → H b = some o → H' b = some o
  tabs : LamX.Tabs T H → LamX.Tabs T H'
/-- nothing but a table of code objects stands there -/
def Nw (H : Hp) (p : Addr) : Prop := ∀ o, H p = some o → ∃ ps, o = .tbl ps
theorem Nw.of {H : Hp} {p : Addr} (h : H p = none) : Nw H p := fun o e => by
  rw [h] at e
  cases e
theorem Nw.ne {H : Hp} {p q : Addr} {o : HO} (f : Nw H p) (h : H q = some o) (hn : ∀ ps, o ≠ .tbl ps) : q ≠ p := fun z => by
  rw [z] at h
  obtain ⟨ps, e⟩ := f o h
  exact hn ps e
theorem Nw.lst {H : Hp} {p q : Addr} {xs : List V} (f : Nw H p) (h : H q = some (.lst xs)) : q ≠ p := f.ne h fun _ z => by cases z
theorem Nw.tup {H : Hp} {p q : Addr} {xs : List V} (f : Nw H p) (h : H q = some (.tup xs)) : q ≠ p := f.ne h fun _ z => by cases z
section
variable {T : List (Addr × Str)} {ms : List Addr} {K : PySem.W.Frag} {H H1 H2 : Hp}
theorem Ext.back {p : Addr} (e : Ext T ms H H1) (hp : p ∉ ms) (f : Nw H1 p) : Nw H p := fun o ho => Classical.byContradiction fun n => n (f o (e.keep p o hp (fun ps z => n ⟨ps, z⟩) ho))
theorem Ext.refl : Ext T ms H H := ⟨fun _ _ _ _ h => h, id⟩
theorem Ext.trans (a : Ext T ms H H1) (b : Ext T ms H1 H2) : Ext T ms H H2 := ⟨fun c o hc hn h => b.keep c o hc hn (a.keep c o hc hn h), fun t => b.tabs (a.tabs t)⟩
theorem Ext.same (s : Same H H1) : Ext T ms H H1 := ⟨fun c o _ _ h => s c o h, fun t => t.ext s⟩
theorem Ext.new {p : Addr} {o : HO} (h : H p = none) : Ext T ms H (upd H p o) := .same fun b x e => by
  rw [upd_ne (ne_of_none e h)]
  exact e
theorem Ext.wide {ms' : List Addr} (a : Ext T ms H H1) (h : ∀ b, b ∈ ms → b ∈ ms') : Ext T ms' H H1 := ⟨fun c o hc hn => a.keep c o (fun z => hc (h c z)) hn, a.tabs⟩
theorem Ext.any (a : Ext T [] H H1) : Ext T ms H H1 := a.wide fun b h => absurd h (by simp)
/-- a list that may change is changed -/
theorem Ext.mut {p : Addr} {xs : List V} {u : HO} (hp : p ∈ ms) (h : H p = some (.lst xs)) : Ext T ms H (upd H p u) := ⟨fun b x hb _ e => by
  rw [upd_ne (fun z => hb (by rw [z]; exact hp))]
  exact e, fun t q hq => by
  obtain ⟨ps, h1, h2, h3⟩ := t q hq
  refine ⟨ps, ?_, h2, fun pos cv hc => ?_⟩
  · rw [upd_ne]
    · exact h1
    · intro z
      rw [z, h] at h1
      cases h1
  · obtain ⟨c, e1, e2⟩ := h3 pos cv hc
    refine ⟨c, e1, ?_⟩
    rw [upd_ne]
    · exact e2
    · intro z
      rw [z, h] at e2
      unfold LamX.CodeO at e2
      cases e2⟩
theorem Ext.lst {p : Addr} {xs : List V} (e : Ext T ms H H1) (hp : p ∉ ms) (h : H p = some (.lst xs)) : H1 p = some (.lst xs) := e.keep p _ hp (fun _ z => by cases z) h
theorem Ext.tup {p : Addr} {xs : List V} (e : Ext T ms H H1) (hp : p ∉ ms) (h : H p = some (.tup xs)) : H1 p = some (.tup xs) := e.keep p _ hp (fun _ z => by cases z) h
theorem Ext.seqL {a : Addr} {xs : List V} (e : Ext T ms H H1) (ha : a ∉ ms) (h : SqL K H a xs) : SqL K H1 a xs := by
  rcases h with (h | ⟨o, h⟩) | h
  · exact .inl (.inl (e.keep a _ ha (fun _ z => by cases z) h))
  · exact .inl (.inr ⟨o, e.keep a _ ha (fun _ z => by cases z) h⟩)
  · exact .inr h
theorem Ext.seqT {a : Addr} {xs : List V} (e : Ext T ms H H1) (ha : a ∉ ms) (h : SqT K H a xs) : SqT K H1 a xs := by
  rcases h with (h | ⟨o, h⟩) | h
  · exact .inl (.inl (e.keep a _ ha (fun _ z => by cases z) h))
  · exact .inl (.inr ⟨o, e.keep a _ ha (fun _ z => by cases z) h⟩)
  · exact .inr h
end
/-! ### the law's tape -/
/-- the tape at t: the script's list at l, its place, what is left of a cell, the running number, the budget -/
def Tape (l : Addr) (H : Hp) (t : Addr) : Prop := ∃ (ns : List Int) (pos : Nat) (rest st bud : Int), H t = some (.lst [.ref l, .int (pos : Int), .int rest, .int st, .int bud]) ∧ H l = some (.lst (ns.map V.int)) ∧ l ≠ t ∧ 0 ≤ rest ∧ 0 ≤ st
theorem Tape.ext {T : List (Addr × Str)} {H H1 : Hp} {l t : Addr} (p : Tape l H t) (e : Ext T [] H H1) : Tape l H1 t := by
  obtain ⟨ns, pos, rest, st, bud, h1, h2, h3⟩ := p
  exact ⟨ns, pos, rest, st, bud, e.lst (by simp) h1, e.lst (by simp) h2, h3⟩
theorem Tape.upd {H : Hp} {l t q : Addr} {o : HO} (p : Tape l H t) (h : H q = none) : Tape l (upd H q o) t := p.ext (T := []) (.new h)
/-- another object is changed -/
theorem Tape.own {H : Hp} {l t q : Addr} {o : HO} (p : Tape l H t) (h1 : q ≠ t) (h2 : q ≠ l) : Tape l (L2.upd H q o) t := by
  obtain ⟨ns, pos, rest, st, bud, a1, a2, h3⟩ := p
  exact ⟨ns, pos, rest, st, bud, by rw [upd_ne h1.symm]; exact a1, by rw [upd_ne h2.symm]; exact a2, h3⟩
theorem Tape.ne {H : Hp} {l t q : Addr} (p : Tape l H t) (h : Nw H q) : q ≠ t ∧ q ≠ l := by
  obtain ⟨ns, pos, rest, st, bud, a1, a2, _⟩ := p
  exact ⟨(h.lst a1).symm, (h.lst a2).symm⟩
def mixI (n : Int) : Int :=
  ((n * 6364136223846793005 + 1442695040888963407) % 18446744073709551616 * ((n * 6364136223846793005 + 1442695040888963407) % 18446744073709551616) / 4294967296 + (n * 6364136223846793005 + 1442695040888963407) % 18446744073709551616 * 69621) % 18446744073709551557
theorem mixI_nn (n : Int) : 0 ≤ mixI n := Int.emod_nonneg _ (by decide)
def spMix : Sp := fun vs H Q _ => ∃ n : Int, vs = [.int n] ∧ Q (.int (mixI n)) H
def spTape (T : List (Addr × Str)) (K : PySem.W.Frag) : Sp := fun vs H Q _ => ∃ (a : Addr) (ns : List Int) (b : Int), vs = [.ref a, .int b] ∧ SqL K H a (ns.map V.int) ∧ ns.length ≤ 63 ∧ ∀ t l H', Nw H t → Ext T [] H H' → Tape l H' t → Q (.ref t) H'
def spTake (T : List (Addr × Str)) : Sp := fun vs H Q _ => ∃ (l t : Addr) (m : Int), vs = [.ref t, .int m] ∧ 0 < m ∧ m < 2 ^ 64 ∧ Tape l H t ∧ ∀ d H', 0 ≤ d → d < m → Ext T [t] H H' → Tape l H' t → Q (.int d) H'

section
variable {T : List (Addr × Str)} {ms : List Addr} {K : PySem.W.Frag} {H H1 H2 : Hp}
/-- an own new list is changed -/
theorem Ext.own {p : Addr} {xs : List V} {u : HO} (e : Ext T ms H H1) (hn : Nw H p) (h : H1 p = some (.lst xs)) : Ext T ms H (upd H1 p u) := ⟨fun b x hb hx q => by
  rw [upd_ne (hn.ne q hx)]
  exact e.keep b x hb hx q, fun t => (Ext.mut (T := T) (ms := [p]) (u := u) (by simp) h).tabs (e.tabs t)⟩
theorem Ext.newR {p : Addr} {o : HO} (e : Ext T ms H H1) (h : H1 p = none) : Ext T ms H (upd H1 p o) := e.trans (.new h)
theorem Ext.mutR {p : Addr} {xs : List V} {u : HO} (e : Ext T ms H H1) (hp : p ∈ ms) (h : H1 p = some (.lst xs)) : Ext T ms H (upd H1 p u) := e.trans (.mut hp h)
theorem wipe1 {σ : L2.St} {k : Nat} {v : Option V} : wipe ((wipe σ [k]).set k v) [k] = wipe σ [k] := by
  show ((σ.set k none).set k v).set k none = σ.set k none
  rw [List.set_set, List.set_set]
/-- a comprehension over one name whose test and element are functions of the item -/
theorem lc_pure {J : It} {n : Nat} {G : Hp → Prop} {Y : Nat → Hp → V → Hp → Prop} {tt : TT} {te : TE} {σ : L2.St} {D : Addr} {Qd : Hp → Prop} {k : Nat} (w : Walk J n G Y) (xs : List V) (hn : n = xs.length) (hY : ∀ i H x H', Y i H x H' → H' = H ∧ xs[i]? = some x) (hD : H1 D = none)
    (hG : ∀ H, Ext T ms H1 H → G H) (p : V → Bool) (f : V → V) (hl : xs.length < sizeLine)
    (step : ∀ x ∈ xs, ∀ H, Ext T ms H1 H → ∀ (R : V → Hp → Prop) (S : Hp → Prop), (p x = true → ∀ H2, Ext T ms H H2 → R (f x) H2) → (p x = false → ∀ H2, Ext T ms H H2 → S H2) →
      tt ((wipe σ [k]).set k (some x)) H fun b H2 => if b = true then te ((wipe σ [k]).set k (some x)) H2 R else S H2)
    (hDm : D ∉ ms) (hd : ∀ H, Ext T ms H1 H → H D = some (.lst ((xs.filter p).map f)) → Qd H) :
    ∃ W : Nat → Nat → Hp → Prop, (∃ z, W 0 z (upd H1 D (.lst []))) ∧ ∀ j z H, W j z H →
      (J.stop j H ∧ Qd H) ∨ (J.go j H ∧ ∃ Nx : Hp → Prop, (∀ H', Nx H' → ∃ y, y < z ∧ W (j + 1) y H') ∧ ∀ x H', J.yld j H x H' → gName k x (wipe σ [k]) H' fun σ2 H2 => wipe σ2 [k] = wipe σ [k] ∧ tt σ2 H2 fun b H3 =>
        if b = true then te σ2 H3 fun y H4 => ∃ acc, H4 D = some (.lst acc) ∧ acc.length < sizeLine ∧ Nx (upd H4 D (.lst (acc ++ [y]))) else Nx H3) := by
  refine lc_it w (fun i H => Ext T ms H1 H ∧ H D = some (.lst (((xs.take i).filter p).map f))) ⟨.new hD, by rw [List.take_zero]; exact upd_same⟩ (fun i H _ h => hG H h.1) (fun i x H H' hi h y => ?_) (fun H h => ?_)
  · obtain ⟨e1, e2⟩ := hY i H x H' y
    subst e1
    obtain ⟨h1, h2⟩ := h
    have hx : x ∈ xs := List.mem_of_getElem? e2
    have et : xs.take (i + 1) = xs.take i ++ [x] := by rw [List.take_add_one, e2]; rfl
    refine ⟨wipe1, step x hx H' h1 _ _ (fun hp H2 e => ⟨_, e.lst hDm h2, ?_, ?_⟩) (fun hp H2 e => ?_)⟩
    · refine Nat.lt_of_le_of_lt ?_ hl
      rw [List.length_map]
      exact Nat.le_trans (List.length_filter_le _ _) (by rw [List.length_take]; exact Nat.min_le_right _ _)
    · refine ⟨(h1.trans e).own (.of hD) (e.lst hDm h2), ?_⟩
      rw [upd_same, et, List.filter_append, List.map_append, List.filter_cons_of_pos hp]
      rfl
    · refine ⟨h1.trans e, ?_⟩
      rw [et, List.filter_append, List.filter_cons_of_neg (by rw [hp]; decide), List.filter_nil, List.append_nil]
      exact e.lst hDm h2
  · obtain ⟨h1, h2⟩ := h
    rw [hn, List.take_length] at h2
    exact hd H h1 h2
end
/-! ### a list or a tuple walked -/
def iSeq (K : PySem.W.Frag) (tl : TE) : TI := fun σ H R => tl σ H fun x H1 => ∃ a, x = .ref a ∧ (((∃ xs, SqL K H1 a xs) ∧ R (Itl K a) H1) ∨ ((∃ xs, SqT K H1 a xs) ∧ R (Itt K a) H1))
theorem pi_seq {X : Cx} (K : PySem.W.Frag) (hK : X.K = K) {tg l : Expr} {tl : TE} (hl : PE X l tl) : PI X tg l (iSeq K tl) := by
  subst hK
  refine ⟨fun pins s σ H R I h => ?_⟩
  refine thn (hl.run pins s σ H _ I h) fun v s1 ⟨x, H1, I1, r1, a, e, q⟩ => ?_
  subst e
  cases r1
  have fr : ∀ b, b ∈ [s1.heap.objs.size] → ∀ {o : Obj}, FpOk X pins H1 b := fun b hb _ => by
    have e : b = s1.heap.objs.size := by simpa using hb
    rw [e]
    exact I1.fpOk (Nat.le_refl _) (I1.hok.fresh (Nat.le_refl _))
  rcases q with ⟨⟨xs, hq⟩, q⟩ | ⟨⟨xs, hq⟩, q⟩
  · obtain ⟨us, ru, pl, _⟩ := I1.list hq
    refine wpAny_pyIter_list pl.isList ?_
    exact ⟨s1.heap.objs.size, [s1.heap.objs.size], _, _, H1, rfl, I1.kept (t' := s1.toks) fun b o e => Heap.get?_push_of_some _ e, turn_list a _, ⟨_, Heap.get?_push_size _ rfl, rfl, rfl⟩, fun b hb => fr b hb (o := default), q⟩
  · obtain ⟨us, ru, pl, _⟩ := I1.tuple hq
    refine wpAny_pyIter_tuple (show s1.heap.IsTuple a us.toArray from pl) ?_
    exact ⟨s1.heap.objs.size, [s1.heap.objs.size], _, _, H1, rfl, I1.kept (t' := s1.toks) fun b o e => Heap.get?_push_of_some _ e, turn_tuple a _, ⟨_, Heap.get?_push_size _ rfl, rfl, rfl⟩, fun b hb => fr b hb (o := default), q⟩
/-! ### texts as lists of signs -/
abbrev sg (z : Str) : List Nat := z.cps.toList
theorem sg_len (z : Str) : (sg z).length = z.length := Array.length_toList
theorem sg_inj {a b : Str} (h : sg a = sg b) : a = b := TL.ext_tl h
theorem sg_app (a b : Str) : sg (a ++ b) = sg a ++ sg b := TL.tl_append a b
theorem endswith_iff (x y : Str) : Txt.endswith x y = true ↔ sg y <:+ sg x := by
  unfold Txt.endswith
  rw [StrLaws.subAt_eq, Bool.and_eq_true, decide_eq_true_eq, beq_iff_eq]
  rw [List.suffix_iff_eq_drop, ← sg_len, ← sg_len]
  have hx : x.cps.toList.length = (sg x).length := rfl
  constructor
  · rintro ⟨h1, h2⟩
    rw [List.take_of_length_le (by rw [List.length_drop]; omega)] at h2
    exact h2.symm
  · intro h
    have hl := congrArg List.length h
    rw [List.length_drop] at hl
    refine ⟨by omega, ?_⟩
    rw [List.take_of_length_le (by rw [List.length_drop]; omega)]
    exact h.symm

/-! ### comprehensions, read -/
def LcG (J : It) (g : TG) (tt : TT) (te : TE) (vs : List Nat) (σ : L2.St) (H1 : Hp) (Q : VK) : Prop := ∀ D, H1 D = none → ∃ W : Nat → Nat → Hp → Prop, (∃ z, W 0 z (upd H1 D (.lst []))) ∧ ∀ j z H, W j z H →
  (J.stop j H ∧ Q (.ref D) H) ∨ (J.go j H ∧ ∃ Nx : Hp → Prop, (∀ H', Nx H' → ∃ y, y < z ∧ W (j + 1) y H') ∧ ∀ x H', J.yld j H x H' → g x (wipe σ vs) H' fun σ2 H2 => wipe σ2 vs = wipe σ vs ∧ tt σ2 H2 fun b H3 =>
    if b = true then te σ2 H3 fun y H4 => ∃ acc, H4 D = some (.lst acc) ∧ acc.length < sizeLine ∧ Nx (upd H4 D (.lst (acc ++ [y]))) else Nx H3)
section
variable {K : PySem.W.Frag} {σ : L2.St} {H H1 : Hp} {Q : VK} {wi : TI} {g : TG} {tt : TT} {te : TE} {vs : List Nat} {R : It → Hp → Prop}
theorem rd_lc (q : wi σ H fun J H1 => LcG J g tt te vs σ H1 Q) : tLc wi g tt te vs σ H Q := q
theorem rd_iStr (q : te σ H fun v H1 => ∃ x, v = .str x ∧ R (Its x) H1) : iStr te σ H R := q
theorem rd_exStr {z : Str} {P : Str → Prop} (q : P z) : ∃ x, V.str z = .str x ∧ P x := ⟨z, rfl, q⟩
theorem rd_exRef {a : Addr} {P : Addr → Prop} (q : P a) : ∃ x, V.ref a = .ref x ∧ P x := ⟨a, rfl, q⟩
theorem rd_exInt {a : Int} {P : Int → Prop} (q : P a) : ∃ x, V.int a = .int x ∧ P x := ⟨a, rfl, q⟩
theorem rd_exInts {a : Int} {P : Int → Prop} (q : P a) : ∃ x, [V.int a] = [.int x] ∧ P x := ⟨a, rfl, q⟩
theorem rd_seqL {a : Addr} {xs : List V} {B C : Prop} (h : SqL K H1 a xs) (q : B) : ((∃ xs, SqL K H1 a xs) ∧ B) ∨ C := .inl ⟨⟨xs, h⟩, q⟩
theorem rd_seqT {a : Addr} {xs : List V} {B C : Prop} (h : SqT K H1 a xs) (q : B) : C ∨ ((∃ xs, SqT K H1 a xs) ∧ B) := .inr ⟨⟨xs, h⟩, q⟩
theorem rd_iSeq (q : te σ H fun x H1 => ∃ a, x = .ref a ∧ (((∃ xs, SqL K H1 a xs) ∧ R (Itl K a) H1) ∨ ((∃ xs, SqT K H1 a xs) ∧ R (Itt K a) H1))) : iSeq K te σ H R := q
theorem rd_rng {ta : TA} (q : ta σ H fun vs H1 => ∃ j : Int, vs = [.int j] ∧ -(2 ^ 62) ≤ j ∧ j < 2 ^ 62 ∧ R (Itr 0 j.toNat) H1) : iRng1 ta σ H R := q
/-- the signs of a text, each a text -/
def chrs (z : Str) : List V := (sg z).map fun c => .str ⟨#[c]⟩
variable (T : List (Addr × Str)) (ms : List Addr)
theorem lcg_str {z : Str} {k : Nat} (p : V → Bool) (f : V → V) (hz : z.length < sizeLine) (hm : ∀ D, H D = none → D ∉ ms)
    (step : ∀ x ∈ chrs z, ∀ H', Ext T ms H H' → ∀ (R : V → Hp → Prop) (S : Hp → Prop), (p x = true → ∀ H2, Ext T ms H' H2 → R (f x) H2) → (p x = false → ∀ H2, Ext T ms H' H2 → S H2) →
      tt ((wipe σ [k]).set k (some x)) H' fun b H2 => if b = true then te ((wipe σ [k]).set k (some x)) H2 R else S H2)
    (q : ∀ D H2, Nw H D → Ext T ms H H2 → H2 D = some (.lst (((chrs z).filter p).map f)) → Q (.ref D) H2) : LcG (Its z) (gName k) tt te [k] σ H Q := fun D hD =>
  lc_pure walk_str (chrs z) (by rw [chrs, List.length_map, sg_len]; rfl) (fun i H x H' y => by
    obtain ⟨e, c, h1, h2⟩ := y
    refine ⟨e, ?_⟩
    rw [chrs, List.getElem?_map, h2, show (sg z)[i]? = some c by rw [← h1]; exact Array.getElem?_toList]
    rfl) hD (fun _ _ => True.intro) p f (by rw [chrs, List.length_map, sg_len]; exact hz) step (hm D hD) fun H2 e h => q D H2 (.of hD) e h
theorem lcg_list {a : Addr} {xs : List V} {k : Nat} (h : SqL K H a xs) (p : V → Bool) (f : V → V) (hz : xs.length < sizeLine) (ha : a ∉ ms) (hm : ∀ D, H D = none → D ∉ ms)
    (step : ∀ x ∈ xs, ∀ H', Ext T ms H H' → ∀ (R : V → Hp → Prop) (S : Hp → Prop), (p x = true → ∀ H2, Ext T ms H' H2 → R (f x) H2) → (p x = false → ∀ H2, Ext T ms H' H2 → S H2) →
      tt ((wipe σ [k]).set k (some x)) H' fun b H2 => if b = true then te ((wipe σ [k]).set k (some x)) H2 R else S H2)
    (q : ∀ D H2, Nw H D → Ext T ms H H2 → H2 D = some (.lst ((xs.filter p).map f)) → Q (.ref D) H2) : LcG (Itl K a) (gName k) tt te [k] σ H Q := fun D hD =>
  lc_pure walk_list xs rfl (fun i H x H' y => y) hD (fun H' e => e.seqL ha h) p f hz step (hm D hD) fun H2 e h => q D H2 (.of hD) e h
theorem lcg_tup {a : Addr} {xs : List V} {k : Nat} (h : SqT K H a xs) (p : V → Bool) (f : V → V) (hz : xs.length < sizeLine) (ha : a ∉ ms) (hm : ∀ D, H D = none → D ∉ ms)
    (step : ∀ x ∈ xs, ∀ H', Ext T ms H H' → ∀ (R : V → Hp → Prop) (S : Hp → Prop), (p x = true → ∀ H2, Ext T ms H' H2 → R (f x) H2) → (p x = false → ∀ H2, Ext T ms H' H2 → S H2) →
      tt ((wipe σ [k]).set k (some x)) H' fun b H2 => if b = true then te ((wipe σ [k]).set k (some x)) H2 R else S H2)
    (q : ∀ D H2, Nw H D → Ext T ms H H2 → H2 D = some (.lst ((xs.filter p).map f)) → Q (.ref D) H2) : LcG (Itt K a) (gName k) tt te [k] σ H Q := fun D hD =>
  lc_pure walk_tup xs rfl (fun i H x H' y => y) hD (fun H' e => e.seqT ha h) p f hz step (hm D hD) fun H2 e h => q D H2 (.of hD) e h
end
/-- over a range, the elements drawn from the tape -/
theorem lcg_range_tape (T : List (Addr × Str)) {σ : L2.St} {H : Hp} {Q : VK} {te : TE} {n k : Nat} {l t : Addr} (hT : Tape l H t) (Pr : V → Prop) (hn : n < sizeLine)
    (step : ∀ (i : Nat) H', i < n → Ext T [t] H H' → Tape l H' t → ∀ R : VK, (∀ v H2, Pr v → Ext T [t] H' H2 → Tape l H2 t → R v H2) → te ((wipe σ [k]).set k (some (.int (0 + (i : Int))))) H' R)
    (q : ∀ D H2 vs, Nw H D → Ext T [t] H H2 → Tape l H2 t → H2 D = some (.lst vs) → vs.length = n → (∀ v ∈ vs, Pr v) → Q (.ref D) H2) : LcG (Itr 0 n) (gName k) tYes te [k] σ H Q := fun D hD => by
  obtain ⟨nt, nl⟩ := hT.ne (.of hD)
  refine lc_it walk_range (fun i H2 => Ext T [t] H H2 ∧ Tape l H2 t ∧ ∃ vs, H2 D = some (.lst vs) ∧ vs.length = i ∧ ∀ v ∈ vs, Pr v) ⟨.new hD, hT.upd hD, [], upd_same, rfl, by simp⟩ (fun _ _ _ _ => True.intro) (fun i x H1 H' hi h y => ?_) (fun H1 h => ?_)
  · obtain ⟨e1, e2⟩ := y
    subst e1
    subst e2
    obtain ⟨h1, h2, vs, h3, h4, h5⟩ := h
    refine ⟨wipe1, step i H' hi h1 h2 _ fun v H2 hp e t2 => ?_⟩
    have h3' := e.lst (show D ∉ [t] by simpa using nt) h3
    refine ⟨vs, h3', by omega, (h1.trans e).own (.of hD) h3', t2.own nt nl, vs ++ [v], upd_same, by rw [List.length_append, h4]; rfl, fun u hu => ?_⟩
    rcases List.mem_append.mp hu with hu | hu
    · exact h5 u hu
    · rw [List.mem_singleton.mp hu]
      exact hp
  · obtain ⟨h1, h2, vs, h3, h4, h5⟩ := h
    exact q D H1 vs (.of hD) h1 h2 h3 h4 h5
/-! ### loops, read -/
def ForG (J : It) (g : TG) (tb : TS) (D : Ends) (σ : L2.St) (H1 : Hp) : Prop := ∃ W : Nat → Nat → L2.St → Hp → Prop, (∃ z, W 0 z σ H1) ∧ ∀ j z σ H, W j z σ H →
  (J.stop j H ∧ D.nx σ H) ∨ (J.go j H ∧ ∃ N : L2.St → Hp → Prop, (∀ σ' H', N σ' H' → ∃ y, y < z ∧ W (j + 1) y σ' H') ∧ ∀ x H', J.yld j H x H' → g x σ H' fun σ2 H2 => tb { D with nx := N, ct := N, bk := D.nx } σ2 H2)
section
variable {K : PySem.W.Frag} {σ : L2.St} {H H1 : Hp} {wi : TI} {g : TG} {tb : TS} {nx bk ct : L2.St → Hp → Prop} {rt : VK}
theorem rd_for {D : Ends} (q : wi σ H fun J H1 => ForG J g tb D σ H1) : tFor wi g tb D σ H := q
theorem forg_it {J : It} {n : Nat} {G : Hp → Prop} {Y : Nat → Hp → V → Hp → Prop} (w : Walk J n G Y) (Pv : Nat → L2.St → Hp → Prop) (h0 : Pv 0 σ H) (hG : ∀ i σ H, i ≤ n → Pv i σ H → G H)
    (hs : ∀ i x σ H H', i < n → Pv i σ H → Y i H x H' → g x σ H' fun σ2 H2 => tb ⟨Pv (i + 1), rt, nx, Pv (i + 1)⟩ σ2 H2) (hd : ∀ σ H, Pv n σ H → nx σ H) : ForG J g tb ⟨nx, rt, bk, ct⟩ σ H := for_it w Pv h0 hG hs hd
theorem forg_str {z : Str} (Pv : Nat → L2.St → Hp → Prop) (h0 : Pv 0 σ H) (hs : ∀ i c σ H, (sg z)[i]? = some c → Pv i σ H → g (.str ⟨#[c]⟩) σ H fun σ2 H2 => tb ⟨Pv (i + 1), rt, nx, Pv (i + 1)⟩ σ2 H2) (hd : ∀ σ H, Pv (sg z).length σ H → nx σ H) :
    ForG (Its z) g tb ⟨nx, rt, bk, ct⟩ σ H := forg_it walk_str Pv h0 (fun _ _ _ _ _ => True.intro) (fun i x σ H H' hi p y => by
  obtain ⟨e, c, h1, h2⟩ := y
  rw [e, h2]
  exact hs i c σ H (by rw [← h1]; exact Array.getElem?_toList) p) fun σ H h => hd σ H (by rw [sg_len]; exact h)
theorem forg_list {a : Addr} {xs : List V} (Pv : Nat → L2.St → Hp → Prop) (h0 : Pv 0 σ H) (hl : ∀ i σ H, i ≤ xs.length → Pv i σ H → SqL K H a xs)
    (hs : ∀ i x σ H, xs[i]? = some x → Pv i σ H → g x σ H fun σ2 H2 => tb ⟨Pv (i + 1), rt, nx, Pv (i + 1)⟩ σ2 H2) (hd : ∀ σ H, Pv xs.length σ H → nx σ H) : ForG (Itl K a) g tb ⟨nx, rt, bk, ct⟩ σ H :=
  forg_it walk_list Pv h0 hl (fun i x σ H H' hi p y => by
    rw [y.1]
    exact hs i x σ H y.2 p) hd
theorem forg_tup {a : Addr} {xs : List V} (Pv : Nat → L2.St → Hp → Prop) (h0 : Pv 0 σ H) (hl : ∀ i σ H, i ≤ xs.length → Pv i σ H → SqT K H a xs)
    (hs : ∀ i x σ H, xs[i]? = some x → Pv i σ H → g x σ H fun σ2 H2 => tb ⟨Pv (i + 1), rt, nx, Pv (i + 1)⟩ σ2 H2) (hd : ∀ σ H, Pv xs.length σ H → nx σ H) : ForG (Itt K a) g tb ⟨nx, rt, bk, ct⟩ σ H :=
  forg_it walk_tup Pv h0 hl (fun i x σ H H' hi p y => by
    rw [y.1]
    exact hs i x σ H y.2 p) hd
theorem forg_range {lo : Int} {n : Nat} (Pv : Nat → L2.St → Hp → Prop) (h0 : Pv 0 σ H)
    (hs : ∀ (i : Nat) σ H, i < n → Pv i σ H → g (.int (lo + i)) σ H fun σ2 H2 => tb ⟨Pv (i + 1), rt, nx, Pv (i + 1)⟩ σ2 H2) (hd : ∀ σ H, Pv n σ H → nx σ H) : ForG (Itr lo n) g tb ⟨nx, rt, bk, ct⟩ σ H :=
  forg_it walk_range Pv h0 (fun _ _ _ _ _ => True.intro) (fun i x σ H H' hi p y => by
    obtain ⟨e1, e2⟩ := y
    rw [e1, e2]
    exact hs i σ H hi p) hd
end
theorem rd_ntt {A B : Prop} (h : B) : if (!true) = true then A else B := h
theorem rd_nff {A B : Prop} (h : A) : if (!false) = true then A else B := h
theorem rd_cut {σ : L2.St} {H : Hp} {nx bk ct : L2.St → Hp → Prop} {rt : VK} {t u : TS} (Mid : L2.St → Hp → Prop) (h1 : ∀ nx' : L2.St → Hp → Prop, (∀ σ' H', Mid σ' H' → nx' σ' H') → t ⟨nx', rt, bk, ct⟩ σ H) (h2 : ∀ σ' H', Mid σ' H' → u ⟨nx, rt, bk, ct⟩ σ' H') : tSeq t u ⟨nx, rt, bk, ct⟩ σ H := h1 _ h2
theorem rd_cutE {te : TE} {σ : L2.St} {H : Hp} {Q : VK} (Mid : V → Hp → Prop) (h1 : ∀ Q' : VK, (∀ v H', Mid v H' → Q' v H') → te σ H Q') (h2 : ∀ v H', Mid v H' → Q v H') : te σ H Q := h1 Q h2
theorem filtT {α : Type} (l : List α) : l.filter (fun _ => true) = l := List.filter_eq_self.mpr fun _ _ => rfl
/-! ### further steps -/
section
variable {K : PySem.W.Frag} {σ : L2.St} {H : Hp} {Q : VK} {te : TE}
theorem rd_tyes {Q : Bool → Hp → Prop} (q : Q true H) : tYes σ H Q := q
theorem dec_str (a b : Str) : decide (V.str a = V.str b) = decide (a = b) := by
  by_cases h : a = b
  · rw [h]
    simp
  · rw [decide_eq_false h]
    exact decide_eq_false fun z => h (V.str.inj z)
theorem dec_intV (a b : Int) : decide (V.int a = V.int b) = decide (a = b) := by
  by_cases h : a = b
  · rw [h]
    simp
  · rw [decide_eq_false h]
    exact decide_eq_false fun z => h (V.int.inj z)
theorem dec_bl (a b : Bool) : decide (V.bl a = V.bl b) = decide (a = b) := by
  by_cases h : a = b
  · rw [h]
    simp
  · rw [decide_eq_false h]
    exact decide_eq_false fun z => h (V.bl.inj z)
theorem rd_isBool {z : Bool} (q : Q (.bl true) H) : rIsi K [.bl z, .ty "bool"] H Q := ⟨_, _, _, _, true, rfl, .ty _, .base (.bl _), rfl, q⟩
theorem rd_ixS {z : Str} {i : Int} {c : Nat} (hz : z.length ≤ sizeLine) (h : atI z.cps.toList i = some c) (q : Q (.str ⟨#[c]⟩) H) : rIx K (.str z) (.int i) H Q := .inr (.inr ⟨z, i, c, rfl, rfl, hz, h, q⟩)
theorem rd_cat {a b : Addr} {xs ys : List V} (h1 : H a = some (.lst xs)) (h2 : H b = some (.lst ys)) (c : xs.length + ys.length ≤ sizeLine) (q : ∀ p, H p = none → Q (.ref p) (upd H p (.lst (xs ++ ys)))) : rPlus K (.ref a) (.ref b) H Q := .inr (.inr (.inl ⟨a, b, xs, ys, rfl, rfl, h1, h2, c, q⟩))
theorem rd_slS {z : Str} {lo hi : Option Int} (hz : z.length ≤ sizeLine) (q : Q (.str (cutS z lo hi)) H) : rSlU K (.str z) lo hi H Q := .inr (.inl ⟨z, rfl, hz, q⟩)
theorem rd_slL {a : Addr} {xs : List V} {lo hi : Option Int} (h : SqL K H a xs) (q : ∀ p, H p = none → Q (.ref p) (upd H p (.lst (cutV xs lo hi)))) : rSlU K (.ref a) lo hi H Q := .inl ⟨a, xs, rfl, h, q⟩
theorem rd_sl {r : V → Option Int → Option Int → Hp → VK → Prop} {tl th : TO} (q : te σ H fun x H1 => tl σ H1 fun lo H2 => th σ H2 fun hi H3 => r x lo hi H3 Q) : tSl r te tl th σ H Q := q
theorem rd_noP {Q : Option Int → Hp → Prop} (q : Q none H) : tNoPart σ H Q := q
theorem rd_part {Q : Option Int → Hp → Prop} (q : te σ H fun v H1 => ∃ i, v = .int i ∧ Q (some i) H1) : tPart te σ H Q := q
theorem rd_eqStr {a b : Str} (q : Q (.bl (decide (a = b))) H) : rEqU K (.str a) (.str b) H Q := .inl ⟨rfl, by rw [dec_str]; exact q⟩
theorem rd_neStr {a b : Str} (q : Q (.bl (!decide (a = b))) H) : rNeU K (.str a) (.str b) H Q := .inl ⟨rfl, by rw [dec_str]; exact q⟩
theorem rd_eqInt {a b : Int} (q : Q (.bl (decide (a = b))) H) : rEqU K (.int a) (.int b) H Q := .inl ⟨rfl, by rw [dec_intV]; exact q⟩
theorem rd_neInt {a b : Int} (q : Q (.bl (!decide (a = b))) H) : rNeU K (.int a) (.int b) H Q := .inl ⟨rfl, by rw [dec_intV]; exact q⟩
theorem rd_eqBl {a b : Bool} (q : Q (.bl (decide (a = b))) H) : rEqU K (.bl a) (.bl b) H Q := .inl ⟨rfl, by rw [dec_bl]; exact q⟩
theorem rd_rev (q : te σ H fun x H1 => ∃ a xs, x = .ref a ∧ SqL K H1 a xs ∧ ∀ p, H1 p = none → Q (.ref p) (upd H1 p (.lst xs.reverse))) : tRevL K te σ H Q := q
theorem rd_revL {a : Addr} {xs : List V} (h : SqL K H a xs) (q : ∀ p, H p = none → Q (.ref p) (upd H p (.lst xs.reverse))) : ∃ b ys, V.ref a = .ref b ∧ SqL K H b ys ∧ ∀ p, H p = none → Q (.ref p) (upd H p (.lst ys.reverse)) := ⟨a, xs, rfl, h, q⟩
theorem rd_exA {a : Str} {P : Prop} (q : P) : (∃ b, V.str a = .str b) ∧ P := ⟨⟨a, rfl⟩, q⟩
def tFs (ts : List TE) : TE := fun σ H Q => tJs ts Str.empty σ H fun out H1 => Q (.str out) H1
theorem pe_fstr {X : Cx} {v1 v2 : Expr} {rest : List Expr} {ts : List TE} {pos : Pos} (h : PJ X (v1 :: v2 :: rest) ts) : PE X (.JoinedStr (v1 :: v2 :: rest) pos) (tFs ts) := pe_joined h
theorem rd_fs {ts : List TE} (q : tJs ts Str.empty σ H fun out H1 => Q (.str out) H1) : tFs ts σ H Q := q
theorem rd_jc {t : TE} {ts : List TE} {acc : Str} {Q : Str → Hp → Prop} (q : t σ H fun x H1 => ∃ y : Str, x = .str y ∧ (acc ++ y).length ≤ sizeLine ∧ tJs ts (acc ++ y) σ H1 Q) : tJs (t :: ts) acc σ H Q := q
theorem rd_jn {acc : Str} {Q : Str → Hp → Prop} (q : Q acc H) : tJs [] acc σ H Q := q
theorem rd_fmt {t : TE} (q : t σ H fun x H1 => (∃ y : Str, x = .str y ∧ y.length ≤ sizeLine ∧ Q (.str y) H1) ∨ ∃ i : Int, x = .int i ∧ i.natAbs.log2 < 1920 ∧ Q (.str (toString i)) H1) : tFmt t σ H Q := q
theorem rd_fmtS {y : Str} {C : Prop} (h : y.length ≤ sizeLine) (q : Q (.str y) H) : (∃ z : Str, V.str y = .str z ∧ z.length ≤ sizeLine ∧ Q (.str z) H) ∨ C := .inl ⟨y, rfl, h, q⟩
theorem rd_exStrs {y : Str} {P : Str → Prop} (q : P y) : ∃ z : Str, V.str y = .str z ∧ P z := ⟨y, rfl, q⟩
theorem rd_bm {T : String} {r : V → List V → Hp → VK → Prop} {t : TA} (q : te σ H fun x H1 => tyV K T x H1 ∧ t σ H1 fun xs H2 => r x xs H2 Q) : tBM K T r te t σ H Q := q
theorem rd_tyL {p : Addr} {xs : List V} {P : Prop} (h : H p = some (.lst xs)) (q : P) : tyV K "list" (.ref p) H ∧ P := ⟨.inl ⟨rfl, xs, .inl (.inl h)⟩, q⟩
theorem rd_app {p : Addr} {xs : List V} {y : V} (h : H p = some (.lst xs)) (c : xs.length < sizeLine) (q : Q .non (upd H p (.lst (xs ++ [y])))) : rAppend (.ref p) [y] H Q := ⟨p, xs, y, rfl, rfl, h, c, q⟩
end
/-! ### a list of data, sorted -/
section
open PySem.W
def Srt (xs : List V) (ds : List PyData) (ys : List V) : Prop := EachIs (fun y d => (y, d) ∈ xs.zip ds) ys (ds.mergeSort (dataLe false id))
def rSortD (K : PySem.W.Frag) : List V → Hp → VK → Prop := fun vs H Q => ∃ (a : Addr) (xs : List V) (ds : List PyData), vs = [.ref a] ∧ SqL K H a xs ∧ DpAll K H xs ds ∧ AllAlike ds ∧ Sortable ds ∧ (∀ d ∈ ds, d.depth ≤ 60) ∧
  ∀ (ys : List V) (p : Addr), Srt xs ds ys → H p = none → Q (.ref p) (upd H p (.lst ys))
end
def dotS : Str := "."
theorem sg_dot : sg dotS = [46] := by decide +kernel
def lettersS : Str := "abcdefghijklmnopqrstuvwxyz0123456789"
def wordB (z ls : Str) (m : Int) : Bool := decide ((1 : Int) ≤ (z.length : Int)) && (decide ((z.length : Int) ≤ m) && (sg z).all fun c => decide (c ∈ sg ls))
def idB (z : Str) : Bool := wordB z lettersS 4
def labelB (z : Str) : Bool := wordB z lettersS 8
def partsL (z : Str) : List Str := Txt.split z dotS
def nameB (z : Str) : Bool := decide (z = dotS) || (decide (((partsL z).length : Int) ≤ 4) && (partsL z).all labelB)
def labelsL (z : Str) : List Str := if z = dotS then [] else (partsL z).reverse
def endsB (n o : Str) : Bool := decide (o = dotS) || (decide (n = o) || Txt.endswith n (dotS ++ o))
theorem parts_sg (z : Str) : (partsL z).map sg = TL.spl [46] 0 [] (sg z) := by
  have h := TL.split_spl z dotS (by rw [show TL.tl dotS = [46] from sg_dot]; simp) (TL.kind_ok (by decide +kernel))
  rw [show TL.tl dotS = [46] from sg_dot] at h
  exact h
/-- a text is none of its parts longer than itself -/
theorem spl_len : ∀ (l acc : List Nat), (TL.spl [46] 0 acc l).length = l.count 46 + 1
  | [], acc => rfl
  | c :: r, acc => by
    by_cases h : c = 46
    · subst h
      have e : TL.spl [46] 0 acc (46 :: r) = acc :: TL.spl [46] 0 [] r := by
        rw [TL.spl, if_pos (by rfl)]
        rfl
      rw [e, List.length_cons, spl_len r []]
      simp
    · have e : TL.spl [46] 0 acc (c :: r) = TL.spl [46] 0 (acc ++ [c]) r := by
        rw [TL.spl, if_neg]
        show ¬ (TL.pre [46] (c :: r) = true)
        unfold TL.pre
        simpa using h
      rw [e, spl_len r]
      rw [List.count_cons_of_ne h]
theorem parts_len (z : Str) : (partsL z).length = (sg z).count 46 + 1 := by
  rw [← spl_len (sg z) [], ← parts_sg, List.length_map]
theorem parts_le (z : Str) : (partsL z).length ≤ z.length + 1 := by
  have h := List.count_le_length (a := 46) (l := sg z)
  rw [sg_len] at h
  rw [parts_len]
  omega
theorem spl_mem : ∀ (l acc : List Nat) (x : List Nat), x ∈ TL.spl [46] 0 acc l → x.length ≤ acc.length + l.length
  | [], acc, x, h => by
    have h : x ∈ [acc] := h
    rw [List.mem_singleton.mp h]
    omega
  | c :: r, acc, x, h => by
    by_cases hc : c = 46
    · subst hc
      have e : TL.spl [46] 0 acc (46 :: r) = acc :: TL.spl [46] 0 [] r := by
        rw [TL.spl, if_pos (by rfl)]
        rfl
      rw [e] at h
      rcases List.mem_cons.mp h with h | h
      · rw [h]
        omega
      · have := spl_mem r [] x h
        simp only [List.length_cons, List.length_nil] at this ⊢
        omega
    · have e : TL.spl [46] 0 acc (c :: r) = TL.spl [46] 0 (acc ++ [c]) r := by
        rw [TL.spl, if_neg]
        show ¬ (TL.pre [46] (c :: r) = true)
        unfold TL.pre
        simpa using hc
      rw [e] at h
      have := spl_mem r _ x h
      simp only [List.length_cons, List.length_append, List.length_nil] at this ⊢
      omega
theorem parts_mem {z x : Str} (h : x ∈ partsL z) : x.length ≤ z.length := by
  have h1 : sg x ∈ TL.spl [46] 0 [] (sg z) := by
    rw [← parts_sg]
    exact List.mem_map_of_mem h
  have h2 := spl_mem _ _ _ h1
  rw [sg_len, sg_len] at h2
  simpa using h2
theorem fs_dot (u : Str) : (Str.empty ++ Str.ofString ".") ++ u = dotS ++ u := sg_inj (by rw [sg_app, sg_app, sg_app]; rfl)
theorem fs_len (u : Str) (h : u.length ≤ 1000) : (Str.empty ++ Str.ofString "." ++ u).length ≤ sizeLine := by
  have e : (dotS ++ u).length = 1 + u.length := by
    rw [← sg_len, sg_app, List.length_append, sg_dot, sg_len]
    rfl
  rw [fs_dot, e]
  exact Nat.le_trans (show _ ≤ 1001 by omega) (by decide)
theorem dot_len : (Str.ofString ".").length = 1 := by decide +kernel
theorem dot_app (u : Str) (h : u.length ≤ 1000) : (Str.ofString ".").length + u.length ≤ sizeLine := by
  rw [dot_len]
  exact Nat.le_trans (show _ ≤ 1001 by omega) (by decide)
/-- the law's own ends -/
def lawEndsB (n o : Str) : Bool := decide (o = dotS) || (decide (n = o) || decide (cutS n (some (-(o.length : Int) - 1)) none = dotS ++ o))
theorem sIx_tail (n k : Nat) : HT.sIx n 0 (some (-(k : Int) - 1)) = n - (k + 1) := by
  unfold HT.sIx
  simp only []
  split <;> omega
theorem cut_tail (n o : Str) : sg (cutS n (some (-(o.length : Int) - 1)) none) = (sg n).drop (n.length - (o.length + 1)) := by
  unfold cutS
  rw [sIx_tail, HT.sIx_none]
  show (List.toArray _).toList = _
  rw [List.take_of_length_le]
  rw [List.length_drop, show n.cps.toList.length = n.length from sg_len n]
  omega
theorem lawEnds_eq (n o : Str) : lawEndsB n o = endsB n o := by
  unfold lawEndsB endsB
  congr 2
  rw [Bool.eq_iff_iff, decide_eq_true_eq, endswith_iff]
  have hl : (sg (dotS ++ o)).length = o.length + 1 := by
    rw [sg_app, List.length_append, sg_dot, sg_len]
    simp
    omega
  constructor
  · intro h
    have h2 := cut_tail n o
    rw [h] at h2
    rw [h2]
    exact List.drop_suffix _ _
  · intro h
    refine sg_inj ?_
    rw [cut_tail]
    have h2 := List.suffix_iff_eq_drop.mp h
    rw [hl, sg_len] at h2
    exact h2.symm
section
variable (T : List (Addr × Str))
def spWord : Sp := fun vs H Q _ => ∃ (z ls : Str) (m : Int), vs = [.str z, .str ls, .int m] ∧ z.length ≤ 1000 ∧ ∀ H', Ext T [] H H' → Q (.bl (wordB z ls m)) H'
/-- a text in, a truth value out -/
def spTB (f : Str → Bool) : Sp := fun vs H Q _ => ∃ z : Str, vs = [.str z] ∧ z.length ≤ 1000 ∧ ∀ H', Ext T [] H H' → Q (.bl (f z)) H'
def spTTB (f : Str → Str → Bool) : Sp := fun vs H Q _ => ∃ z u : Str, vs = [.str z, .str u] ∧ z.length ≤ 1000 ∧ u.length ≤ 1000 ∧ ∀ H', Ext T [] H H' → Q (.bl (f z u)) H'
/-- a text in, a new list of texts out -/
def spTL (f : Str → List Str) : Sp := fun vs H Q _ => ∃ z : Str, vs = [.str z] ∧ z.length ≤ 1000 ∧ ∀ p H', Nw H p → Ext T [] H H' → H' p = some (.lst ((f z).map V.str)) → Q (.ref p) H'
end

/-! ### an index that lies in it -/
theorem at_in {α : Type} {l : List α} {i : Int} (h0 : 0 ≤ i) (h : i < l.length) : ∃ c, atI l i = some c ∧ l[i.toNat]? = some c ∧ c ∈ l := by
  have hi : i.toNat < l.length := by omega
  have e : i = ((i.toNat : Nat) : Int) := by omega
  obtain ⟨c, hc⟩ : ∃ c, l[i.toNat]? = some c := ⟨_, List.getElem?_eq_getElem hi⟩
  have h2 := atI_nat hc
  rw [← e] at h2
  exact ⟨c, h2, hc, List.mem_of_getElem? hc⟩
def spText (T : List (Addr × Str)) : Sp := fun vs H Q _ => ∃ (l t : Addr) (m : Int), vs = [.ref t, .int m] ∧ 0 < m ∧ m < 100 ∧ Tape l H t ∧ ∀ z H', (z.length : Int) < m → Ext T [t] H H' → Tape l H' t → Q (.str z) H'
def spName (T : List (Addr × Str)) : Sp := fun vs H Q _ => ∃ (l t : Addr) (m : Int), vs = [.ref t, .int m] ∧ 0 < m ∧ m ≤ 4 ∧ Tape l H t ∧ ∀ z H', nameB z = true → z.length ≤ 100 → Ext T [t] H H' → Tape l H' t → Q (.str z) H'

theorem strs_of {S : List Str} : ∀ {vs : List V}, (∀ v ∈ vs, ∃ x ∈ S, v = V.str x) → ∃ ys : List Str, vs = ys.map V.str ∧ ∀ y ∈ ys, y ∈ S
  | [], _ => ⟨[], rfl, by simp⟩
  | v :: r, h => by
    obtain ⟨ys, e, h2⟩ := strs_of (vs := r) fun u hu => h u (List.mem_cons_of_mem _ hu)
    obtain ⟨x, hx, rfl⟩ := h v List.mem_cons_self
    refine ⟨x :: ys, by rw [e]; rfl, fun y hy => ?_⟩
    rcases List.mem_cons.mp hy with hy | hy
    · rw [hy]
      exact hx
    · exact h2 y hy
theorem sum_le {B : Nat} : ∀ {l : List Nat}, (∀ x ∈ l, x ≤ B) → l.sum ≤ l.length * B
  | [], _ => by simp
  | x :: r, h => by
    have h1 := h x List.mem_cons_self
    have h2 := sum_le (l := r) fun y hy => h y (List.mem_cons_of_mem _ hy)
    rw [List.sum_cons, List.length_cons, Nat.succ_mul]
    omega
theorem joinL_len (S : List Nat) : ∀ ps : List (List Nat), (TL.joinL S ps).length ≤ (ps.map List.length).sum + ps.length * S.length
  | [] => by simp [TL.joinL]
  | [p] => by
    show p.length ≤ _
    simp
  | p :: q :: r => by
    have ih := joinL_len S (q :: r)
    show (p ++ (S ++ TL.joinL S (q :: r))).length ≤ _
    rw [List.length_append, List.length_append, List.map_cons, List.sum_cons, List.length_cons (a := p), Nat.succ_mul]
    omega
def joinS (ys : List Str) : Str := Txt.join dotS ys
theorem join_len (ys : List Str) : (joinS ys).length ≤ (ys.map (·.length)).sum + ys.length := by
  have h := joinL_len (sg dotS) (ys.map sg)
  have e : sg (joinS ys) = TL.joinL (sg dotS) (ys.map sg) := by
    show sg (Txt.join dotS ys) = _
    rw [TL.join_eq]
    exact TL.tl_join dotS ys
  rw [← e, sg_len, sg_dot, List.length_map, List.map_map] at h
  have e2 : List.map (List.length ∘ sg) ys = ys.map (·.length) := List.map_congr_left fun y _ => sg_len y
  rw [e2] at h
  simpa using h
theorem parts_join {ys : List Str} (hne : ys ≠ []) (h : ∀ y ∈ ys, 46 ∉ sg y) : partsL (joinS ys) = ys := TL.split_join sg_dot (by decide +kernel) hne h
theorem label_nodot {y : Str} (h : labelB y = true) : 46 ∉ sg y := fun hm => by
  unfold labelB wordB at h
  rw [Bool.and_eq_true, Bool.and_eq_true] at h
  have h2 := of_decide_eq_true (List.all_eq_true.mp h.2.2 46 hm)
  exact absurd h2 (by decide +kernel)
theorem name_join {ys : List Str} (hne : ys ≠ []) (hl : ys.length ≤ 4) (h : ∀ y ∈ ys, labelB y = true) : nameB (joinS ys) = true := by
  unfold nameB
  rw [parts_join hne fun y hy => label_nodot (h y hy), decide_eq_true (show (ys.length : Int) ≤ 4 by omega), List.all_eq_true.mpr h]
  simp
def namesL : List Str := ["land", "shop", "a", "b", "workshop", "x1"]
theorem namesL_ok : ∀ y ∈ namesL, labelB y = true ∧ y.length ≤ 8 := by decide +kernel
def spForms (T : List (Addr × Str)) : Sp := fun vs H Q _ => ∃ (l t : Addr), vs = [.ref t] ∧ Tape l H t ∧ ∀ H', Ext T [t] H H' → Tape l H' t → Q (.bl true) H'
theorem strs_ofP {Pr : Str → Prop} : ∀ {vs : List V}, (∀ v ∈ vs, ∃ x, Pr x ∧ v = V.str x) → ∃ ys : List Str, vs = ys.map V.str ∧ ∀ y ∈ ys, Pr y
  | [], _ => ⟨[], rfl, by simp⟩
  | v :: r, h => by
    obtain ⟨ys, e, h2⟩ := strs_ofP (vs := r) fun u hu => h u (List.mem_cons_of_mem _ hu)
    obtain ⟨x, hx, rfl⟩ := h v List.mem_cons_self
    refine ⟨x :: ys, by rw [e]; rfl, fun y hy => ?_⟩
    rcases List.mem_cons.mp hy with hy | hy
    · rw [hy]
      exact hx
    · exact h2 y hy
theorem at_last {α : Type} {l : List α} {v : α} (h : l.getLast? = some v) : atI l (-1) = some v := by
  obtain ⟨r, e⟩ := List.getLast?_eq_some_iff.mp h
  rw [e]
  exact atI_last _ _

open PySem PySem.Spec PyProof.Rows L2
/-! ### sorted of data -/
section
open PySem.W
theorem each_vals : ∀ {xs : List V} {us : List Value}, Vals xs us → EachIs (fun u x => RelV x u) us xs
  | _, _, .nil => .nil
  | _, _, .cons r t => .cons r (each_vals t)
theorem each_zip {γ : Type} : ∀ {xs : List V} {us : List Value} {ds : List γ}, Vals xs us → ds.length = xs.length → EachIs (fun u d => ∃ y, RelV y u ∧ (y, d) ∈ xs.zip ds) us ds
  | _, _, [], .nil, _ => .nil
  | _, _, d :: ds, .nil, h => by cases h
  | _, _, [], .cons _ _, h => by cases h
  | _, _, d :: ds, .cons (a := x) r t, h => by
    refine .cons ⟨x, r, List.mem_cons_self⟩ ?_
    exact (each_zip t (by simpa using h)).mono fun u e ⟨y, h1, h2⟩ => ⟨y, h1, List.mem_cons_of_mem _ h2⟩
/-- the sorted values, by their abstract ones -/
theorem each_back {γ : Type} {R : V → γ → Prop} : ∀ {us : List Value} {ds : List γ}, EachIs (fun u d => ∃ y, RelV y u ∧ R y d) us ds → ∃ ys, Vals ys us ∧ EachIs R ys ds
  | _, _, .nil => ⟨[], .nil, .nil⟩
  | _, _, .cons ⟨y, h1, h2⟩ t => by
    obtain ⟨ys, a, b⟩ := each_back t
    exact ⟨y :: ys, .cons h1 a, .cons h2 b⟩
theorem dpAll_len {K : PySem.W.Frag} {H : Hp} : ∀ {xs : List V} {ds : List PyData}, DpAll K H xs ds → ds.length = xs.length
  | _, _, .nil => rfl
  | _, _, .cons _ t => by rw [List.length_cons, List.length_cons, dpAll_len t]
theorem call_sortedU {X : Cx} (K : PySem.W.Frag) (hK : X.K = K) (hu : X.A.units + 64 < cLine) : CallR X (.builtin "sorted") (rSortD K) := by
  subst hK
  intro pins s σ H vs us Q I r h
  obtain ⟨a, xs, ds, rfl, hs, hd, hal, hk, hdep, q⟩ := h
  cases r with
  | cons r t =>
    cases t
    cases r
    obtain ⟨its, rv, hl, hz⟩ := I.list hs
    have hlen := dpAll_len hd
    obtain ⟨as, hr⟩ := Dp.readsAll I ds xs its hd rv
    have er : EachIs (fun v d => ∃ as, Reads s.heap v (id d) as) its ds := readsAll_each (enc := id) (bs := ds) (by rw [List.map_id]; exact hr)
    refine sorted_data (bs := ds) (enc := id) hl.isList (each_zip rv hlen) er (by rw [List.map_id]; exact hal) (by rw [List.map_id]; exact hk) (by rw [hlen]; exact hz) (fun d hm => ?_) fun out ho he => ?_
    · have := hdep d hm
      show X.A.units + 2 + d.depth < cLine
      omega
    · obtain ⟨ys, h1, h2⟩ := each_back he
      obtain ⟨ep, hp⟩ := PyProof.Rows.sortedAll_at s.heap its (List.toArray out)
      refine ⟨.ref _, upd H (s.heap.objs.size + 1) (.lst ys), I.laid (t' := s.toks) (fun _ _ => PyProof.Rows.sortedAll_old) (Nat.le_succ _) ⟨?_, out, ep, h1, hp⟩, rfl, q ys _ h2 (I.hok.fresh (Nat.le_succ _))⟩
      rw [h1.length, ho, hlen]
      exact hz
end

open PySem PySem.Spec PyProof.Rows L2
/-! ### sorted(xs, key=lambda x: ..) whose keys are ints -/
section
variable {P : Program} {w : World} {K : PySem.W.Frag} {mg : Str → Option Value} {base : Heap} {N : List Str} {x q : Str} {scope : Scope} {k : Nat} {f c : Addr} {params : Arguments} {body : Expr} {pm ctv : Value} {tb : TE}
/-- a lambda's object without captured names, called on one value -/
theorem lam_run {A : Around} {outer : List Env} {s : Shared} {H : Hp} {u : Value} {v : V} {Q : VK} (of : s.heap.get? f = some (PySem.W.kla_obj "<lambda>" q params body scope [] pm c ctv)) (hc : s.heap.CodeRec (.ref c) q) (S : FnScope N [x] scope) (hr : Room (k + 1) A)
    (e0 : Env0 P w K mg base A outer s H) (hb : bindArgs (PySem.W.kla_fn "<lambda>" q params body scope [] pm (.ref c) ctv) ⟨[u], []⟩ = pure [(x, u)]) (r : RelV v u)
    (hbody : PE (cxOf CX0 P w K mg base N q scope f (.ref c) A outer s H E0) body tb) (h : tb (start N [v]) H Q) :
    codeAny (model P w) A (.call (.ref f) ⟨[u], []⟩) (CR CX0 outer P w H s Q E0) s := by
  have lim : s.heap.NoLimit := e0.mod.nolimit.keeps fun b o e => (e0.bs b o e).1
  refine PySem.W.kla_callFunE hr.depth of rfl S.co S.gen rfl hc ?_
  rw [hb]
  refine wpAny_pure (wpAny_newFunctionEnv_cells S.kind (fun y hy => ?_) fun env he s1 z => ?_)
  · obtain rfl : y = (x, u) := by simpa using hy
    rcases S.par x (by simp) with j | j
    · exact .inl j
    · exact .inr ⟨j, PySem.W.cellsFrom_some _ _ _ (.inl j)⟩
  · subst he
    refine ⟨lim.keeps z.toInCall.keep, ?_⟩
    have I : Inv (cxOf CX0 P w K mg base N q scope f (.ref c) A outer s H E0) [] (start N [v]) H s1 := inv_start S hr.hd e0 rfl (.cons r .nil) z
    refine PySem.W.kla_codeExpr (wpAny_mono (hbody.run [] s1 _ H Q I h) (fun y s' hy => ?_) fun e s' he => he)
    obtain ⟨y', H', J, ry, qy⟩ := hy
    exact ⟨y', H', J.os, J.bare, J.base, J.hok, ry, qy⟩
end
/-- an untracked object is changed -/
theorem hok_free {P : Program} {w : World} {H : Hp} {h h' : Heap} {c : Addr} (ok : HOk P w H h) (n : H c = none) (kp : ∀ b o, b ≠ c → h.get? b = some o → h'.get? b = some o) : HOk P w H h' := fun a o e =>
  (ok a o e).stay (fun b u hb g => kp b u (by
    rintro rfl
    rcases hb with hb | hb
    · rw [← hb, n] at e
      cases e
    · rw [n] at hb
      cases hb) g) (fun _ z => z) fun _ _ z => z
theorem un_free {fs : List Addr} {H : Hp} {h h' : Heap} {c : Addr} (kp : ∀ b o, b ≠ c → h.get? b = some o → h'.get? b = some o) (there : ∃ o, h'.get? c = some o) : Un fs [c] H H h h' where
  keep := fun b o e _ _ hx => kp b o (by simpa using hx) e
  slot := fun b o e _ _ hx => ⟨o.slots, kp b o (by simpa using hx) e⟩
  free := fun _ _ _ n _ => n
  there := fun b o e hx => ⟨o, kp b o (by simpa using hx) e⟩
  tups := fun _ _ e => e
  frzs := fun _ _ _ e => e
  tbls := fun _ ps e => ⟨#[], by simpa using e⟩
/-- what was not there does not count -/
theorem un_drop {fs : List Addr} {H H' : Hp} {h h' : Heap} {c : Addr} (u : Un fs [c] H H' h h') (n : h.get? c = none) : Un fs [] H H' h h' := by
  have ne : ∀ b o, h.get? b = some o → b ∉ [c] := fun b o e z => by
    rw [show b = c by simpa using z, n] at e
    cases e
  exact ⟨fun b o e n1 n2 _ => u.keep b o e n1 n2 (ne b o e), fun b o e n1 n2 _ => u.slot b o e n1 n2 (ne b o e), fun b o e n1 _ => u.free b o e n1 (ne b o e), fun b o e _ => u.there b o e (ne b o e), u.tups, u.frzs, u.tbls⟩
theorem not_fr {X : Cx} {pins : List (Addr × Obj)} {σ : L2.St} {H : Hp} {s : Shared} (I : Inv X pins σ H s) {b : Addr} (hb : s.heap.objs.size ≤ b) : b ∉ frs X.stack := by
  intro z
  cases List.mem_cons.mp (I.stkSub b z) with
  | inl e =>
    have h1 := I.lt
    subst e
    exact absurd (Nat.lt_of_lt_of_le h1 hb) (Nat.lt_irrefl _)
  | inr e => exact I.nofs hb e
theorem vals_each : ∀ {xs : List V} {us : List Value}, PySem.W.EachIs (fun u x => RelV x u) us xs → Vals xs us
  | _, _, .nil => .nil
  | _, _, .cons r t => .cons r (vals_each t)
theorem ints_read (h : Heap) : ∀ {ks : List Int} {us : List Value}, Vals (ks.map V.int) us → PySem.W.EachIs (fun u d => ∃ as, Reads h u d as) us (ks.map PyData.int)
  | [], _, .nil => .nil
  | n :: ks, _, .cons ⟨t, e⟩ r => by
    subst e
    exact .cons ⟨[], .int n t⟩ (ints_read h r)

section
open PySem.W
def tSortLam (T : List (Addr × Str)) (K : PySem.W.Frag) (N : List Str) (ta : TA) (tb : TE) : TE := fun σ H Q => ta σ H fun vs H1 => ∃ (a : Addr) (xs : List V) (κ : V → Int), vs = [.ref a] ∧ SqL K H1 a xs ∧ LamX.Tabs T H1 ∧
  (∀ x ∈ xs, ∀ H2, Ext T [] H1 H2 → ∀ Q' : VK, (∀ H3, Ext T [] H2 H3 → Q' (.int (κ x)) H3) → tb (start N [x]) H2 Q') ∧ ∀ q H3, Nw H1 q → Ext T [] H1 H3 → H3 q = some (.lst (xs.mergeSort fun a b => decide (κ a ≤ κ b))) → Q (.ref q) H3
theorem tab_ext {T : List (Addr × Str)} {H H1 : Hp} (e : LamX.ExtN H H1) (t : LamX.Tabs T H1) : Ext T [] H H1 := ⟨fun b o _ n h => e b o h n, fun _ => t⟩
/-- the sort's loop over the items and its end -/
theorem sort_lam_run {X : Cx} {pins : List (Addr × Obj)} {σ : L2.St} {H : Hp} {s : Shared} {T : List (Addr × Str)} {N : List Str} {x q : Str} {scope : Scope} {k : Nat} {f c l : Addr} {params : Arguments} {body : Expr} {pm ctv : Value} {tb : TE} {xs : List V} {κ : V → Int} {Q : VK}
    (I : Inv X pins σ H s) (of : s.heap.get? f = some (kla_obj "<lambda>" q params body scope [] pm c ctv)) (fn : H f = none) (ff : f ∉ frs X.stack) (hc : H c = some (LamX.CodeO c q)) (S : FnScope N [x] scope) (hr : Room (k + 2) X.A)
    (hb : ∀ u, bindArgs (kla_fn "<lambda>" q params body scope [] pm (.ref c) ctv) ⟨[u], []⟩ = pure [(x, u)])
    (hbody : ∀ (A : Around) (s : Shared) (H : Hp), Room k (A.deeper (envOfC q scope s.heap.objs.size f (.ref c))) → PE (cxOf CX0 X.prog X.w X.K X.mg X.base N q scope f (.ref c) A X.stack s H E0) body tb)
    (hl : SqL X.K H l xs) (turn : ∀ x ∈ xs, ∀ H2, Ext T [] H H2 → ∀ Q' : VK, (∀ H3, Ext T [] H2 H3 → Q' (.int (κ x)) H3) → tb (start N [x]) H2 Q')
    (done : ∀ q H3, Nw H q → Ext T [] H H3 → H3 q = some (.lst (xs.mergeSort fun a b => decide (κ a ≤ κ b))) → Q (.ref q) H3) :
    wpAny (model X.prog X.w) X.A (call (.builtin "sorted") [.ref l] [(Str.ofString "key", .ref f)]) (EP X pins σ Q) X.xe s := by
  obtain ⟨its, rv, pl, hz⟩ := I.list hl
  have hlen : its.length = xs.length := rv.length.symm
  have hz' : its.length ≤ sizeLine := by rw [hlen]; exact hz
  refine sorted_of_sort pl.isList hz' (ksk_s1 _ _) (fun _ => ksk_l1 _ _) fun E' => ?_
  rw [ksk_t1]
  have hA := copyHeap_at s.heap its
  have hsz : (copyHeap s.heap its).objs.size = s.heap.objs.size + 2 := by
    unfold copyHeap
    rw [size_push', Heap.size_update, size_push']
  generalize ha : s.heap.objs.size + 1 = a at hA ⊢
  unfold ksk_tree
  obtain ⟨e1, hA1⟩ : ∃ e1, ((copyHeap s.heap its).update a (Obj.mapSeq fun _ => (#[] : Array Value))).get? a = some (seqObj "list" #[] e1) := ⟨_, get?_update_seq hA fun _ => #[]⟩
  refine wpAny_bind (listItems_at hA rfl ?_)
  refine wpAny_bind (listUpdate_at hA rfl ?_ (by rw [List.size_toArray]; exact hz') (Nat.zero_le _))
  refine wpAny_bind (seqEpoch_at hA1 rfl ?_)
  refine wpAny_bind (wpAny_newTuple ?_ (by show its.length ≤ _; exact hz'))
  refine wpAny_bind (wpAny_newList ?_ (Nat.zero_le _))
  refine wpAny_holding ?_
  have hkv : ((copyHeap s.heap its).update a (Obj.mapSeq fun _ => (#[] : Array Value)) |>.push (seqObj "tuple" its.toArray 0)).objs.size = s.heap.objs.size + 3 := by
    rw [size_push', Heap.size_update, hsz]
  show wpAny _ _ _ _ _ { s with heap := (((copyHeap s.heap its).update a (Obj.mapSeq fun _ => (#[] : Array Value))).push (seqObj "tuple" its.toArray 0)).push (seqObj "list" #[] 0) }
  have gK : ((((copyHeap s.heap its).update a (Obj.mapSeq fun _ => (#[] : Array Value))).push (seqObj "tuple" its.toArray 0)).push (seqObj "list" #[] 0)).get? (s.heap.objs.size + 3) = some (seqObj "list" #[] 0) := by
    rw [← hkv]
    exact Heap.get?_push_size _ rfl
  have gA : ((((copyHeap s.heap its).update a (Obj.mapSeq fun _ => (#[] : Array Value))).push (seqObj "tuple" its.toArray 0)).push (seqObj "list" #[] 0)).get? a = some (seqObj "list" #[] e1) := Heap.get?_push_of_some _ (Heap.get?_push_of_some _ hA1)
  have gO : ∀ b o, s.heap.get? b = some o → ((((copyHeap s.heap its).update a (Obj.mapSeq fun _ => (#[] : Array Value))).push (seqObj "tuple" its.toArray 0)).push (seqObj "list" #[] 0)).get? b = some o := fun b o e => by
    have hb : b ≠ a := by
      rw [← ha]
      exact Nat.ne_of_lt (Nat.lt_succ_of_lt (Heap.lt_size e))
    exact sortingHeap_old hb (copyHeap_old e)
  have eK : (((copyHeap s.heap its).update a (Obj.mapSeq fun _ => (#[] : Array Value))).push (seqObj "tuple" its.toArray 0)).objs.size = s.heap.objs.size + 3 := hkv
  rw [eK]
  generalize hk : s.heap.objs.size + 3 = kS at gK ⊢
  generalize ((((copyHeap s.heap its).update a (Obj.mapSeq fun _ => (#[] : Array Value))).push (seqObj "tuple" its.toArray 0)).push (seqObj "list" #[] 0)) = G at gK gA gO ⊢
  have hka : kS ≠ a := by
    rw [← hk, ← ha]
    exact Nat.ne_of_gt (Nat.lt_succ_of_lt (Nat.lt_succ_self _))
  have hleA : s.heap.objs.size ≤ a := by
    rw [← ha]
    exact Nat.le_succ _
  have hleK : s.heap.objs.size ≤ kS := by
    rw [← hk]
    exact Nat.le_add_right _ 3
  have sA : s.heap.get? a = none := Heap.get?_none_of_le hleA
  have sK : s.heap.get? kS = none := Heap.get?_none_of_le hleK
  have fA := not_fr I hleA
  have fK := not_fr I hleK
  unfold ksk_rest
  refine wpAny_bind (wpAny_rule ?_)
  rw [List.forIn_toArray]
  refine wpAny_bind (ksk_fold (fun i st => ∃ (Hi : Hp) (keys : Array Value) (ep : Nat), st.os = s.os ∧ AllBare st.gens ∧ Un (frs X.stack) [] H Hi s.heap st.heap ∧ HOk X.prog X.w Hi st.heap ∧ Ext T [] H Hi ∧ Hi a = none ∧ Hi kS = none ∧ Hi f = none ∧
      st.heap.get? kS = some (seqObj "list" keys ep) ∧ st.heap.get? a = some (seqObj "list" #[] e1) ∧ st.heap.get? f = some (kla_obj "<lambda>" q params body scope [] pm c ctv) ∧ Vals (((xs.take i).map κ).map V.int) keys.toList) its 0 _
    ⟨H, #[], 0, rfl, I.bare, .kept gO, I.hok.kept gO, .refl, I.hok.fresh hleA, I.hok.fresh hleK, fn, gK, gA, gO _ _ of, .nil⟩ ?step ?fin)
  case step =>
    rintro j v st hv ⟨Hi, keys, ep, k1, k2, k3, k4, k5, k6, k7, k8, k9, k10, k11, k12⟩
    simp only [Nat.zero_add] at k12 ⊢
    have J : Inv X pins σ Hi st := I.call' (ch := []) k1 k3 k4 k2 (by simp)
    have hj : j < its.length := (List.getElem?_eq_some_iff.mp hv).1
    obtain ⟨y, hy⟩ : ∃ y, xs[j]? = some y := ⟨_, List.getElem?_eq_getElem (by omega)⟩
    have hym : y ∈ xs := List.mem_of_getElem? hy
    obtain ⟨v', hv', ry⟩ := rv.get hy
    rw [hv] at hv'
    cases hv'
    have e0 := J.env0
    have hci : Hi c = some (LamX.CodeO c q) := k5.keep c _ (by simp) (fun ps z => LamX.codeO_ne ps z) hc
    obtain ⟨⟨oc, vs0, tq, c1, c2, c3⟩, _, _⟩ := k4 c _ hci
    have hr2 : Room (k + 1) X.A.in1.in1 := ⟨hr.hd, by have := hr.dp; show X.A.depth + 3 * (k + 1) + 5 < _; omega, by have := hr.un; show X.A.units + 1 + 1 + 16 * (k + 1) + 200 < _; omega⟩
    have rc := lam_run (k := k) (A := X.A.in1.in1) (outer := X.stack) (Q := fun r H3 => r = .int (κ y) ∧ Ext T [] Hi H3) k11 ⟨c, oc, vs0, tq, rfl, c1, c2, c3⟩ S hr2 ⟨e0.frames, e0.mod, e0.bs, e0.bsz, e0.funs, e0.frf, e0.hok, e0.bare⟩ (hb v) ry
      (hbody X.A.in1.in1 st Hi (hr2.deeper _)) (turn y hym Hi k5 _ fun H3 e3 => ⟨rfl, e3⟩)
    refine wpAny_bind (wpAny_attempt (wpAny_mono (wpAny_call (Q := fun u s2 => ∃ H', s2.os = s.os ∧ AllBare s2.gens ∧ Un (frs X.stack) [] Hi H' st.heap s2.heap ∧ HOk X.prog X.w H' s2.heap ∧ Ext T [] Hi H' ∧ ∃ t, u = .int (κ y) t) (E := fun _ _ => False)
      (codeAny_mono rc fun r s2 hq => ?_)) (fun u s2 he => ?_) fun _ _ z => z.elim))
    · cases r with
      | error e => exact False.elim hq
      | ok fl =>
        cases fl with
        | next => exact False.elim hq
        | brk => exact False.elim hq
        | cont => exact False.elim hq
        | ret u =>
          obtain ⟨z, H', h1, h2, h3, h4, h5, h6, h7⟩ := hq
          subst h6
          exact ⟨H', h1.trans k1, h2, h3, h4, h7, h5⟩
    · obtain ⟨H', m1, m2, m3, m4, m5, t', rfl⟩ := he
      have nA := m3.free a _ k10 k6 (by simp)
      have nK := m3.free kS _ k9 k7 (by simp)
      have nF := m3.free f _ k11 k8 (by simp)
      have gK2 := m3.keep kS _ k9 k7 fK (by simp)
      have gA2 := m3.keep a _ k10 k6 fA (by simp)
      have gF2 := m3.keep f _ k11 k8 ff (by simp)
      have sb := Heap.SameBut.update s2.heap kS (Obj.mapSeq (·.push (.int (κ y) t')))
      obtain ⟨c2', hc2⟩ : ∃ c2, (s2.heap.update kS (Obj.mapSeq (·.push (.int (κ y) t')))).get? kS = some (seqObj "list" (keys.push (.int (κ y) t')) c2) := ⟨_, get?_update_seq gK2 (·.push (.int (κ y) t'))⟩
      have kp : ∀ b o, b ≠ kS → s2.heap.get? b = some o → (s2.heap.update kS (Obj.mapSeq (·.push (.int (κ y) t')))).get? b = some o := fun b o hb e => (sb.2 b hb).trans e
      have hkl : keys.size = j := by
        have h1 := k12.length
        have h0 : keys.toList.length = keys.size := Array.length_toList
        rw [List.length_map, List.length_map, List.length_take] at h1
        omega
      have hfk : f ≠ kS := fun z => by
        rw [z] at of
        rw [sK] at of
        cases of
      refine wpAny_bind (listUpdate_at gK2 rfl ?_ (by rw [hkl]; omega) (by show (keys.push _).size ≤ _; rw [Array.size_push, hkl]; omega))
      refine wpAny_pure ⟨rfl, H', keys.push (.int (κ y) t'), c2', m1, m2, ?_, hok_free m4 nK kp, k5.trans m5, nA, nK, nF, hc2, kp a _ hka.symm gA2, kp f _ hfk gF2, ?_⟩
      · exact un_drop (((k3.mono (fun _ z => z) (fun _ z => absurd z (by simp))).trans (m3.mono (fun _ z => z) (fun _ z => absurd z (by simp)))).trans (un_free kp ⟨_, hc2⟩)) sK
      · rw [List.take_add_one, hy, Array.toList_push, List.map_append, List.map_append]
        exact k12.append (.cons ⟨t', rfl⟩ .nil)
  case fin =>
    rintro st ⟨Hi, keys, ep, k1, k2, k3, k4, k5, k6, k7, k8, k9, k10, k11, k12⟩
    have et : xs.take (0 + its.length) = xs := List.take_of_length_le (by omega)
    rw [et] at k12
    have hkl : keys.size = its.length := by
      have h1 := k12.length
      have h0 : keys.toList.length = keys.size := Array.length_toList
      rw [List.length_map, List.length_map] at h1
      omega
    refine wpAny_bind (listItems_at k9 rfl ?_)
    have hrd : EachIs (fun u d => ∃ as, Reads st.heap u d as) keys.toList (xs.map fun y => PyData.int (κ y)) := by
      have h1 := ints_read st.heap (ks := xs.map κ) k12
      rw [List.map_map] at h1
      exact h1
    have hal : AllAlike (xs.map fun y => PyData.int (κ y)) := fun d hd d' hd' => by
      obtain ⟨y, _, rfl⟩ := List.mem_map.mp hd
      obtain ⟨y', _, rfl⟩ := List.mem_map.mp hd'
      rfl
    have hso : PySem.W.Sortable (xs.map fun y => PyData.int (κ y)) := .inr fun d hd => by
      obtain ⟨y, _, rfl⟩ := List.mem_map.mp hd
      exact ⟨(fun z => nomatch z), (fun _ z => nomatch z)⟩
    refine keyH_end (κ := dataKind st.heap (xs.map fun y => PyData.int (κ y))) (h₁ := hideAll st.heap [kS]) (fun b o _ e => of_hideAll _ e) (hideAll_none _ (by simp)) k9 k10 hka
      (SortsAt.data (s := st) hrd hal hso fun d hd => ?_) hkl hz' fun h' tk c3 kb na => ?_
    · obtain ⟨y, _, rfl⟩ := List.mem_map.mp hd
      have h1 := hr.un
      show X.A.units + 1 + 1 + 0 < cLine
      omega
    · refine ⟨rfl, ?_⟩
      have ho := keyedOut_each (fun y : V => PyData.int (κ y)) (rev := false) (bs := xs) (vs := its) ⟨st.heap, keys.toList, hal, rfl, hrd⟩ (each_vals rv)
      rw [dataLe_int] at ho
      have hv := vals_each ho
      have kp : ∀ b o, b ≠ a → b ≠ kS → st.heap.get? b = some o → h'.get? b = some o := fun b o h1 h2 e => kb b o h1 (hideAll_get _ e (by simpa using h2))
      have nA : ∀ b u, Hi b = some u → b ≠ a := fun b u e => ne_of_none e k6
      have nK : ∀ b u, Hi b = some u → b ≠ kS := fun b u e => ne_of_none e k7
      have oA : ∀ b o, s.heap.get? b = some o → b ≠ a := fun b o e z => by
        rw [z, sA] at e
        cases e
      have oK : ∀ b o, s.heap.get? b = some o → b ≠ kS := fun b o e z => by
        rw [z, sK] at e
        cases e
      have hml : (xs.mergeSort fun a b => decide (κ a ≤ κ b)).length ≤ sizeLine := by
        rw [List.length_mergeSort]
        exact hz
      have hok2 : HOk X.prog X.w (upd Hi a (.lst (xs.mergeSort fun a b => decide (κ a ≤ κ b)))) h' := fun b u e => by
        by_cases hb : b = a
        · subst hb
          rw [upd_same] at e
          cases e
          exact ⟨hml, _, c3, hv, na⟩
        · rw [upd_ne hb] at e
          refine (k4 b u e).stay (fun d o hd g => ?_) (fun d g => by rw [upd_ne (nA d _ g)]; exact g) fun d ys g => by rw [upd_ne (nA d _ g)]; exact g
          rcases hd with rfl | hd
          · exact kp _ _ hb (nK _ _ e) g
          · exact kp _ _ (nA _ _ hd) (nK _ _ hd) g
      have un2 : Un (frs X.stack) [] H (upd Hi a (.lst (xs.mergeSort fun a b => decide (κ a ≤ κ b)))) s.heap h' := by
        refine ⟨fun b o e n nf nx => kp b o (oA b o e) (oK b o e) (k3.keep b o e n nf nx), fun b o e n nf nx => ?_, fun b o e n nx => ?_, fun b o e nx => ?_, fun b ys e => ?_, fun b o u e => ?_, fun b ps e => ?_⟩
        · obtain ⟨sl, e2⟩ := k3.slot b o e n nf nx
          exact ⟨sl, kp b _ (oA b o e) (oK b o e) e2⟩
        · rw [upd_ne (oA b o e)]
          exact k3.free b o e n nx
        · obtain ⟨o', e2⟩ := k3.there b o e nx
          exact ⟨o', kp b _ (oA b o e) (oK b o e) e2⟩
        · have e2 := k3.tups b ys e
          rw [upd_ne (nA b _ e2)]
          exact e2
        · have e2 := k3.frzs b o u e
          rw [upd_ne (nA b _ e2)]
          exact e2
        · obtain ⟨more, e2⟩ := k3.tbls b ps e
          exact ⟨more, by rw [upd_ne (nA b _ e2)]; exact e2⟩
      refine ⟨.ref a, _, I.call' (s' := { st with heap := h', toks := tk }) (ch := []) k1 un2 hok2 k2 (by simp), rfl, done a _ (.of (I.hok.fresh hleA)) (k5.newR k6) upd_same⟩
theorem pe_sortedLam {X : Cx} {T : List (Addr × Str)} (K : PySem.W.Frag) (hK : X.K = K) {N : List Str} {x : Str} {e : Expr} {ta : TA} {tb : TE} {c P : Addr} {k : Nat} {params : Arguments} {body : Expr} {scope : Scope} {p lpos kpos pos : Pos}
    (TB : LamX.TabB X.base X.mg c P) (hcode : X.env.code = .ref c) (hmT : (P, X.env.qual ++ "<lambda>") ∈ T) (hu : ∀ z ∈ T, z.1 = P → z.2 = X.env.qual ++ "<lambda>") (hr : Room (k + 2) X.A) (S : FnScope N [x] scope)
    (hbody : ∀ (A : Around) (s : Shared) (H : Hp) (f c' : Addr), Room k (A.deeper (envOfC (X.env.qual ++ "<lambda>") scope s.heap.objs.size f (.ref c'))) → PE (cxOf CX0 X.prog X.w X.K X.mg X.base N (X.env.qual ++ "<lambda>") scope f (.ref c') A X.stack s H E0) body tb)
    (hg : Gl X "sorted") (hm : X.mg "sorted" = none) (ha : PA X [e] ta) (hcl : cloFrom X.env.cells scope.names [] = [] := by rfl) (hfr : ∀ y ∈ scope.names, y.2 ≠ .free := by decide +kernel)
    (hdef : defaultsOf params X.env = ([], []) := by rfl)
    (hb : ∀ (q : Str) (pm cv ctv u : Value), bindArgs (kla_fn "<lambda>" q params body scope [] pm cv ctv) ⟨[u], []⟩ = pure [(x, u)] := by intros; rfl)
    (hst : backTo pos (starEach [e] X.env) = (false, eval e X.env) :: backTo pos (starEach [] X.env) := by rfl) (hpl : (backTo pos (starEach [e] X.env)).any (·.1) = false := by rfl) :
    PE X (.Call (.Name "sorted" p) [e] [⟨some "key", .Lambda params body scope lpos, kpos⟩] pos) (tSortLam T K N ta tb) := by
  subst hK
  refine ⟨fun pins s σ H Q I h => ?_⟩
  refine wpAny_Call_Name_kw (ld_blt I hg hm (by decide +kernel : bootBuiltins "sorted" = some (.builtin "sorted")) ?_)
  refine PyProof.Rows.callWith_kw (thn (ha.run pos pins s σ H _ I h) fun us s1 ⟨vs, H1, I1, r1, a, xs, κ, ea, hl, ht, turn, done⟩ => ?_) hst hpl rfl rfl
  subst ea
  cases r1 with
  | cons r rr =>
    cases rr
    cases r
    show wpAny _ _ (evalAll [do let v ← eval (.Lambda params body scope lpos) X.env; standAt pos; pure v]) _ _ s1
    refine wpAny_evalAll_cons (wpAny_bind (LamX.lam_make2 I1 TB hcode hmT hu ht hdef (fun y hy z => absurd z (hfr y hy)) fun f c' pm ctv H2 s2 I2 eN T2 hf hfn hff hco => ?_))
    refine wpAny_bind (wpAny_standAt (wpAny_pure (wpAny_evalAll_nil ?_)))
    rw [hcl] at hf
    have e2 := tab_ext eN T2
    exact sort_lam_run (k := k) (κ := κ) (T := T) (I2) hf hfn hff hco S hr (fun u => hb _ _ _ _ u) (fun A s H hr' => hbody A s H f c' hr') (e2.seqL (by simp) hl) (fun x hx H3 e3 => turn x hx H3 (e2.trans e3)) fun q H3 nq e3 hq => done q H3 (e2.back (by simp) nq) (e2.trans e3) hq
theorem rd_sortLam {T : List (Addr × Str)} {K : PySem.W.Frag} {N : List Str} {ta : TA} {tb : TE} {σ : L2.St} {H : Hp} {Q : VK} (q : ta σ H fun vs H1 => ∃ (a : Addr) (xs : List V) (κ : V → Int), vs = [.ref a] ∧ SqL K H1 a xs ∧ LamX.Tabs T H1 ∧
  (∀ x ∈ xs, ∀ H2, Ext T [] H1 H2 → ∀ Q' : VK, (∀ H3, Ext T [] H2 H3 → Q' (.int (κ x)) H3) → tb (start N [x]) H2 Q') ∧ ∀ q H3, Nw H1 q → Ext T [] H1 H3 → H3 q = some (.lst (xs.mergeSort fun a b => decide (κ a ≤ κ b))) → Q (.ref q) H3) : tSortLam T K N ta tb σ H Q := q
end
/-! ### a def whose own code object is known: it makes a lambda -/
def DefC (K : PySem.W.Frag) (mg : Str → Option Value) (x : Str) (st : Stmt) (ps : List Str) (c : Addr) : Prop :=
  ∃ (f : Addr) (oc : Value) (od : Option Addr) (kV doc pm : Value) (an : Option Addr) (ct : Value) (osl : Array (Option Value)),
    K.lookup f = some ⟨oc, od, .func (PySem.W.fnOf x x (defArgs st) (defBody st) (defScope st) .none kV doc pm an (.ref c) ct), osl⟩ ∧ PySem.W.codeIn K (.ref c) x = true ∧ PySem.W.keepIn K (.ref f) = true ∧ mg x = some (.ref f) ∧
    Binds K (PySem.W.fnOf x x (defArgs st) (defBody st) (defScope st) .none kV doc pm an (.ref c) ct) ps []
theorem DefC.ok {P : Program} {w : World} {K : PySem.W.Frag} {mg : Str → Option Value} {base : Heap} {x : Str} {st : Stmt} {N ps : List Str} {k : Nat} {sp : Sp} {c : Addr} (D : DefC K mg x st ps c) (S : FnScope N ps (defScope st)) (len : ∀ vs H Q E, sp vs H Q E → vs.length = ps.length)
    (hbody : ∀ (f : Addr) (A : Around) (outer : List Env) (s : Shared) (H : Hp) (vs : List V) (Q : VK) (E : XK), Room k (A.deeper (envOfC x (defScope st) s.heap.objs.size f (.ref c))) → sp vs H Q E →
      ∃ t, PSs (cxOf CX0 P w K mg base N x (defScope st) f (.ref c) A outer s H E).nox (defBody st) t ∧ t { nx := fun _ H' => Q .non H', rt := Q } (start N vs) H) : Ok P w K mg base (k + 1) x ps sp := by
  obtain ⟨f, oc, od, kV, doc, pm, an, ct, osl, lk, hcd, hk, hm, hb⟩ := D
  refine ⟨f, _, fn_of lk hcd S len fun A outer s H vs Q E hr h => ?_, hm, hk, hb⟩
  obtain ⟨t, h1, h2⟩ := hbody f A outer s H vs Q E hr h
  exact ⟨t, h1.nox, h2⟩

open PySem PySem.Spec PyProof.Rows L2
/-! ### what the head has written: the defs, the constants, the words of the language -/
def DefIn (K : PySem.W.Frag) (x : Str) (st : Stmt) : Prop :=
  ∃ (f : Addr) (oc : Value) (od : Option Addr) (kV doc pm : Value) (an : Option Addr) (cdv ct : Value) (osl : Array (Option Value)),
    PySem.W.nsIn K mainGlobals x = some (some (.ref f)) ∧ K.lookup f = some ⟨oc, od, .func (PySem.W.fnOf x x (defArgs st) (defBody st) (defScope st) .none kV doc pm an cdv ct), osl⟩ ∧ PySem.W.codeIn K cdv x = true ∧ PySem.W.keepIn K (.ref f) = true
def DefInC (K : PySem.W.Frag) (x : Str) (st : Stmt) (c : Addr) : Prop :=
  ∃ (f : Addr) (oc : Value) (od : Option Addr) (kV doc pm : Value) (an : Option Addr) (ct : Value) (osl : Array (Option Value)),
    PySem.W.nsIn K mainGlobals x = some (some (.ref f)) ∧ K.lookup f = some ⟨oc, od, .func (PySem.W.fnOf x x (defArgs st) (defBody st) (defScope st) .none kV doc pm an (.ref c) ct), osl⟩ ∧ PySem.W.codeIn K (.ref c) x = true ∧ PySem.W.keepIn K (.ref f) = true
theorem DefIn.of {K : PySem.W.Frag} {x : Str} {st : Stmt} {f : Addr} {oc : Value} {od : Option Addr} {kV doc pm : Value} {an : Option Addr} {cdv ct : Value} {osl : Array (Option Value)} (h1 : PySem.W.nsIn K mainGlobals x = some (some (.ref f)))
    (h2 : K.lookup f = some ⟨oc, od, .func (PySem.W.fnOf x x (defArgs st) (defBody st) (defScope st) .none kV doc pm an cdv ct), osl⟩) (h3 : PySem.W.codeIn K cdv x = true) (h4 : PySem.W.keepIn K (.ref f) = true) : DefIn K x st := ⟨f, oc, od, kV, doc, pm, an, cdv, ct, osl, h1, h2, h3, h4⟩
theorem DefInC.of {K : PySem.W.Frag} {x : Str} {st : Stmt} {f c : Addr} {oc : Value} {od : Option Addr} {kV doc pm : Value} {an : Option Addr} {ct : Value} {osl : Array (Option Value)} (h1 : PySem.W.nsIn K mainGlobals x = some (some (.ref f)))
    (h2 : K.lookup f = some ⟨oc, od, .func (PySem.W.fnOf x x (defArgs st) (defBody st) (defScope st) .none kV doc pm an (.ref c) ct), osl⟩) (h3 : PySem.W.codeIn K (.ref c) x = true) (h4 : PySem.W.keepIn K (.ref f) = true) : DefInC K x st c := ⟨f, oc, od, kV, doc, pm, an, ct, osl, h1, h2, h3, h4⟩
theorem cstS_of {K : PySem.W.Frag} {x y : Str} {t : Tok} (h : PySem.W.nsIn K mainGlobals x = some (some (.str y t))) : ∃ t, PySem.W.nsIn K mainGlobals x = some (some (.str y t)) := ⟨t, h⟩
theorem cstI_of {K : PySem.W.Frag} {x : Str} {y : Int} {t : Tok} (h : PySem.W.nsIn K mainGlobals x = some (some (.int y t))) : ∃ t, PySem.W.nsIn K mainGlobals x = some (some (.int y t)) := ⟨t, h⟩
section
variable {K : PySem.W.Frag} {h : Heap} {mg : Str → Option Value} {x : Str} {st : Stmt} {ps : List Str}
def BindOk (x : Str) (st : Stmt) (ps : List Str) : Prop := ∀ (kV doc pm : Value) (an : Option Addr) (cdv ct : Value) (us : List Value), us.length = ps.length → bindArgs (PySem.W.fnOf x x (defArgs st) (defBody st) (defScope st) .none kV doc pm an cdv ct) ⟨us, []⟩ = pure (ps.zip us)
theorem DefIn.mk (d : DefIn K x st) (X : K.In h) (G : h.Ns mainGlobals mg) (hb : BindOk x st ps) : Def K mg x st ps := by
  obtain ⟨f, oc, od, kV, doc, pm, an, cdv, ct, osl, h1, h2, h3, h4⟩ := d
  have F := fun_mk (st := st) h2 h3 h4
  exact ⟨f, _, F, PySem.W.mg_of X G h1, F.binds hb⟩
theorem DefInC.mk {c : Addr} (d : DefInC K x st c) (X : K.In h) (G : h.Ns mainGlobals mg) (hb : BindOk x st ps) : DefC K mg x st ps c := by
  obtain ⟨f, oc, od, kV, doc, pm, an, ct, osl, h1, h2, h3, h4⟩ := d
  exact ⟨f, oc, od, kV, doc, pm, an, ct, osl, h2, h3, h4, PySem.W.mg_of X G h1, (fun_mk (st := st) h2 h3 h4).binds hb⟩
end

open PySem PySem.Spec PyProof.Rows L2
/-! ### what the head has written of classes and of second names -/
def MethIn (K : PySem.W.Frag) (C : Addr) (m qual : Str) (st : Stmt) : Prop :=
  ∃ (f : Addr) (oc : Value) (od : Option Addr) (kV doc pm : Value) (an : Option Addr) (cdv ct : Value) (osl : Array (Option Value)),
    PySem.W.findIn K (.ref C) m = some (some (.ref f)) ∧ PySem.W.isFn K (.ref f) = true ∧ K.lookup f = some ⟨oc, od, .func (PySem.W.fnOf m qual (defArgs st) (defBody st) (defScope st) .none kV doc pm an cdv ct), osl⟩ ∧ PySem.W.codeIn K cdv qual = true ∧ PySem.W.keepIn K (.ref f) = true
theorem MethIn.of {K : PySem.W.Frag} {C : Addr} {m qual : Str} {st : Stmt} {f : Addr} {oc : Value} {od : Option Addr} {kV doc pm : Value} {an : Option Addr} {cdv ct : Value} {osl : Array (Option Value)} (h1 : PySem.W.findIn K (.ref C) m = some (some (.ref f))) (h2 : PySem.W.isFn K (.ref f) = true)
    (h3 : K.lookup f = some ⟨oc, od, .func (PySem.W.fnOf m qual (defArgs st) (defBody st) (defScope st) .none kV doc pm an cdv ct), osl⟩) (h4 : PySem.W.codeIn K cdv qual = true) (h5 : PySem.W.keepIn K (.ref f) = true) : MethIn K C m qual st := ⟨f, oc, od, kV, doc, pm, an, cdv, ct, osl, h1, h2, h3, h4, h5⟩
def DefIn2 (K : PySem.W.Frag) (x y : Str) (st : Stmt) : Prop :=
  ∃ (f : Addr) (oc : Value) (od : Option Addr) (kV doc pm : Value) (an : Option Addr) (cdv ct : Value) (osl : Array (Option Value)),
    PySem.W.nsIn K mainGlobals x = some (some (.ref f)) ∧ PySem.W.nsIn K mainGlobals y = some (some (.ref f)) ∧ K.lookup f = some ⟨oc, od, .func (PySem.W.fnOf x x (defArgs st) (defBody st) (defScope st) .none kV doc pm an cdv ct), osl⟩ ∧ PySem.W.codeIn K cdv x = true ∧ PySem.W.keepIn K (.ref f) = true
theorem DefIn2.of {K : PySem.W.Frag} {x y : Str} {st : Stmt} {f : Addr} {oc : Value} {od : Option Addr} {kV doc pm : Value} {an : Option Addr} {cdv ct : Value} {osl : Array (Option Value)} (h1 : PySem.W.nsIn K mainGlobals x = some (some (.ref f))) (h2 : PySem.W.nsIn K mainGlobals y = some (some (.ref f)))
    (h3 : K.lookup f = some ⟨oc, od, .func (PySem.W.fnOf x x (defArgs st) (defBody st) (defScope st) .none kV doc pm an cdv ct), osl⟩) (h4 : PySem.W.codeIn K cdv x = true) (h5 : PySem.W.keepIn K (.ref f) = true) : DefIn2 K x y st := ⟨f, oc, od, kV, doc, pm, an, cdv, ct, osl, h1, h2, h3, h4, h5⟩
section
variable {P : Program} {w : World} {K : PySem.W.Frag} {mg : Str → Option Value} {base : Heap} {h : Heap}
theorem DefIn2.d {x y : Str} {st : Stmt} (d : DefIn2 K x y st) : DefIn K x st := by
  obtain ⟨f, oc, od, kV, doc, pm, an, cdv, ct, osl, h1, _, h3, h4, h5⟩ := d
  exact ⟨f, oc, od, kV, doc, pm, an, cdv, ct, osl, h1, h3, h4, h5⟩
theorem DefIn2.same {x y : Str} {st : Stmt} (d : DefIn2 K x y st) (X : K.In h) (G : h.Ns mainGlobals mg) : mg y = mg x := by
  obtain ⟨f, oc, od, kV, doc, pm, an, cdv, ct, osl, h1, h2, _⟩ := d
  rw [PySem.W.mg_of X G h1, PySem.W.mg_of X G h2]
theorem MethIn.fn {C : Addr} {m qual : Str} {st : Stmt} (d : MethIn K C m qual st) {ps : List Str} (hb : ∀ (kV doc pm : Value) (an : Option Addr) (cdv ct : Value) (us : List Value), us.length = ps.length → bindArgs (PySem.W.fnOf m qual (defArgs st) (defBody st) (defScope st) .none kV doc pm an cdv ct) ⟨us, []⟩ = pure (ps.zip us)) :
    ∃ (f : Addr) (fd : FuncData), Fun K m qual st f fd ∧ Meth K C m f ∧ Binds K fd ps [] := by
  obtain ⟨f, oc, od, kV, doc, pm, an, cdv, ct, osl, h1, h2, h3, h4, h5⟩ := d
  have F := fun_mk (st := st) h3 h4 h5
  exact ⟨f, _, F, ⟨h1, h2, h5⟩, F.binds hb⟩
end

open PySem PySem.Spec PyProof.Rows L2
/-! ### tuple(xs) whose object is known, dict() of it -/
section
variable {X : Cx}
/-- a tuple's object without a dict of its own -/
def PlT (H : Hp) (a : Addr) (xs : List V) : Prop := ∃ o : Obj, o.dict = none ∧ H a = some (.frz o (.tup xs))
def rTupF (K : PySem.W.Frag) : List V → Hp → VK → Prop := fun xs H Q => ∃ p ys, xs = [.ref p] ∧ ((SqL K H p ys ∧ ∀ l o, H l = none → o.dict = none → Q (.ref l) (upd H l (.frz o (.tup ys)))) ∨ (SqT K H p ys ∧ Q (.ref p) H))
theorem call_tupF (K : PySem.W.Frag) (hK : X.K = K) : CallR X (.type "tuple") (rTupF K) := by
  subst hK
  intro pins s σ H xs us Q I r h
  obtain ⟨p, ys, rfl, h⟩ := h
  obtain ⟨u, rfl, rx⟩ := vals1 r
  cases rx
  rcases h with ⟨hq, q⟩ | ⟨hq, q⟩
  · obtain ⟨its, r', pl, hz⟩ := I.list hq
    have hlen := r'.length
    refine call_tuple_list pl.isList (fun h' kp => ?_) (by simp only [List.size_toArray] <;> omega)
    have I1 : Inv X pins σ H { s with heap := h' } := I.kept (t' := s.toks) kp
    have I2 : Inv X pins σ (upd H h'.objs.size (.frz { cls := .type "tuple", data := .seq its.toArray } (.tup ys))) { s with heap := h'.push { cls := .type "tuple", data := .seq its.toArray } } :=
      I1.laid (t' := s.toks) (fun b o e => Heap.get?_push_of_some _ e) (Nat.le_refl _) (show ObjOk X.prog X.w _ _ _ (.frz _ (.tup ys)) from ⟨Heap.get?_push_size _ rfl, hz, its, r', IsTup.new _ _⟩)
    exact ⟨.ref h'.objs.size, _, I2, rfl, q _ _ (I1.hok.fresh (Nat.le_refl _)) rfl⟩
  · obtain ⟨its, r', pl, hz⟩ := I.tuple hq
    exact call_tuple_same pl ⟨.ref p, H, I, rfl, q⟩
/-- the pairs of a tuple, whose keys are tuples -/
def PairsT (K : PySem.W.Frag) (H : Hp) : List Addr → List (List L2.Key × V) → Prop := Paired fun p kv => ∃ b, SqT K H p [.ref b, kv.2] ∧ H b = some (.tup (kv.1.map kV))
theorem pairsT_of {pins : List (Addr × Obj)} {σ : L2.St} {H : Hp} {s : Shared} (I : Inv X pins σ H s) : ∀ {ps : List Addr} {kvs : List (List L2.Key × V)}, PairsT X.K H ps kvs →
    ∃ prs : List (List L2.Key × Addr × Value), KT H kvs prs ∧ prs.length = ps.length ∧ ∀ (j : Nat) (q : List L2.Key × Addr × Value), prs[j]? = some q → ∃ b : Addr, ps[j]? = some b ∧ s.heap.IsTuple b #[.ref q.2.1, q.2.2] ∧ (tupleKind (mixKind X.prog X.w)).is s.heap q.1 q.2.1
  | _, _, .nil => ⟨[], .nil, rfl, fun j q e => by simp at e⟩
  | _, _, .cons (a := p) (b := kv) ⟨kb, h, hb⟩ t => by
    obtain ⟨prs, r, hl, hp⟩ := pairsT_of I t
    obtain ⟨its, rv, ht, _⟩ := I.tuple h
    obtain ⟨u, y, ei, ru, ry⟩ := vals2 rv
    subst ei
    cases ru
    refine ⟨(kv.1, kb, y) :: prs, .cons ⟨rfl, hb, ry⟩ r, by rw [List.length_cons, List.length_cons, hl], fun j q e => ?_⟩
    cases j with
    | zero =>
      have e' : (kv.1, kb, y) = q := Option.some.inj e
      subst e'
      exact ⟨p, rfl, ht, key_of I.hok hb⟩
    | succ j =>
      obtain ⟨b, e1, e2, e3⟩ := hp j q (by simpa using e)
      exact ⟨b, by simpa using e1, e2, e3⟩
theorem kt_keys {H : Hp} : ∀ {kvs : List (List L2.Key × V)} {prs : List (List L2.Key × Addr × Value)}, KT H kvs prs → prs.map (·.1) = kvs.map (·.1)
  | _, _, .nil => rfl
  | _, _, .cons h t => by rw [List.map_cons, List.map_cons, kt_keys t, h.1]
theorem kt_upd {H : Hp} {p : Addr} {o : HO} (hp : H p = none) : ∀ {kvs : List (List L2.Key × V)} {prs : List (List L2.Key × Addr × Value)}, KT H kvs prs → KT (upd H p o) kvs prs
  | _, _, .nil => .nil
  | _, _, .cons h t => .cons ⟨h.1, (upd_ne (ne_of_none h.2.1 hp)).trans h.2.1, h.2.2⟩ (kt_upd hp t)
def rDictT (K : PySem.W.Frag) : List V → Hp → VK → Prop := fun xs H Q => ∃ (a : Addr) (ps : List Addr) (kvs : List (List L2.Key × V)), xs = [.ref a] ∧ PlT H a (ps.map V.ref) ∧ PairsT K H ps kvs ∧ (kvs.map (·.1)).Nodup ∧
    ∀ p, H p = none → Q (.ref p) (upd H p (.dT kvs))
theorem call_dictT (K : PySem.W.Frag) (hK : X.K = K) (hcalm : X.calm = true) (hu : X.A.units + 64 < cLine) : CallR X (.type "dict") (rDictT K) := by
  subst hK
  intro pins s σ H xs us Q I r q
  obtain ⟨a, ps, kvs, ex, ⟨o, hdn, ha⟩, hp, hnd, q⟩ := q
  subst ex
  obtain ⟨u, eu, rx⟩ := vals1 r
  subst eu
  cases rx
  obtain ⟨hget, hz, its, rv, hit⟩ := (show ObjOk X.prog X.w H s.heap a (.frz o (.tup (ps.map V.ref))) from I.hok a _ ha)
  have ei := refs_at rv
  subst ei
  rw [List.length_map] at hz
  obtain ⟨prs, rel, hl, hpr⟩ := pairsT_of I hp
  obtain ⟨o', ho', hc, n, hd⟩ := hit
  have eo : o' = o := by
    rw [hget] at ho'
    exact (Option.some.inj ho').symm
  subst eo
  have hnd2 : (prs.map (·.1)).Nodup := by rw [kt_keys rel]; exact hnd
  have hP := PySem.PairArg.tuple (prog := X.prog) (w := X.w) a (ps.map Value.ref).toArray (fun j => ps.getD j 0) (prs.map fun q => (Value.ref q.2.1, q.2.2))
  have hitem : PySem.PairItems s.heap (ps.map Value.ref).toArray (fun j => ps.getD j 0) (prs.map fun q => (Value.ref q.2.1, q.2.2)) := by
    refine ⟨by simp [hl], fun j k v e => ?_⟩
    rw [List.getElem?_map] at e
    obtain ⟨q', e1, e2⟩ := Option.map_eq_some_iff.mp e
    obtain ⟨b, h1, h2, h3⟩ := hpr j q' e1
    have e3 : k = .ref q'.2.1 := (congrArg Prod.fst e2).symm
    have e4 : v = q'.2.2 := (congrArg Prod.snd e2).symm
    have e5 : ps.getD j 0 = b := by rw [List.getD_eq_getElem?_getD, h1]; rfl
    refine ⟨by simp [h1], ?_⟩
    rw [e3, e4]
    show PySem.PairAt s.heap (ps.getD j 0) _ _
    rw [e5]
    exact .inl h2
  have hmem : ∀ x ∈ prs, (tupleKind (mixKind X.prog X.w)).is s.heap x.1 x.2.1 := fun x hx => by
    obtain ⟨j, hj⟩ := List.mem_iff_getElem?.mp hx
    obtain ⟨b, _, _, h3⟩ := hpr j x hj
    exact h3
  refine PySem.call_dict_pairsH (knd := tupleKind (mixKind X.prog X.w)) (ps := prs) hP (I.ok.hd hcalm) (show X.A.units + 1 + 1 < cLine by omega) ⟨⟨o', n, hget, hc, hdn, hd⟩, hitem⟩ ⟨by rw [List.length_map], fun i key v e => ?_⟩ (fun h' hk x hx => ?_) (by rw [List.length_map, hl]; exact hz) fun h' tk hd' k => ?_
  · have e : (prs.map fun q => (Value.ref q.2.1, q.2.2))[i]? = some (key, v) := e
    rw [List.getElem?_map] at e
    obtain ⟨q', e1, e2⟩ := Option.map_eq_some_iff.mp e
    refine ⟨q'.1, q'.2.1, ?_, (congrArg Prod.fst e2).symm⟩
    have e6 : q'.2.2 = v := congrArg Prod.snd e2
    rw [e1, ← e6]
  · obtain ⟨o2, its2, n2, h1, h2, h3, h4⟩ := hmem x hx
    exact ⟨o2, its2, n2, hk _ _ (Nat.ne_of_lt (Heap.lt_size h1)) (by simp) h1, h2, h3, h4⟩
  · rw [PySem.storedAllH_nil_of_nodup _ hnd2] at hd'
    have hm : (s.heap.objs.size == sysModules) = false := beq_eq_false_iff_ne.mpr (Nat.ne_of_gt I.big)
    have fr := I.hok.fresh (a := s.heap.objs.size) (Nat.le_refl _)
    obtain ⟨od, es, ep, w1, w2, w3, w4, w5, w6⟩ := hd'
    have hlen : kvs.length ≤ sizeLine := by
      have e1 := congrArg List.length (kt_keys rel)
      rw [List.length_map, List.length_map] at e1
      rw [← e1, hl]
      exact hz
    exact ⟨.ref s.heap.objs.size, upd H s.heap.objs.size (.dT kvs), I.laid (t' := tk) (fun b u e => k b u (by simp) e) (Nat.le_refl _) (show ObjOk X.prog X.w _ _ _ (.dT kvs) from ⟨hlen, hm, prs, kt_upd fr rel, od, es, ep, w1, w2, w3, w4, w6⟩), rfl, q _ fr⟩
/-- the pairs of a tuple, whose keys are texts or numbers -/
def rDictK (K : PySem.W.Frag) : List V → Hp → VK → Prop := fun xs H Q => ∃ (a : Addr) (ps : List Addr) (kvs : List (L2.Key × V)), xs = [.ref a] ∧ PlT H a (ps.map V.ref) ∧ Paired (fun p kv => SqT K H p [kV kv.1, kv.2]) ps kvs ∧
    ∀ p, H p = none → Q (.ref p) (upd H p (.dK (mergeK [] kvs)))
end

open PySem PySem.Spec PyProof.Rows L2
/-! ### data without lists -/
def SqP (H : Hp) (a : Addr) (xs : List V) : Prop := H a = some (.tup xs)
mutual
inductive Im (H : Hp) : V → PyData → Prop
  | non : Im H .non .none
  | int (i : Int) : Im H (.int i) (.int i)
  | str (x : Str) (h : PyData.strOk x = true) : Im H (.str x) (.str x)
  | tup {a : Addr} {xs : List V} {ds : List PyData} : SqP H a xs → ImAll H xs ds → Im H (.ref a) (.tuple ds)
inductive ImAll (H : Hp) : List V → List PyData → Prop
  | nil : ImAll H [] []
  | cons {v : V} {vs : List V} {d : PyData} {ds : List PyData} : Im H v d → ImAll H vs ds → ImAll H (v :: vs) (d :: ds)
end
mutual
theorem Im.dp {K : PySem.W.Frag} {H : Hp} : ∀ (d : PyData) (v : V), Im H v d → Dp K H v d
  | .none, _, h => by cases h; exact .non
  | .bool b, _, h => by cases h
  | .int i, _, h => by cases h; exact .int i
  | .str x, _, h => by cases h; exact .str x
  | .list _, _, h => by cases h
  | .dict _, _, h => by cases h
  | .tuple ds, _, h => by
    cases h with
    | tup h1 h2 => exact .tup (SqT.of h1) (ImAll.dp ds _ h2)
theorem ImAll.dp {K : PySem.W.Frag} {H : Hp} : ∀ (ds : List PyData) (vs : List V), ImAll H vs ds → DpAll K H vs ds
  | [], _, h => by cases h; exact .nil
  | d :: ds, _, h => by
    cases h with
    | cons h1 h2 => exact .cons (Im.dp d _ h1) (ImAll.dp ds _ h2)
end
/-- all the objects that may change are lists -/
def Lsts (H : Hp) (ms : List Addr) : Prop := ∀ b ∈ ms, ∃ xs, H b = some (.lst xs)
theorem SqP.ext {T : List (Addr × Str)} {ms : List Addr} {H H' : Hp} {a : Addr} {xs : List V} (h : SqP H a xs) (e : Ext T ms H H') (hm : Lsts H ms) : SqP H' a xs := by
  have hn : ∀ o, H a = some o → (∀ xs, o ≠ .lst xs) → a ∉ ms := fun o ho hl hb => by
    obtain ⟨ys, hy⟩ := hm a hb
    rw [ho] at hy
    exact hl ys (Option.some.inj hy)
  exact e.keep a _ (hn _ h fun _ z => by cases z) (fun _ z => by cases z) h
mutual
theorem Im.ext {T : List (Addr × Str)} {ms : List Addr} {H H' : Hp} (e : Ext T ms H H') (hm : Lsts H ms) : ∀ (d : PyData) (v : V), Im H v d → Im H' v d
  | .none, _, h => by cases h; exact .non
  | .bool b, _, h => by cases h
  | .int i, _, h => by cases h; exact .int i
  | .str x, _, h => by
    cases h with
    | str _ q => exact .str x q
  | .list _, _, h => by cases h
  | .dict _, _, h => by cases h
  | .tuple ds, _, h => by
    cases h with
    | tup h1 h2 => exact .tup (h1.ext e hm) (ImAll.ext e hm ds _ h2)
theorem ImAll.ext {T : List (Addr × Str)} {ms : List Addr} {H H' : Hp} (e : Ext T ms H H') (hm : Lsts H ms) : ∀ (ds : List PyData) (vs : List V), ImAll H vs ds → ImAll H' vs ds
  | [], _, h => by cases h; exact .nil
  | d :: ds, _, h => by
    cases h with
    | cons h1 h2 => exact .cons (Im.ext e hm d _ h1) (ImAll.ext e hm ds _ h2)
end
theorem ImAll.len {H : Hp} : ∀ {vs : List V} {ds : List PyData}, ImAll H vs ds → vs.length = ds.length
  | _, _, .nil => rfl
  | _, _, .cons _ t => by rw [List.length_cons, List.length_cons, t.len]
theorem ImAll.get {H : Hp} : ∀ {vs : List V} {ds : List PyData} {i : Nat} {d : PyData}, ImAll H vs ds → ds[i]? = some d → ∃ v, vs[i]? = some v ∧ Im H v d
  | _, _, 0, d, .cons h t, e => ⟨_, rfl, by rw [← Option.some.inj (show some _ = some d from e)]; exact h⟩
  | _, _, i + 1, d, .cons h t, e => t.get (i := i) e
theorem ImAll.get' {H : Hp} : ∀ {vs : List V} {ds : List PyData} {i : Nat} {v : V}, ImAll H vs ds → vs[i]? = some v → ∃ d, ds[i]? = some d ∧ Im H v d
  | _, _, 0, d, .cons h t, e => ⟨_, rfl, by rw [← Option.some.inj (show some _ = some d from e)]; exact h⟩
  | _, _, i + 1, d, .cons h t, e => t.get' (i := i) e
theorem ImAll.app {H : Hp} : ∀ {vs ws : List V} {ds es : List PyData}, ImAll H vs ds → ImAll H ws es → ImAll H (vs ++ ws) (ds ++ es)
  | _, _, _, _, .nil, h => h
  | _, _, _, _, .cons a t, h => .cons a (t.app h)
theorem ImAll.snoc {H : Hp} {vs : List V} {ds : List PyData} {v : V} {d : PyData} (h : ImAll H vs ds) (x : Im H v d) : ImAll H (vs ++ [v]) (ds ++ [d]) := h.app (.cons x .nil)
theorem ImAll.drop {H : Hp} : ∀ {vs : List V} {ds : List PyData} (n : Nat), ImAll H vs ds → ImAll H (vs.drop n) (ds.drop n)
  | _, _, 0, h => h
  | _, _, n + 1, .nil => .nil
  | _, _, n + 1, .cons _ t => t.drop n
theorem ImAll.take {H : Hp} : ∀ {vs : List V} {ds : List PyData} (n : Nat), ImAll H vs ds → ImAll H (vs.take n) (ds.take n)
  | _, _, 0, h => .nil
  | _, _, n + 1, .nil => .nil
  | _, _, n + 1, .cons h t => .cons h (t.take n)
theorem ImAll.strs {H : Hp} : ∀ {zs : List Str}, (∀ z ∈ zs, PyData.strOk z = true) → ImAll H (zs.map V.str) (zs.map PyData.str)
  | [], _ => .nil
  | z :: zs, h => .cons (.str z (h z List.mem_cons_self)) (ImAll.strs fun y hy => h y (List.mem_cons_of_mem _ hy))
mutual
theorem Im.lay {H : Hp} : ∀ (d : PyData) (v : V), Im H v d → d.canLay0 = true
  | .none, _, h => rfl
  | .bool b, _, h => by cases h
  | .int i, _, h => rfl
  | .str x, _, h => by
    cases h with
    | str _ q => exact q
  | .list _, _, h => by cases h
  | .dict _, _, h => by cases h
  | .tuple ds, _, h => by
    cases h with
    | tup h1 h2 => exact ImAll.lay ds _ h2
theorem ImAll.lay {H : Hp} : ∀ (ds : List PyData) (vs : List V), ImAll H vs ds → PyData.canLayAll0 ds = true
  | [], _, h => rfl
  | d :: ds, _, h => by
    cases h with
    | cons h1 h2 =>
      show (d.canLay0 && PyData.canLayAll0 ds) = true
      rw [Im.lay d _ h1, ImAll.lay ds _ h2]
      rfl
end
theorem Im.shaped {H : Hp} {d : PyData} {v : V} (h : Im H v d) (hd : d.depth ≤ 64) : SeqAt.shaped d = true := by
  unfold SeqAt.shaped
  rw [Im.lay d v h, decide_eq_true hd]
  rfl
theorem ImAll.strs' {H : Hp} : ∀ {zs : List Str} {vs : List V}, ImAll H vs (zs.map PyData.str) → vs = zs.map V.str
  | [], _, h => by cases h; rfl
  | z :: zs, _, h => by
    cases h with
    | cons a t =>
      cases a
      rw [List.map_cons, ImAll.strs' t]
theorem Im.str' {H : Hp} {v : V} {z : Str} (h : Im H v (.str z)) : v = .str z := by cases h; rfl
theorem Im.int' {H : Hp} {v : V} {z : Int} (h : Im H v (.int z)) : v = .int z := by cases h; rfl
theorem Im.tup' {H : Hp} {v : V} {ds : List PyData} (h : Im H v (.tuple ds)) : ∃ a xs, v = .ref a ∧ SqP H a xs ∧ ImAll H xs ds := by
  cases h with
  | tup h1 h2 => exact ⟨_, _, rfl, h1, h2⟩
theorem Im.pair' {H : Hp} {v : V} {d1 d2 : PyData} (h : Im H v (.tuple [d1, d2])) : ∃ a x y, v = .ref a ∧ SqP H a [x, y] ∧ Im H x d1 ∧ Im H y d2 := by
  obtain ⟨a, xs, rfl, h1, h2⟩ := h.tup'
  cases h2 with
  | cons a1 t =>
    cases t with
    | cons a2 t =>
      cases t
      exact ⟨a, _, _, rfl, h1, a1, a2⟩
theorem Im.new2 {H : Hp} {a : Addr} {v1 v2 : V} {d1 d2 : PyData} (h1 : Im H v1 d1) (h2 : Im H v2 d2) (ha : H a = some (.tup [v1, v2])) : Im H (.ref a) (.tuple [d1, d2]) := .tup ha (.cons h1 (.cons h2 .nil))
theorem Im.new3 {H : Hp} {a : Addr} {v1 v2 v3 : V} {d1 d2 d3 : PyData} (h1 : Im H v1 d1) (h2 : Im H v2 d2) (h3 : Im H v3 d3) (ha : H a = some (.tup [v1, v2, v3])) : Im H (.ref a) (.tuple [d1, d2, d3]) := .tup ha (.cons h1 (.cons h2 (.cons h3 .nil)))
/-- a list of such data -/
def Ls (H : Hp) (a : Addr) (ds : List PyData) : Prop := ∃ xs, H a = some (.lst xs) ∧ ImAll H xs ds
theorem Ls.ext {T : List (Addr × Str)} {ms : List Addr} {H H' : Hp} {a : Addr} {ds : List PyData} (h : Ls H a ds) (e : Ext T ms H H') (ha : a ∉ ms) (hm : Lsts H ms) : Ls H' a ds := by
  obtain ⟨xs, h1, h2⟩ := h
  exact ⟨xs, e.lst ha h1, ImAll.ext e hm _ _ h2⟩
theorem Ls.strs {H : Hp} {a : Addr} {zs : List Str} (h : Ls H a (zs.map PyData.str)) : H a = some (.lst (zs.map V.str)) := by
  obtain ⟨xs, h1, h2⟩ := h
  rw [← h2.strs']
  exact h1
theorem Lsts.nil {H : Hp} : Lsts H [] := fun b hb => by cases hb
theorem Tape.lsts {H : Hp} {l t : Addr} (h : Tape l H t) : Lsts H [t] := fun b hb => by
  rw [List.mem_singleton.mp hb]
  obtain ⟨ns, pos, rest, st, bud, h1, _⟩ := h
  exact ⟨_, h1⟩
theorem Nw.sqp {H : Hp} {p q : Addr} {xs : List V} (f : Nw H p) (h : SqP H q xs) : q ≠ p := f.tup h
theorem no_iff {p : Prop} {q : Prop} (h1 : ¬ p) (h2 : ¬ q) : p ↔ q := ⟨fun h => absurd h h1, fun h => absurd h h2⟩
mutual
theorem Im.eqv {H : Hp} : ∀ (d e : PyData) (v u : V), Im H v d → Im H u e → (PyData.eqv d e = true ↔ d = e)
  | .none, e, v, u, _, h2 => by
    cases h2 with
    | non => exact ⟨fun _ => rfl, fun _ => rfl⟩
    | int i => exact no_iff (fun h => by cases h) (fun h => by cases h)
    | str i _ => exact no_iff (fun h => by cases h) (fun h => by cases h)
    | tup a b => exact no_iff (fun h => by cases h) (fun h => by cases h)
  | .bool _, e, v, u, h1, h2 => by cases h1
  | .list _, e, v, u, h1, h2 => by cases h1
  | .dict _, e, v, u, h1, h2 => by cases h1
  | .int i, e, v, u, _, h2 => by
    cases h2 with
    | non => exact no_iff (fun h => by cases h) (fun h => by cases h)
    | int j =>
      show ((i == j) = true) ↔ _
      rw [beq_iff_eq]
      exact ⟨fun h => by rw [h], fun h => by injection h⟩
    | str i _ => exact no_iff (fun h => by cases h) (fun h => by cases h)
    | tup a b => exact no_iff (fun h => by cases h) (fun h => by cases h)
  | .str x, e, v, u, _, h2 => by
    cases h2 with
    | non => exact no_iff (fun h => by cases h) (fun h => by cases h)
    | int i => exact no_iff (fun h => by cases h) (fun h => by cases h)
    | str y _ =>
      show ((x == y) = true) ↔ _
      rw [beq_iff_eq]
      exact ⟨fun h => by rw [h], fun h => by injection h⟩
    | tup a b => exact no_iff (fun h => by cases h) (fun h => by cases h)
  | .tuple ds, e, v, u, h0, h2 => by
    cases h0 with
    | tup _ h1 =>
      cases h2 with
      | non => exact no_iff (fun h => by cases h) (fun h => by cases h)
      | int i => exact no_iff (fun h => by cases h) (fun h => by cases h)
      | str i _ => exact no_iff (fun h => by cases h) (fun h => by cases h)
      | tup _ h3 =>
        have key := ImAll.eqv ds _ _ _ h1 h3
        exact ⟨fun h => by rw [key.mp h], fun h => key.mpr (by injection h)⟩
theorem ImAll.eqv {H : Hp} : ∀ (ds es : List PyData) (vs us : List V), ImAll H vs ds → ImAll H us es → (PyData.eqvAll ds es = true ↔ ds = es)
  | [], es, vs, us, h1, h2 => by
    cases h2 with
    | nil => exact ⟨fun _ => rfl, fun _ => rfl⟩
    | cons a b => exact no_iff (fun h => by cases h) (fun h => by cases h)
  | d :: ds, es, vs, us, h1, h2 => by
    cases h1 with
    | cons h3 h4 =>
      cases h2 with
      | nil => exact no_iff (fun h => by cases h) (fun h => by cases h)
      | cons h5 h6 =>
        have k1 := Im.eqv d _ _ _ h3 h5
        have k2 := ImAll.eqv ds _ _ _ h4 h6
        show ((PyData.eqv _ _ && PyData.eqvAll _ _) = true) ↔ _
        rw [Bool.and_eq_true, k1, k2]
        exact ⟨fun h => by rw [h.1, h.2], fun h => (by injection h with a b; exact ⟨a, b⟩)⟩
end
theorem any_eqv {H : Hp} {v : V} {d : PyData} (h : Im H v d) : ∀ {ds : List PyData} {vs : List V}, ImAll H vs ds → ((ds.any fun z => PyData.eqv z d) = true ↔ d ∈ ds)
  | [], _, _ => by simp
  | e :: ds, _, .cons h1 h2 => by
    rw [List.any_cons, Bool.or_eq_true, Im.eqv _ _ _ _ h1 h, any_eqv h h2, List.mem_cons]
    exact ⟨fun h => h.imp Eq.symm id, fun h => h.imp Eq.symm id⟩
theorem bool_of {a b : Bool} (h : a = true ↔ b = true) : a = b := by
  cases a <;> cases b <;> simp_all
/-! ### reading such data -/
section
variable {K : PySem.W.Frag} {σ : L2.St} {H : Hp} {Q : VK}
theorem SqP.t {a : Addr} {xs : List V} (h : SqP H a xs) : SqT K H a xs := SqT.of h
theorem rd_ixI {v : V} {ds : List PyData} {i : Int} {d : PyData} (h : Im H v (.tuple ds)) (a : atI ds i = some d) (q : ∀ u, Im H u d → Q u H) : rIx K v (.int i) H Q := by
  obtain ⟨p, xs, rfl, h1, h2⟩ := h.tup'
  have key : ∃ u, atI xs i = some u ∧ Im H u d := by
    unfold atI at a ⊢
    cases e : ixN ds.length i with
    | none =>
      rw [e] at a
      cases a
    | some k =>
      rw [e] at a
      obtain ⟨u, e1, e2⟩ := h2.get (i := k) (by simpa using a)
      exact ⟨u, by rw [h2.len, e]; simpa using e1, e2⟩
  obtain ⟨u, h3, h4⟩ := key
  exact rd_ixT (SqP.t h1) h3 (q u h4)
end

open PySem PySem.Spec PyProof.Rows L2
open PySem.W (EachIs AllAlike Sortable dataLe)
/-! ### signs over data -/
section
variable {X : Cx}
def rInDT (K : PySem.W.Frag) : R2 := fun x y H Q => ∃ d ds, Dp K H x d ∧ Dp K H y (.tuple ds) ∧ SeqAt.shaped d = true ∧ SeqAt.shaped (.tuple ds) = true ∧ Q (.bl (ds.any fun z => PyData.eqv z d)) H
def rNinDT (K : PySem.W.Frag) : R2 := fun x y H Q => ∃ d ds, Dp K H x d ∧ Dp K H y (.tuple ds) ∧ SeqAt.shaped d = true ∧ SeqAt.shaped (.tuple ds) = true ∧ Q (.bl (!ds.any fun z => PyData.eqv z d)) H
theorem canLay_shapedT {xs : List PyData} (h : SeqAt.shaped (.tuple xs) = true) : PyData.canLayAll0 xs = true := (Bool.and_eq_true _ _ ▸ h : _ ∧ _).1
theorem room_in_shapedT {a : Nat} {d : PyData} {xs : List PyData} (h : SeqAt.shaped d = true) (hu : a + 65 < cLine) : a + 1 + min (PyData.depthAll xs) d.depth < cLine := by
  have h1 : d.depth ≤ 64 := of_decide_eq_true (Bool.and_eq_true _ _ ▸ h : _ ∧ _).2
  have h2 : min (PyData.depthAll xs) d.depth ≤ d.depth := Nat.min_le_right _ _
  omega
theorem op_inDT (hu : X.A.units + 65 < cLine) : OpR X (compareOp .In) (rInDT X.K) := by
  intro pins s σ H x y v u Q I rx ry h
  obtain ⟨d, ds, hd, he, sd, se, q⟩ := h
  obtain ⟨as, r1⟩ := Dp.reads I d x v hd rx
  obtain ⟨bs, r2⟩ := Dp.reads I (.tuple ds) y u he ry
  exact SeqAt.in_tuple_reads r2 r1 (canLay_shapedT se) (SeqAt.canLay_of_shaped sd) (room_in_shapedT sd hu) ⟨.bl _, H, I, rfl, q⟩
theorem op_ninDT (hu : X.A.units + 65 < cLine) : OpR X (compareOp .NotIn) (rNinDT X.K) := by
  intro pins s σ H x y v u Q I rx ry h
  obtain ⟨d, ds, hd, he, sd, se, q⟩ := h
  obtain ⟨as, r1⟩ := Dp.reads I d x v hd rx
  obtain ⟨bs, r2⟩ := Dp.reads I (.tuple ds) y u he ry
  exact SeqAt.notIn_tuple_reads r2 r1 (canLay_shapedT se) (SeqAt.canLay_of_shaped sd) (room_in_shapedT sd hu) ⟨.bl _, H, I, rfl, q⟩
def rInW (K : PySem.W.Frag) : R2 := fun x y H Q => rInU K x y H Q ∨ (rInD K x y H Q ∨ rInDT K x y H Q)
def rNinW (K : PySem.W.Frag) : R2 := fun x y H Q => rNinU K x y H Q ∨ (rNotInD K x y H Q ∨ rNinDT K x y H Q)
theorem Room.units65 {k : Nat} {A : Around} (r : Room k A) : A.units + 65 < cLine := by have := r.un; omega
theorem op_inW (K : PySem.W.Frag) (hK : X.K = K) (hu : X.A.units + 65 < cLine) : OpR X (compareOp .In) (rInW K) := by
  have h := op_inU (X := X) K hK
  subst hK
  exact h.or ((op_inD hu).or (op_inDT hu))
theorem op_ninW (K : PySem.W.Frag) (hK : X.K = K) (hu : X.A.units + 65 < cLine) : OpR X (compareOp .NotIn) (rNinW K) := by
  have h := op_ninU (X := X) K hK
  subst hK
  exact h.or ((op_notInD hu).or (op_ninDT hu))
/-- unpacking a tuple or a list -/
def gTupU (K : PySem.W.Frag) (n : Nat) (t : TGs) : TG := fun v σ H Q => gTup K n t v σ H Q ∨ gUnl K n t v σ H Q
theorem pg_tupU (K : PySem.W.Frag) (hK : X.K = K) {es : List Expr} {k : Nat} {t : TGs} {n : Nat} {pos : Pos} (hc : X.calm = true) (h : PGs X es t)
    (hn : (assignEach es X.env).length = n := by rfl) (hst : (assignEach es X.env).findIdx? (·.1) = none := by rfl) : PG X (.Tuple es k pos) (gTupU K n t) := by
  subst hK
  refine ⟨fun pins s σ H v u Q I r hw => ?_⟩
  rcases hw with hw | hw
  · exact (pg_tup hc h hn hst).run pins s σ H v u Q I r hw
  · exact (pg_unl hc h hn hst).run pins s σ H v u Q I r hw
def rSortU (K : PySem.W.Frag) : List V → Hp → VK → Prop := rSortD K
end
section
variable {X : Cx}
theorem pa_starU (K : PySem.W.Frag) (hK : X.K = K) {e : Expr} {es : List Expr} {te : TE} {t : TA} {p : Pos} (he : PE X e te) (ht : PA X es t)
    (hs : starEach (e.Starred p :: es) X.env = (true, eval e X.env) :: starEach es X.env := by rfl) : PA X (e.Starred p :: es) (StX.tStar K te t) := by
  subst hK
  exact StX.pa_star he ht hs
end
/-! ### reading -/
section
variable {K : PySem.W.Frag} {σ : L2.St} {H : Hp} {Q : VK}
theorem rd_star {te : TE} {t : TA} {Q : List V → Hp → Prop} (q : te σ H fun x H1 => ∃ p xs, x = V.ref p ∧ (SqT K H1 p xs ∨ SqL K H1 p xs) ∧ t σ H1 fun ys H2 => Q (xs ++ ys) H2) : StX.tStar K te t σ H Q := q
theorem rd_gtup {n : Nat} {t : TGs} {a : Addr} {xs : List V} {Q : L2.St → Hp → Prop} (h : SqT K H a xs) (hl : xs.length = n) (q : t xs σ H Q) : gTupU K n t (.ref a) σ H Q := .inl ⟨a, xs, rfl, h, hl, q⟩
theorem rd_glst {n : Nat} {t : TGs} {a : Addr} {xs : List V} {Q : L2.St → Hp → Prop} (h : SqL K H a xs) (hl : xs.length = n) (q : t xs σ H Q) : gTupU K n t (.ref a) σ H Q := .inr ⟨a, xs, rfl, h, hl, q⟩
theorem rd_gcons {t : TG} {u : TGs} {v : V} {r : List V} {Q : L2.St → Hp → Prop} (q : t v σ H fun σ' H' => u r σ' H' Q) : gCons t u (v :: r) σ H Q := ⟨v, r, rfl, q⟩
theorem rd_gnil {Q : L2.St → Hp → Prop} (q : Q σ H) : gNil [] σ H Q := ⟨rfl, q⟩
theorem rd_gpair {i j : Nat} {v : V} {d1 d2 : PyData} {Q : L2.St → Hp → Prop} (h : Im H v (.tuple [d1, d2])) (q : ∀ v1 v2, Im H v1 d1 → Im H v2 d2 → Q ((σ.set i (some v1)).set j (some v2)) H) : gTupU K 2 (gCons (gName i) (gCons (gName j) gNil)) v σ H Q := by
  obtain ⟨a, x, y, rfl, h1, h2, h3⟩ := h.pair'
  exact rd_gtup (SqP.t h1) rfl (rd_gcons (rd_name (rd_gcons (rd_name (rd_gnil (q x y h2 h3))))))
theorem rd_inWs {o : Str} {a : Addr} {zs : List Str} (ha : H a = some (.lst (zs.map V.str))) (q : Q (.bl (decide (o ∈ zs))) H) : rInW K (.str o) (.ref a) H Q := by
  refine .inl (.inl ⟨a, _, rfl, .inl (.inl (.inl ha)), rfl, ?_, ?_⟩)
  · rw [List.all_map]
    exact List.all_eq_true.mpr fun _ _ => rfl
  · have e : inV (.str o) (zs.map V.str) = decide (o ∈ zs) := by
      induction zs with
      | nil => rfl
      | cons z zs ih =>
        have h2 : inV (.str o) ((z :: zs).map V.str) = ((z == o) || inV (.str o) (zs.map V.str)) := rfl
        rw [h2]
        have ih2 : inV (.str o) (zs.map V.str) = decide (o ∈ zs) := by
          clear h2 ha q ih
          induction zs with
          | nil => rfl
          | cons y ys ih =>
            show ((y == o) || inV (.str o) (ys.map V.str)) = _
            rw [ih]
            by_cases h : y = o
            · subst h
              simp
            · have h2 : ¬ o = y := fun e => h e.symm
              simp [h, h2]
        rw [ih2]
        by_cases h : z = o
        · subst h
          simp
        · have h2 : ¬ o = z := fun e => h e.symm
          simp [h, h2]
    rw [show (if false = true then (!inV (.str o) (zs.map V.str)) else inV (.str o) (zs.map V.str)) = inV (.str o) (zs.map V.str) from rfl, e]
    exact q
theorem inV_strs0 (o : Str) : ∀ zs : List Str, inV (.str o) (zs.map V.str) = decide (o ∈ zs)
  | [] => rfl
  | z :: zs => by
    show ((z == o) || inV (.str o) (zs.map V.str)) = _
    rw [inV_strs0 o zs]
    by_cases h : z = o
    · subst h
      simp
    · have h2 : ¬ o = z := fun e => h e.symm
      simp [h, h2]
theorem rd_ninWs {o : Str} {a : Addr} {zs : List Str} (ha : H a = some (.lst (zs.map V.str))) (q : Q (.bl (!decide (o ∈ zs))) H) : rNinW K (.str o) (.ref a) H Q := by
  refine .inl (.inl ⟨a, _, rfl, .inl (.inl (.inl ha)), rfl, ?_, ?_⟩)
  · rw [List.all_map]
    exact List.all_eq_true.mpr fun _ _ => rfl
  · rw [if_pos rfl, inV_strs0]
    exact q
/-- a text in a tuple of texts -/
theorem rd_inWt {o : Str} {a : Addr} {zs : List Str} (ha : SqT K H a (zs.map V.str)) (q : Q (.bl (decide (o ∈ zs))) H) : rInW K (.str o) (.ref a) H Q := by
  refine .inl (.inl ⟨a, _, rfl, .inr ha, rfl, ?_, ?_⟩)
  · rw [List.all_map]
    exact List.all_eq_true.mpr fun _ _ => rfl
  · rw [if_neg (by decide), inV_strs0]
    exact q
theorem rd_eqI {v u : V} {d e : PyData} (h1 : Im H v d) (h2 : Im H u e) (s1 : d.depth ≤ 64) (s2 : e.depth ≤ 64) {b : Bool} (hb : d = e ↔ b = true) (q : Q (.bl b) H) : rEqU K v u H Q := .inr ⟨_, _, h1.dp, h2.dp, h1.shaped s1, h2.shaped s2, by rw [bool_of ((Im.eqv _ _ _ _ h1 h2).trans hb)]; exact q⟩
theorem rd_neI {v u : V} {d e : PyData} (h1 : Im H v d) (h2 : Im H u e) (s1 : d.depth ≤ 64) (s2 : e.depth ≤ 64) {b : Bool} (hb : d = e ↔ b = true) (q : Q (.bl (!b)) H) : rNeU K v u H Q := .inr ⟨_, _, h1.dp, h2.dp, h1.shaped s1, h2.shaped s2, by rw [bool_of ((Im.eqv _ _ _ _ h1 h2).trans hb)]; exact q⟩
theorem rd_inWI {v u : V} {d : PyData} {ds : List PyData} (h1 : Im H v d) (h2 : Im H u (.tuple ds)) (s1 : d.depth ≤ 64) (s2 : PyData.depth (.tuple ds) ≤ 64) {b : Bool} (hb : d ∈ ds ↔ b = true) (q : Q (.bl b) H) : rInW K v u H Q := .inr (.inr ⟨d, ds, h1.dp, h2.dp, h1.shaped s1, h2.shaped s2, by
  obtain ⟨a, xs, _, _, h3⟩ := h2.tup'
  rw [bool_of ((any_eqv h1 h3).trans hb)]
  exact q⟩)
theorem Ls.dp {a : Addr} {ds : List PyData} (h : Ls H a ds) : Dp K H (.ref a) (.list ds) := by
  obtain ⟨xs, h1, h2⟩ := h
  exact .lst (SqL.of h1) h2.dp
theorem rd_ninWL {v : V} {a : Addr} {d : PyData} {ds : List PyData} (h1 : Im H v d) (h2 : Ls H a ds) (s1 : d.depth ≤ 64) (s2 : PyData.depth (.list ds) ≤ 64) {b : Bool} (hb : d ∈ ds ↔ b = true) (q : Q (.bl (!b)) H) : rNinW K v (.ref a) H Q := .inr (.inl ⟨d, ds, h1.dp, h2.dp, h1.shaped s1, by
  obtain ⟨xs, e1, e2⟩ := h2
  unfold SeqAt.shaped
  rw [show PyData.canLay0 (.list ds) = true from ImAll.lay ds _ e2, decide_eq_true s2]
  rfl, by
  obtain ⟨xs, e1, e2⟩ := h2
  rw [bool_of ((any_eqv h1 e2).trans hb)]
  exact q⟩)
theorem each_im {H : Hp} {xs : List V} {ds : List PyData} (h : ImAll H xs ds) : ∀ {ys : List V} {es : List PyData}, EachIs (fun y d => (y, d) ∈ xs.zip ds) ys es → ImAll H ys es
  | _, _, .nil => .nil
  | _, _, .cons a t => by
    refine .cons ?_ (each_im h t)
    clear t
    have key : ∀ {xs : List V} {ds : List PyData} {v : V} {d : PyData}, ImAll H xs ds → (v, d) ∈ xs.zip ds → Im H v d := by
      intro xs ds v d h
      induction xs generalizing ds with
      | nil => intro a; simp at a
      | cons x xs ih =>
        cases h with
        | cons h1 h2 =>
          intro a
          rw [List.zip_cons_cons] at a
          rcases List.mem_cons.mp a with a | a
          · cases a
            exact h1
          · exact ih h2 a
    exact key h a
/-- sorted of a list of data -/
def srtD (ds : List PyData) : List PyData := ds.mergeSort (dataLe false id)
theorem rd_sortI {a : Addr} {ds : List PyData} (h : Ls H a ds) (h1 : AllAlike ds) (h2 : Sortable ds) (h3 : ∀ d ∈ ds, d.depth ≤ 60) (q : ∀ p ys, H p = none → ImAll H ys (srtD ds) → Q (.ref p) (upd H p (.lst ys))) : rSortD K [.ref a] H Q := by
  obtain ⟨xs, e1, e2⟩ := h
  exact ⟨a, xs, ds, rfl, SqL.of e1, e2.dp, h1, h2, h3, fun ys p hs hp => q p ys hp (each_im e2 hs)⟩
theorem rd_tupF {p : Addr} {ys : List V} (h : SqL K H p ys) (q : ∀ l o, H l = none → o.dict = none → Q (.ref l) (upd H l (.frz o (.tup ys)))) : rTupF K [.ref p] H Q := ⟨p, ys, rfl, .inl ⟨h, q⟩⟩
theorem rd_listT {p : Addr} {ys : List V} (h : SqT K H p ys) (q : ∀ l, H l = none → Q (.ref l) (upd H l (.lst ys))) : rListOf K [.ref p] H Q := ⟨p, ys, rfl, .inr h, q⟩
theorem rd_lenT {p : Addr} {ys : List V} (h : SqT K H p ys) (q : Q (.int ys.length) H) : rLenU K [.ref p] H Q := .inr ⟨p, ys, rfl, .inr h, q⟩
theorem rd_slT {a : Addr} {xs : List V} {lo hi : Option Int} (h : SqT K H a xs) (hw : ¬ (HT.sIx xs.length 0 lo = 0 ∧ HT.sIx xs.length xs.length hi = xs.length)) (q : ∀ p, H p = none → Q (.ref p) (upd H p (.tup (cutV xs lo hi)))) : rSlU K (.ref a) lo hi H Q := .inr (.inr ⟨a, xs, rfl, h, hw, q⟩)
theorem rd_catT {a b : Addr} {xs ys : List V} (h1 : SqT K H a xs) (h2 : SqT K H b ys) (n1 : xs ≠ []) (n2 : ys ≠ []) (c : xs.length + ys.length ≤ sizeLine) (q : ∀ p, H p = none → Q (.ref p) (upd H p (.tup (xs ++ ys)))) : rPlus K (.ref a) (.ref b) H Q := .inr (.inr (.inr (.inl ⟨a, b, xs, ys, rfl, rfl, h1, h2, n1, c, fun e => absurd e n2, fun _ => q⟩)))
theorem rd_catT0 {a b : Addr} {ys : List V} (h1 : SqT K H a []) (h2 : SqT K H b ys) (q : Q (.ref b) H) : rPlus K (.ref a) (.ref b) H Q := .inr (.inr (.inr (.inr ⟨a, b, ys, rfl, rfl, h1, h2, q⟩)))
/-! ### comprehensions over data -/
theorem lcg_im (T : List (Addr × Str)) (ms : List Addr) {J : It} {n : Nat} {G : Hp → Prop} {Y : Nat → Hp → V → Hp → Prop} {g : TG} {tt : TT} {te : TE} {vs : List Nat} (w : Walk J n G Y) (xs : List V) (hn : n = xs.length) (hY : ∀ i H x H', Y i H x H' → H' = H ∧ xs[i]? = some x)
    (Iv : Hp → Prop) (h0 : Iv H) (hI0 : ∀ D o, H D = none → Iv (upd H D o)) (hI : ∀ D H', Nw H D → Iv H' → ∀ ys u, H' D = some (.lst ys) → Iv (upd H' D u)) (hL : ∀ H', Iv H' → Lsts H' ms) (hG : ∀ H', Ext T ms H H' → Iv H' → G H') (hl : xs.length < sizeLine)
    (p : V → Bool) (Rel : PyData → V → Prop)
    (step : ∀ (i : Nat) (x : V), xs[i]? = some x → ∀ H', Ext T ms H H' → Iv H' → ∀ (R : V → Hp → Prop) (S : Hp → Prop), (p x = true → ∀ v d H2, Ext T ms H' H2 → Iv H2 → Im H2 v d → Rel d x → R v H2) → (p x = false → ∀ H2, Ext T ms H' H2 → Iv H2 → S H2) →
      g x (wipe σ vs) H' fun σ2 H2 => wipe σ2 vs = wipe σ vs ∧ tt σ2 H2 fun b H3 => if b = true then te σ2 H3 R else S H3)
    (q : ∀ D H2 ds, Nw H D → Ext T ms H H2 → Iv H2 → Ls H2 D ds → EachIs Rel ds (xs.filter p) → Q (.ref D) H2) : LcG J g tt te vs σ H Q := fun D hD => by
  have hDm : D ∉ ms := fun hm => by
    obtain ⟨ys, e⟩ := hL H h0 D hm
    rw [hD] at e
    cases e
  refine lc_it w (fun i H2 => Ext T ms H H2 ∧ Iv H2 ∧ ∃ ds, Ls H2 D ds ∧ EachIs Rel ds ((xs.take i).filter p)) ⟨.new hD, hI0 D _ hD, [], ⟨[], upd_same, .nil⟩, .nil⟩ (fun i H2 _ h => hG H2 h.1 h.2.1) (fun i x H1 H' hi h y => ?_) (fun H1 h => ?_)
  · obtain ⟨e1, e2⟩ := hY i H1 x H' y
    subst e1
    obtain ⟨h1, h2, ds, h3, h4⟩ := h
    have et : xs.take (i + 1) = xs.take i ++ [x] := by rw [List.take_add_one, e2]; rfl
    refine step i x e2 H' h1 h2 _ _ (fun hp v d H2 e i2 hv hr => ?_) (fun hp H2 e i2 => ?_)
    · have h3' := h3.ext e hDm (hL H' h2)
      obtain ⟨acc, h5, h6⟩ := h3'
      refine ⟨acc, h5, ?_, (h1.trans e).own (.of hD) h5, hI D H2 (.of hD) i2 acc _ h5, ds ++ [d], ⟨acc ++ [v], upd_same, ?_⟩, ?_⟩
      · refine Nat.lt_of_le_of_lt ?_ hl
        rw [h6.len, h4.length]
        exact Nat.le_trans (List.length_filter_le _ _) (by rw [List.length_take]; exact Nat.min_le_right _ _)
      · have eD : Ext T [D] H2 (upd H2 D (.lst (acc ++ [v]))) := Ext.mut (by simp) h5
        have hLD : Lsts H2 [D] := fun b hb => ⟨acc, by rw [List.mem_singleton.mp hb]; exact h5⟩
        exact (ImAll.ext eD hLD _ _ h6).snoc (Im.ext eD hLD _ _ hv)
      · rw [et, List.filter_append, List.filter_cons_of_pos hp]
        exact PySem.W.each_snoc hr h4
    · refine ⟨h1.trans e, i2, ds, h3.ext e hDm (hL H' h2), ?_⟩
      rw [et, List.filter_append, List.filter_cons_of_neg (by rw [hp]; decide), List.filter_nil, List.append_nil]
      exact h4
  · obtain ⟨h1, h2, ds, h3, h4⟩ := h
    rw [hn, List.take_length] at h4
    exact q D H1 ds (.of hD) h1 h2 h3 h4
end

open PySem PySem.Spec PyProof.Rows L2
/-! ### names are plain texts -/
theorem spl_cover : ∀ (l acc : List Nat) (c : Nat), c ∈ l → c = 46 ∨ ∃ p ∈ TL.spl [46] 0 acc l, c ∈ p
  | [], _, _, h => by cases h
  | d :: r, acc, c, h => by
    by_cases hd : d = 46
    · subst hd
      have e : TL.spl [46] 0 acc (46 :: r) = acc :: TL.spl [46] 0 [] r := by
        rw [TL.spl, if_pos (by rfl)]
        rfl
      rcases List.mem_cons.mp h with h | h
      · exact .inl h
      · rcases spl_cover r [] c h with h2 | ⟨p, h2, h3⟩
        · exact .inl h2
        · exact .inr ⟨p, by rw [e]; exact List.mem_cons_of_mem _ h2, h3⟩
    · have e : TL.spl [46] 0 acc (d :: r) = TL.spl [46] 0 (acc ++ [d]) r := by
        rw [TL.spl, if_neg]
        show ¬ (TL.pre [46] (d :: r) = true)
        unfold TL.pre
        simpa using hd
      rw [e]
      rcases List.mem_cons.mp h with h | h
      · refine .inr ?_
        subst h
        have key : ∀ (l acc : List Nat), c ∈ acc → ∃ p ∈ TL.spl [46] 0 acc l, c ∈ p := by
          intro l
          induction l with
          | nil => exact fun acc h => ⟨acc, List.mem_singleton.mpr rfl, h⟩
          | cons d r ih =>
            intro acc h
            by_cases hd : d = 46
            · subst hd
              have e : TL.spl [46] 0 acc (46 :: r) = acc :: TL.spl [46] 0 [] r := by
                rw [TL.spl, if_pos (by rfl)]
                rfl
              exact ⟨acc, by rw [e]; exact List.mem_cons_self, h⟩
            · have e : TL.spl [46] 0 acc (d :: r) = TL.spl [46] 0 (acc ++ [d]) r := by
                rw [TL.spl, if_neg]
                show ¬ (TL.pre [46] (d :: r) = true)
                unfold TL.pre
                simpa using hd
              rw [e]
              exact ih _ (List.mem_append_left _ h)
        exact key r _ (by simp)
      · exact spl_cover r _ c h
theorem label_mem {y : Str} (h : labelB y = true) {c : Nat} (hc : c ∈ sg y) : c ∈ sg lettersS := by
  unfold labelB wordB at h
  rw [Bool.and_eq_true, Bool.and_eq_true] at h
  exact of_decide_eq_true (List.all_eq_true.mp h.2.2 c hc)
theorem label_len {y : Str} (h : labelB y = true) : y.length ≤ 8 := by
  unfold labelB wordB at h
  rw [Bool.and_eq_true, Bool.and_eq_true] at h
  have := of_decide_eq_true h.2.1
  omega
theorem letters_lt : ∀ c ∈ sg lettersS, c < 128 := by decide +kernel
theorem name_parts {z : Str} (h : nameB z = true) : z = dotS ∨ ((partsL z).length ≤ 4 ∧ ∀ p ∈ partsL z, labelB p = true) := by
  unfold nameB at h
  rw [Bool.or_eq_true, Bool.and_eq_true] at h
  rcases h with h | ⟨h1, h2⟩
  · exact .inl (of_decide_eq_true h)
  · have := of_decide_eq_true h1
    exact .inr ⟨by omega, List.all_eq_true.mp h2⟩
theorem name_plain {z : Str} (h : nameB z = true) : ∀ c ∈ sg z, c < 128 := fun c hc => by
  rcases name_parts h with e | ⟨_, h2⟩
  · rw [e, sg_dot] at hc
    rw [List.mem_singleton.mp hc]
    decide
  · rcases spl_cover (sg z) [] c hc with e | ⟨p, hp, hcp⟩
    · rw [e]
      decide
    · rw [← parts_sg] at hp
      obtain ⟨y, hy, rfl⟩ := List.mem_map.mp hp
      exact letters_lt c (label_mem (h2 y hy) hcp)
theorem part_plain {z : Str} (h : nameB z = true) {y : Str} (hy : y ∈ partsL z) : ∀ c ∈ sg y, c < 128 := fun c hc => by
  rcases name_parts h with e | ⟨_, h2⟩
  · subst e
    have e2 : partsL dotS = [⟨#[]⟩, ⟨#[]⟩] := by decide +kernel
    rw [e2] at hy
    have : y = ⟨#[]⟩ := by simpa using hy
    subst this
    cases hc
  · exact letters_lt c (label_mem (h2 y hy) hc)
/-- the lengths of the parts together -/
theorem spl_sum : ∀ l acc : List Nat, ((TL.spl [46] 0 acc l).map List.length).sum ≤ acc.length + l.length
  | [], acc => by
    show ([acc].map List.length).sum ≤ _
    simp
  | c :: r, acc => by
    by_cases hd : c = 46
    · subst hd
      have e : TL.spl [46] 0 acc (46 :: r) = acc :: TL.spl [46] 0 [] r := by
        rw [TL.spl, if_pos (by rfl)]
        rfl
      have := spl_sum r []
      rw [e, List.map_cons, List.sum_cons]
      simp only [List.length_nil, List.length_cons] at this ⊢
      omega
    · have e : TL.spl [46] 0 acc (c :: r) = TL.spl [46] 0 (acc ++ [c]) r := by
        rw [TL.spl, if_neg]
        show ¬ (TL.pre [46] (c :: r) = true)
        unfold TL.pre
        simpa using hd
      have := spl_sum r (acc ++ [c])
      rw [e]
      simp only [List.length_append, List.length_cons, List.length_nil] at this ⊢
      omega
theorem parts_sum (z : Str) : ((partsL z).map (·.length)).sum ≤ z.length := by
  have h := spl_sum (sg z) []
  rw [← parts_sg, List.map_map] at h
  have e2 : List.map (List.length ∘ sg) (partsL z) = (partsL z).map (·.length) := List.map_congr_left fun y _ => sg_len y
  rw [e2, sg_len] at h
  simpa using h
theorem sum_drop (l : List Nat) (k : Nat) : (l.drop k).sum ≤ l.sum := by
  have h := congrArg List.sum (List.take_append_drop k l)
  rw [List.sum_append] at h
  omega
theorem cutV_strs (zs : List Str) {i : Int} (h0 : 0 ≤ i) : cutV (zs.map V.str) (some i) none = (zs.drop i.toNat).map V.str := by
  unfold cutV
  rw [HT.sIx_none, List.length_map]
  have e : HT.sIx zs.length 0 (some i) = min i.toNat zs.length := by
    obtain ⟨k, rfl⟩ := Int.eq_ofNat_of_zero_le h0
    exact HT.sIx_nat zs.length 0 k
  rw [e, ← List.map_drop, ← List.map_take, List.take_of_length_le (by rw [List.length_drop]; omega)]
  congr 1
  by_cases h : i.toNat ≤ zs.length
  · rw [Nat.min_eq_left h]
  · rw [Nat.min_eq_right (by omega), List.drop_length, List.drop_eq_nil_of_le (by omega)]

/-! ### texts that may stand in data -/
theorem plain_ok {z : Str} (h : ∀ c ∈ sg z, c < 128) : PyData.strOk z = true := by
  unfold PyData.strOk
  rw [← Array.all_toList, List.all_eq_true]
  intro c hc
  have := h c hc
  exact decide_eq_true (by omega)
theorem id_plain {y : Str} (h : idB y = true) : ∀ c ∈ sg y, c < 128 := fun c hc => by
  unfold idB wordB at h
  rw [Bool.and_eq_true, Bool.and_eq_true] at h
  exact letters_lt c (of_decide_eq_true (List.all_eq_true.mp h.2.2 c hc))
theorem id_ok {y : Str} (h : idB y = true) : PyData.strOk y = true := plain_ok (id_plain h)
theorem id_len {y : Str} (h : idB y = true) : y.length ≤ 4 := by
  unfold idB wordB at h
  rw [Bool.and_eq_true, Bool.and_eq_true] at h
  have := of_decide_eq_true h.2.1
  omega
theorem id_pos {y : Str} (h : idB y = true) : 1 ≤ y.length := by
  unfold idB wordB at h
  rw [Bool.and_eq_true] at h
  have := of_decide_eq_true h.1
  omega
theorem label_ok {y : Str} (h : labelB y = true) : PyData.strOk y = true := plain_ok fun c hc => letters_lt c (label_mem h hc)
theorem name_ok {y : Str} (h : nameB y = true) : PyData.strOk y = true := plain_ok (name_plain h)
theorem app_len (a b : Str) : (a ++ b).length = a.length + b.length := by rw [← sg_len, sg_app, List.length_append, sg_len, sg_len]
theorem dotS_len : dotS.length = 1 := by decide +kernel
/-- a word made of two -/
theorem word_app {a b : Str} {n m k : Int} (ha : wordB a lettersS n = true) (hb : wordB b lettersS m = true) (hk : n + m ≤ k) : wordB (a ++ b) lettersS k = true := by
  unfold wordB at ha hb ⊢
  rw [Bool.and_eq_true, Bool.and_eq_true] at ha hb ⊢
  have h1 := of_decide_eq_true ha.1
  have h2 := of_decide_eq_true ha.2.1
  have h3 := of_decide_eq_true hb.2.1
  rw [app_len, sg_app, List.all_append, Bool.and_eq_true]
  refine ⟨decide_eq_true ?_, decide_eq_true ?_, ha.2.2, hb.2.2⟩
  · have := of_decide_eq_true hb.1
    omega
  · omega
theorem word_mono {a : Str} {n k : Int} (ha : wordB a lettersS n = true) (hk : n ≤ k) : wordB a lettersS k = true := by
  unfold wordB at ha ⊢
  rw [Bool.and_eq_true, Bool.and_eq_true] at ha ⊢
  have h2 := of_decide_eq_true ha.2.1
  exact ⟨ha.1, decide_eq_true (by omega), ha.2.2⟩
/-! ### names joined of labels -/
theorem join_sg (ys : List Str) : sg (joinS ys) = TL.joinL [46] (ys.map sg) := by
  show sg (Txt.join dotS ys) = _
  rw [TL.join_eq, ← sg_dot]
  exact TL.tl_join dotS ys
theorem join_one (y : Str) : joinS [y] = y := sg_inj (by rw [join_sg]; rfl)
theorem join_cons (y : Str) {ys : List Str} (h : ys ≠ []) : joinS (y :: ys) = y ++ (dotS ++ joinS ys) := by
  refine sg_inj ?_
  rw [sg_app, sg_app, join_sg, join_sg, sg_dot]
  cases ys with
  | nil => exact absurd rfl h
  | cons z r => rfl
theorem str_assoc (a b c : Str) : (a ++ b) ++ c = a ++ (b ++ c) := sg_inj (by rw [sg_app, sg_app, sg_app, sg_app, List.append_assoc])
/-- a zone below the root -/
def zoneB (z : Str) : Prop := ∃ ys : List Str, z = joinS ys ∧ ys ≠ [] ∧ ys.length ≤ 3 ∧ ∀ y ∈ ys, labelB y = true
theorem zone_name {z : Str} (h : zoneB z) : nameB z = true := by
  obtain ⟨ys, rfl, h1, h2, h3⟩ := h
  exact name_join h1 (by omega) h3
theorem dot_name : nameB dotS = true := by decide +kernel
theorem zone_ne {z : Str} (h : zoneB z) : z ≠ dotS := fun e => by
  obtain ⟨ys, rfl, h1, h2, h3⟩ := h
  have e2 := parts_join h1 fun y hy => label_nodot (h3 y hy)
  rw [e] at e2
  have e3 : partsL dotS = [⟨#[]⟩, ⟨#[]⟩] := by decide +kernel
  rw [e3] at e2
  have := h3 ⟨#[]⟩ (by rw [← e2]; simp)
  exact absurd this (by decide +kernel)
theorem join_inj {ys zs : List Str} (h1 : ys ≠ []) (h2 : zs ≠ []) (h3 : ∀ y ∈ ys, labelB y = true) (h4 : ∀ y ∈ zs, labelB y = true) (e : joinS ys = joinS zs) : ys = zs := by
  have e1 := parts_join h1 fun y hy => label_nodot (h3 y hy)
  have e2 := parts_join h2 fun y hy => label_nodot (h4 y hy)
  rw [← e1, ← e2, e]
/-- a label put ahead of a zone, or alone -/
theorem name_cons {a z : Str} (ha : labelB a = true) (h : zoneB z) : nameB (a ++ (dotS ++ z)) = true := by
  obtain ⟨ys, rfl, h1, h2, h3⟩ := h
  rw [← join_cons a h1]
  refine name_join (by simp) (by rw [List.length_cons]; omega) fun y hy => ?_
  rcases List.mem_cons.mp hy with e | hy
  · rw [e]
    exact ha
  · exact h3 y hy
theorem label_name {a : Str} (ha : labelB a = true) : nameB a = true := by
  rw [← join_one a]
  exact name_join (by simp) (by simp) fun y hy => by rw [List.mem_singleton.mp hy]; exact ha
theorem name_len {z : Str} (h : nameB z = true) : z.length ≤ 40 := by
  rcases name_parts h with e | ⟨h1, h2⟩
  · rw [e, dotS_len]
    omega
  · have key : ∀ (l acc : List Nat) (B : Nat), (∀ p ∈ TL.spl [46] 0 acc l, p.length ≤ B) → acc.length + l.length ≤ (TL.spl [46] 0 acc l).length * (B + 1) - 1 ∧ 0 < (TL.spl [46] 0 acc l).length := by
      intro l
      induction l with
      | nil =>
        intro acc B h
        have := h acc (List.mem_singleton.mpr rfl)
        exact ⟨by show acc.length + 0 ≤ 1 * (B + 1) - 1; omega, Nat.one_pos⟩
      | cons c r ih =>
        intro acc B h
        by_cases hc : c = 46
        · subst hc
          have e : TL.spl [46] 0 acc (46 :: r) = acc :: TL.spl [46] 0 [] r := by
            rw [TL.spl, if_pos (by rfl)]
            rfl
          rw [e] at h ⊢
          have h1 := h acc List.mem_cons_self
          obtain ⟨h2, h3⟩ := ih [] B fun p hp => h p (List.mem_cons_of_mem _ hp)
          have h5 := Nat.mul_pos h3 (show 0 < B + 1 by omega)
          simp only [List.length_cons, List.length_nil] at h2 ⊢
          rw [Nat.succ_mul]
          omega
        · have e : TL.spl [46] 0 acc (c :: r) = TL.spl [46] 0 (acc ++ [c]) r := by
            rw [TL.spl, if_neg]
            show ¬ (TL.pre [46] (c :: r) = true)
            unfold TL.pre
            simpa using hc
          rw [e] at h ⊢
          obtain ⟨h2, h3⟩ := ih (acc ++ [c]) B h
          have h5 := Nat.mul_pos h3 (show 0 < B + 1 by omega)
          simp only [List.length_cons, List.length_append, List.length_nil] at h2 ⊢
          omega
    have hp : ∀ p ∈ TL.spl [46] 0 [] (sg z), p.length ≤ 8 := fun p hp => by
      rw [← parts_sg] at hp
      obtain ⟨y, hy, rfl⟩ := List.mem_map.mp hp
      rw [sg_len]
      exact label_len (h2 y hy)
    obtain ⟨h3, _⟩ := key (sg z) [] 8 hp
    have h4 : (TL.spl [46] 0 [] (sg z)).length ≤ 4 := by rw [← parts_sg, List.length_map]; exact h1
    rw [sg_len] at h3
    simp only [List.length_nil] at h3
    omega

open PySem PySem.Spec PyProof.Rows L2
open PySem.W (EachIs sort_maps dataLe dataLe_eq dataLt_pair dataLt_int dataLt_str AllAlike Sortable)
/-! ### the data of a realm, a state, a plan -/
def siD (p : Str × Int) : PyData := .tuple [.str p.1, .int p.2]
def ssD (p : Str × Str) : PyData := .tuple [.str p.1, .str p.2]
inductive Sl where
  | k (z : Str) | l (z : Str) | h (z : Str) | s (n k : Str)
  deriving DecidableEq
def slD : Sl → PyData
  | .k z => .tuple [.str "keys", .str z]
  | .l z => .tuple [.str "link", .str z]
  | .h z => .tuple [.str "hosts", .str z]
  | .s n k => .tuple [.str "set", .str n, .str k]
structure Itm where
  c : List Str
  li : Int
  g : List Str
  a : Int
  b : Int
def itD (i : Itm) : PyData := .tuple [.tuple (i.c.map .str), .int i.li, .tuple (i.g.map .str), .int i.a, .int i.b]
structure Rm where
  zs : List (Str × Int)
  an : List Str
  ss : List (Str × Str)
def rmD (r : Rm) : PyData := .tuple [.tuple (r.zs.map siD), .tuple (r.an.map .str), .tuple (r.ss.map ssD)]
def rowD2 (r : Sl × Itm) : PyData := .tuple [slD r.1, itD r.2]
structure Sta where
  its : List (Sl × Itm)
  on : List (Str × Str)
def stD (s : Sta) : PyData := .tuple [.tuple (s.its.map rowD2), .tuple (s.on.map ssD)]
inductive Dd where
  | put (s : Sl) (i : Itm) | on (x z : Str) | off (x z : Str)
def ddD : Dd → PyData
  | .put s i => .tuple [.str "put", slD s, itD i]
  | .on x z => .tuple [.str "on", .str x, .str z]
  | .off x z => .tuple [.str "off", .str x, .str z]
def plD (p : Int × Dd) : PyData := .tuple [.int p.1, ddD p.2]
theorem ssD_inj {a b : Str × Str} (h : ssD a = ssD b) : a = b := by
  obtain ⟨a1, a2⟩ := a
  obtain ⟨b1, b2⟩ := b
  unfold ssD at h
  injection h with h
  injection h with h1 h
  injection h with h2 _
  injection h1 with h1
  injection h2 with h2
  have h1 : a1 = b1 := h1
  have h2 : a2 = b2 := h2
  rw [h1, h2]
theorem slD_inj {a b : Sl} (h : slD a = slD b) : a = b := by
  have two : ∀ {u v x y : Str}, PyData.tuple [.str u, .str x] = PyData.tuple [.str v, .str y] → u = v ∧ x = y := by
    intro u v x y h
    injection h with h
    injection h with h1 h
    injection h with h2 _
    injection h1 with h1
    injection h2 with h2
    exact ⟨h1, h2⟩
  cases a <;> cases b <;> unfold slD at h <;> first
    | (cases (two h).2; rfl)
    | (exact absurd (two h).1 (by decide +kernel))
    | (injection h with h; injection h with _ h; injection h with h1 h; injection h with h2 _; injection h1 with h1; injection h2 with h2; rw [h1, h2])
    | (injection h with h; injection h with _ h; injection h with _ h; cases h)
theorem map_inj {α β : Type} {f : α → β} (hf : ∀ a b, f a = f b → a = b) : ∀ {xs ys : List α}, xs.map f = ys.map f → xs = ys
  | [], [], _ => rfl
  | [], _ :: _, h => by cases h
  | _ :: _, [], h => by cases h
  | x :: xs, y :: ys, h => by
    rw [List.map_cons, List.map_cons] at h
    injection h with h1 h2
    rw [hf _ _ h1, map_inj hf h2]
theorem strs_inj {xs ys : List Str} (h : xs.map PyData.str = ys.map PyData.str) : xs = ys := map_inj (fun _ _ e => by injection e) h
theorem itD_inj {a b : Itm} (h : itD a = itD b) : a = b := by
  obtain ⟨a1, a2, a3, a4, a5⟩ := a
  obtain ⟨b1, b2, b3, b4, b5⟩ := b
  unfold itD at h
  injection h with h
  injection h with h1 h
  injection h with h2 h
  injection h with h3 h
  injection h with h4 h
  injection h with h5 h
  injection h1 with h1
  injection h2 with h2
  injection h3 with h3
  injection h4 with h4
  injection h5 with h5
  have h1 : a1 = b1 := strs_inj h1
  have h2 : a2 = b2 := h2
  have h3 : a3 = b3 := strs_inj h3
  have h4 : a4 = b4 := h4
  have h5 : a5 = b5 := h5
  rw [h1, h2, h3, h4, h5]
theorem dep_strs0 : ∀ zs : List Str, PyData.depthAll (zs.map PyData.str) = 0
  | [] => rfl
  | z :: zs => by
    show max (PyData.depth (.str z)) (PyData.depthAll (zs.map PyData.str)) = 0
    rw [dep_strs0 zs]
    rfl
theorem dep_map {α : Type} {f : α → PyData} {n : Nat} (hf : ∀ a, (f a).depth ≤ n) : ∀ xs : List α, PyData.depthAll (xs.map f) ≤ n
  | [] => Nat.zero_le _
  | x :: xs => Nat.max_le.mpr ⟨hf x, dep_map hf xs⟩
theorem dep_ss (p : Str × Str) : (ssD p).depth ≤ 1 := by show 0 + 1 ≤ 1; omega
theorem dep_si (p : Str × Int) : (siD p).depth ≤ 1 := by show 0 + 1 ≤ 1; omega
theorem dep_sl (s : Sl) : (slD s).depth ≤ 1 := by cases s <;> (show 0 + 1 ≤ 1; omega)
theorem dep_it (i : Itm) : (itD i).depth ≤ 2 := by
  show max (PyData.depthAll (i.c.map .str) + 1) (max 0 (max (PyData.depthAll (i.g.map .str) + 1) (max 0 (max 0 0)))) + 1 ≤ 2
  rw [dep_strs0, dep_strs0]
  decide
/-! ### deeds done -/
def srtSS (l : List (Str × Str)) : List (Str × Str) := l.mergeSort fun a b => dataLe false id (ssD a) (ssD b)
theorem srtSS_eq (l : List (Str × Str)) : srtD (l.map ssD) = (srtSS l).map ssD := (sort_maps ssD fun _ _ _ _ => rfl).symm
def srtS (l : List Str) : List Str := l.mergeSort fun a b => dataLe false id (.str a) (.str b)
theorem srtS_eq (l : List Str) : srtD (l.map .str) = (srtS l).map .str := (sort_maps PyData.str fun _ _ _ _ => rfl).symm
theorem srtS_perm (l : List Str) : (srtS l).Perm l := List.mergeSort_perm _ _
theorem srtSS_perm (l : List (Str × Str)) : (srtSS l).Perm l := List.mergeSort_perm _ _
theorem alike_ss (l : List (Str × Str)) : AllAlike (l.map ssD) := fun d hd e he => by
  obtain ⟨y, _, rfl⟩ := List.mem_map.mp hd
  obtain ⟨z, _, rfl⟩ := List.mem_map.mp he
  rfl
theorem sortable_ss (l : List (Str × Str)) : Sortable (l.map ssD) := .inl fun d hd => by
  obtain ⟨y, _, rfl⟩ := List.mem_map.mp hd
  exact ⟨_, _, rfl⟩
theorem depth_ss (l : List (Str × Str)) : ∀ d ∈ l.map ssD, d.depth ≤ 60 := fun d hd => by
  obtain ⟨y, _, rfl⟩ := List.mem_map.mp hd
  exact Nat.le_trans (dep_ss y) (by decide)
theorem alike_s (l : List Str) : AllAlike (l.map PyData.str) := fun d hd e he => by
  obtain ⟨y, _, rfl⟩ := List.mem_map.mp hd
  obtain ⟨z, _, rfl⟩ := List.mem_map.mp he
  rfl
theorem sortable_s (l : List Str) : Sortable (l.map PyData.str) := .inr fun d hd => by
  obtain ⟨y, _, rfl⟩ := List.mem_map.mp hd
  exact ⟨fun h => (by cases h), fun _ h => (by cases h)⟩
theorem depth_s (l : List Str) : ∀ d ∈ l.map PyData.str, d.depth ≤ 60 := fun d hd => by
  obtain ⟨y, _, rfl⟩ := List.mem_map.mp hd
  show 0 ≤ 60
  decide
def aft (s : Sta) : Dd → Sta
  | .put sl i => ⟨s.its.map fun r => (r.1, if r.1 = sl then i else r.2), s.on⟩
  | .on x z => ⟨s.its, srtSS (s.on ++ [(x, z)])⟩
  | .off x z => ⟨s.its, s.on.filter fun p => !decide (p = (x, z))⟩
theorem aft_keys (s : Sta) (d : Dd) : (aft s d).its.map (·.1) = s.its.map (·.1) := by
  cases d with
  | put sl i =>
    show (s.its.map _).map _ = _
    rw [List.map_map]
    rfl
  | on x z => rfl
  | off x z => rfl

open PySem PySem.Spec PyProof.Rows L2
/-! ### what the drawing functions give -/
theorem nodup_len {α : Type} [DecidableEq α] : ∀ {l ys : List α}, l.Nodup → (∀ x ∈ l, x ∈ ys) → l.length ≤ ys.length
  | [], ys, _, _ => Nat.zero_le _
  | x :: l, ys, hn, h => by
    have hx := h x List.mem_cons_self
    have h1 := List.nodup_cons.mp hn
    have h2 := nodup_len (ys := ys.erase x) h1.2 fun y hy => (List.mem_erase_of_ne (fun e => h1.1 (by rw [← e]; exact hy))).mpr (h y (List.mem_cons_of_mem _ hy))
    rw [List.length_erase_of_mem hx] at h2
    have := List.length_pos_of_mem hx
    rw [List.length_cons]
    omega
theorem nodup_snoc {α : Type} {l : List α} {x : α} (h : l.Nodup) (hx : x ∉ l) : (l ++ [x]).Nodup := by
  rw [List.nodup_append]
  refine ⟨h, by simp, fun a ha b hb e => ?_⟩
  rw [List.mem_singleton.mp hb] at e
  rw [e] at ha
  exact hx ha
section
variable (T : List (Addr × Str))
def spId : Sp := fun vs H Q _ => ∃ (l t : Addr), vs = [.ref t] ∧ Tape l H t ∧ ∀ z H', idB z = true → Ext T [t] H H' → Tape l H' t → Q (.str z) H'
def spIds : Sp := fun vs H Q _ => ∃ (l t : Addr) (m : Int), vs = [.ref t, .int m] ∧ 0 ≤ m ∧ m ≤ 5 ∧ Tape l H t ∧
  ∀ (p : Addr) (ys : List Str) (H' : Hp), Nw H p → (ys.length : Int) = m → ys.Nodup → (∀ y ∈ ys, idB y = true) → H' p = some (.lst (ys.map V.str)) → Ext T [t] H H' → Tape l H' t → Q (.ref p) H'
def spLabel : Sp := fun vs H Q _ => ∃ (l t : Addr), vs = [.ref t] ∧ Tape l H t ∧ ∀ z H', labelB z = true → Ext T [t] H H' → Tape l H' t → Q (.str z) H'
def spLabels : Sp := fun vs H Q _ => ∃ (l t : Addr), vs = [.ref t] ∧ Tape l H t ∧
  ∀ (p : Addr) (ys : List Str) (a b c : Str) (H' : Hp), Nw H p → a ≠ b → a ≠ c → b ≠ c → (∀ y ∈ (a :: b :: c :: ys), labelB y = true) → ys.length ≤ 10 → H' p = some (.lst ((a :: b :: c :: ys).map V.str)) → Ext T [t] H H' → Tape l H' t → Q (.ref p) H'
/-- a number of a range drawn -/
def spInt (lo hi : Int) : Sp := fun vs H Q _ => ∃ (l t : Addr), vs = [.ref t] ∧ Tape l H t ∧ ∀ z H', lo ≤ z → z ≤ hi → Ext T [t] H H' → Tape l H' t → Q (.int z) H'
end
def qsL : List Str := ["q1", "q2", "q3", "q4", "q5"]
theorem qs_ok : ∀ y ∈ qsL, idB y = true := by decide +kernel
theorem qs_nodup : qsL.Nodup := by decide +kernel
open PySem PySem.Spec PyProof.Rows L2
/-! ### three labels -/
def ksL : List Str := ["k1", "k22", "k333", "k4"]
theorem ks_ok : ∀ y ∈ ksL, labelB y = true := by decide +kernel
/-- the text ends with this sign and a w -/
def EndW (c : Nat) (y : Str) : Prop := ∃ a, sg y = a ++ [c, 119]
theorem endW_inj {c d : Nat} {y : Str} (h1 : EndW c y) (h2 : EndW d y) : c = d := by
  obtain ⟨a, e1⟩ := h1
  obtain ⟨b, e2⟩ := h2
  rw [e1] at e2
  have e3 := congrArg List.reverse e2
  simp only [List.reverse_append, List.reverse_cons, List.reverse_nil, List.nil_append, List.cons_append] at e3
  injection e3 with _ e3
  injection e3 with e3 _
theorem endW_last {c : Nat} {y : Str} (h : EndW c y) : (sg y).getLast? = some 119 := by
  obtain ⟨a, e⟩ := h
  rw [e]
  simp
theorem k1_last : (sg "k1").getLast? = some 49 := by decide +kernel
theorem labels_shape {F fs : List Str} (hn : F.Nodup) (hl : ∀ y ∈ F, labelB y = true) (h4 : F.length + fs.length = 4) (hf : fs.Nodup) (hs : ∀ y ∈ fs, y ∈ F ∧ ∃ c, EndW c y) :
    ∃ a b c r, F ++ ksL = a :: b :: c :: r ∧ a ≠ b ∧ a ≠ c ∧ b ≠ c ∧ (∀ y ∈ (a :: b :: c :: r), labelB y = true) ∧ r.length ≤ 10 := by
  have hall : ∀ y ∈ F ++ ksL, labelB y = true := fun y hy => (List.mem_append.mp hy).elim (hl y) (ks_ok y)
  have hle := nodup_len hf fun y hy => (hs y hy).1
  match F, hn, hl, h4, hs, hle, hall with
  | [], _, _, h4, _, hle, _ => simp only [List.length_nil] at h4 hle; omega
  | [a], _, _, h4, _, hle, _ => simp only [List.length_cons, List.length_nil] at h4 hle; omega
  | [a, b], hn, _, h4, hs, _, hall =>
    have e2 : fs.length = 2 := by simp only [List.length_cons, List.length_nil] at h4; omega
    have hab : a ≠ b := fun e => by simp [e] at hn
    have hsub : ∀ y ∈ [a, b], y ∈ fs := by
      intro y hy
      refine Classical.byContradiction fun hno => ?_
      have h5 := nodup_len (ys := [a, b].erase y) hf fun z hz => (List.mem_erase_of_ne (fun e => hno (by rw [← e]; exact hz))).mpr (hs z hz).1
      rw [List.length_erase_of_mem hy, e2] at h5
      simp at h5
    have nk : ∀ y ∈ [a, b], y ≠ "k1" := fun y hy e => by
      obtain ⟨c, hc⟩ := (hs y (hsub y hy)).2
      have h6 := endW_last hc
      rw [e, k1_last] at h6
      cases h6
    exact ⟨a, b, "k1", ["k22", "k333", "k4"], rfl, hab, nk a (by simp), nk b (by simp), hall, by decide⟩
  | a :: b :: c :: r, hn, _, h4, _, _, hall =>
    refine ⟨a, b, c, r ++ ksL, rfl, fun e => ?_, fun e => ?_, fun e => ?_, hall, ?_⟩
    · simp [e] at hn
    · simp [e] at hn
    · simp [e] at hn
    · rw [List.length_append]
      simp only [List.length_cons] at h4
      show r.length + 4 ≤ 10
      omega
/-- the last eight signs of a word with two more -/
theorem cut8 (z : Str) (hz : 1 ≤ z.length) (hc : ∀ c ∈ sg z, c ∈ sg lettersS) : labelB (cutS z (some (-8)) none) = true ∧ (∀ c, EndW c z → EndW c (cutS z (some (-8)) none)) := by
  have e : sg (cutS z (some (-8)) none) = (sg z).drop (z.length - 8) := by
    unfold cutS
    have h : HT.sIx z.length 0 (some (-8)) = z.length - 8 := by
      unfold HT.sIx
      simp only []
      split <;> omega
    rw [h, HT.sIx_none]
    show (List.toArray _).toList = _
    rw [List.take_of_length_le]
    rw [List.length_drop, show z.cps.toList.length = z.length from sg_len z]
    omega
  have hl : (cutS z (some (-8)) none).length = z.length - (z.length - 8) := by
    rw [← sg_len, e, List.length_drop, sg_len]
  constructor
  · unfold labelB wordB
    rw [decide_eq_true (show (1 : Int) ≤ ((cutS z (some (-8)) none).length : Int) by omega), decide_eq_true (show ((cutS z (some (-8)) none).length : Int) ≤ 8 by omega), e]
    rw [List.all_eq_true.mpr fun c h => decide_eq_true (hc c (List.mem_of_mem_drop h))]
    rfl
  · rintro c ⟨a, ea⟩
    refine ⟨a.drop (z.length - 8), ?_⟩
    have h9 : z.length = a.length + 2 := by
      rw [← sg_len, ea, List.length_append]
      rfl
    rw [e, ea, List.drop_append_of_le_length (by omega)]
open PySem PySem.Spec PyProof.Rows L2
def xyzL : List Str := ["", "x", "y", "z"]
def xyzC : List Nat := [0, 120, 121, 122]
theorem xyz_len : ∀ y ∈ xyzL, y.length ≤ 1 := by decide +kernel
theorem xyz_let : ∀ y ∈ xyzL, ∀ c ∈ sg y, c ∈ sg lettersS := by decide +kernel
theorem w_let : ∀ c ∈ sg (Str.ofString "w"), c ∈ sg lettersS := by decide +kernel
theorem w_len : (Str.ofString "w").length = 1 := by decide +kernel
theorem w_sg : sg (Str.ofString "w") = [119] := by decide +kernel
theorem xyz_end {i : Nat} {y : Str} (h0 : i ≠ 0) (h : xyzL[i]? = some y) : ∃ c, xyzC[i]? = some c ∧ sg y = [c] := by
  match i, h0, h with
  | 0, h0, _ => exact absurd rfl h0
  | 1, _, h => exact ⟨120, rfl, by rw [← Option.some.inj h]; decide +kernel⟩
  | 2, _, h => exact ⟨121, rfl, by rw [← Option.some.inj h]; decide +kernel⟩
  | 3, _, h => exact ⟨122, rfl, by rw [← Option.some.inj h]; decide +kernel⟩
  | n + 4, _, h => cases h
theorem xyz_ne {i j c d : Nat} (h : j < i) (h1 : xyzC[j]? = some c) (h2 : xyzC[i]? = some d) : c ≠ d := fun e => by
  subst e
  have hn : xyzC.Nodup := by decide
  have e := (List.getElem?_inj (List.getElem?_eq_some_iff.mp h1).1 hn).mp (h1.trans h2.symm)
  omega
open PySem PySem.Spec PyProof.Rows L2
section
variable (T : List (Addr × Str))
def spZones : Sp := fun vs H Q _ => ∃ (l t : Addr) (m : Int), vs = [.ref t, .int m] ∧ 0 ≤ m ∧ m ≤ 5 ∧ Tape l H t ∧
  ∀ (p : Addr) (lag : Int) (rest : List (Str × Int)) (ns : List Str) (H' : Hp), Nw H p → rest.map (·.1) = srtS ns → ns.Nodup → (ns.length : Int) ≤ m → (∀ z ∈ ns, zoneB z) → (∀ r ∈ (dotS, lag) :: rest, 0 ≤ r.2 ∧ r.2 ≤ 100) → Ls H' p (((dotS, lag) :: rest).map siD) → Ext T [t] H H' → Tape l H' t → Q (.ref p) H'
end
/-- what a row of a zone is made of -/
def ZRel (d : PyData) (x : V) : Prop := ∃ (z : Str) (n : Int), x = .str z ∧ d = siD (z, n) ∧ 0 ≤ n ∧ n ≤ 100
theorem zrel_all : ∀ {ds : List PyData} {zs : List Str}, PySem.W.EachIs ZRel ds (zs.map V.str) → ∃ rest : List (Str × Int), ds = rest.map siD ∧ rest.map (·.1) = zs ∧ ∀ r ∈ rest, 0 ≤ r.2 ∧ r.2 ≤ 100
  | _, [], .nil => ⟨[], rfl, rfl, by simp⟩
  | _, z :: zs, .cons h t => by
    obtain ⟨rest, e1, e2, h3⟩ := zrel_all t
    obtain ⟨z', n, e3, e4, h4⟩ := h
    injection e3 with e3
    subst e3
    refine ⟨(z, n) :: rest, by rw [e4, e1]; rfl, by rw [List.map_cons, e2], fun r hr => ?_⟩
    rcases List.mem_cons.mp hr with e | hr
    · rw [e]
      exact h4
    · exact h3 r hr
/-- the six names that zones may have -/
def poolL (a b c : Str) : List Str := [a, b ++ dotS ++ a, c ++ dotS ++ b ++ dotS ++ a, b, c, c ++ dotS ++ a]
theorem pool_eq (a b c : Str) : poolL a b c = [joinS [a], joinS [b, a], joinS [c, b, a], joinS [b], joinS [c], joinS [c, a]] := by
  unfold poolL
  rw [join_cons c (ys := [b, a]) (by simp), join_cons b (ys := [a]) (by simp), join_cons c (ys := [a]) (by simp), join_one, join_one, join_one, str_assoc, str_assoc, str_assoc, str_assoc, str_assoc]
theorem pool_zone {a b c : Str} (h : ∀ y ∈ [a, b, c], labelB y = true) : ∀ z ∈ poolL a b c, zoneB z := by
  rw [pool_eq]
  have ha := h a (by simp)
  have hb := h b (by simp)
  have hc := h c (by simp)
  intro z hz
  simp only [List.mem_cons, List.not_mem_nil, or_false] at hz
  rcases hz with rfl | rfl | rfl | rfl | rfl | rfl
  all_goals refine ⟨_, rfl, by simp, by simp, ?_⟩
  all_goals
    intro y hy
    simp only [List.mem_cons, List.not_mem_nil, or_false] at hy
    first
      | (subst hy; assumption)
      | (rcases hy with rfl | rfl <;> assumption)
      | (rcases hy with rfl | rfl | rfl <;> assumption)
theorem pool_nodup {a b c : Str} (h : ∀ y ∈ [a, b, c], labelB y = true) (h1 : a ≠ b) (h2 : a ≠ c) (h3 : b ≠ c) : (poolL a b c).Nodup := by
  rw [pool_eq]
  have ha := h a (by simp)
  have hb := h b (by simp)
  have hc := h c (by simp)
  have hl : ∀ ys ∈ [[a], [b, a], [c, b, a], [b], [c], [c, a]], ys ≠ [] ∧ ∀ y ∈ ys, labelB y = true := by
    intro ys hy
    simp only [List.mem_cons, List.not_mem_nil, or_false] at hy
    rcases hy with rfl | rfl | rfl | rfl | rfl | rfl <;> simp [ha, hb, hc]
  have hn : [[a], [b, a], [c, b, a], [b], [c], [c, a]].Nodup := by
    simp [h1, h2, h3, h1.symm, h2.symm, h3.symm]
  have key : ∀ {L : List (List Str)}, (∀ ys ∈ L, ys ≠ [] ∧ ∀ y ∈ ys, labelB y = true) → L.Nodup → (L.map joinS).Nodup := by
    intro L
    induction L with
    | nil => intro _ _; simp
    | cons x L ih =>
      intro hL hn
      rw [List.map_cons, List.nodup_cons]
      have h4 := List.nodup_cons.mp hn
      refine ⟨fun hm => ?_, ih (fun ys hy => hL ys (List.mem_cons_of_mem _ hy)) h4.2⟩
      obtain ⟨y, hy, e⟩ := List.mem_map.mp hm
      have hx := hL x List.mem_cons_self
      have hy2 := hL y (List.mem_cons_of_mem _ hy)
      have := join_inj hy2.1 hx.1 hy2.2 hx.2 e
      rw [this] at hy
      exact h4.1 hy
  exact key hl hn
/-- a member of a list in place of what an index gives -/
theorem at_inV {xs : List V} {i : Int} (h0 : 0 ≤ i) (h : i < xs.length) : ∃ c, atI xs i = some c ∧ xs[i.toNat]? = some c := by
  obtain ⟨c, h1, h2, _⟩ := at_in h0 h
  exact ⟨c, h1, h2⟩

open PySem PySem.Spec PyProof.Rows L2
/-! ### a realm drawn -/
structure RmOk (R : Rm) (m : Int) : Prop where
  zs : ∃ (lag : Int) (rest : List (Str × Int)) (ns : List Str), R.zs = (dotS, lag) :: rest ∧ rest.map (·.1) = srtS ns ∧ ns.Nodup ∧ (ns.length : Int) ≤ m ∧ ∀ z ∈ ns, zoneB z
  lags : ∀ r ∈ R.zs, 0 ≤ r.2 ∧ r.2 ≤ 100
  ss : ∃ l, R.ss.Sublist (srtSS l)
  ssn : R.ss.Nodup
  ssok : ∀ p ∈ R.ss, nameB p.1 = true ∧ idB p.2 = true
  used : ∀ z ∈ R.zs, ∃ p ∈ R.ss, endsB p.1 z.1 = true
  slen : (R.ss.length : Int) ≤ m + 2
  an : ∃ ys, R.an = srtS ys ∧ ys.Nodup ∧ (∀ y ∈ ys, idB y = true) ∧ 1 ≤ ys.length ∧ ys.length ≤ 3
section
variable (T : List (Addr × Str))
def spRealm : Sp := fun vs H Q _ => ∃ (l t : Addr) (m : Int), vs = [.ref t, .int m] ∧ 0 ≤ m ∧ m ≤ 5 ∧ Tape l H t ∧ ∀ (v : V) (R : Rm) (H' : Hp), RmOk R m → Im H' v (rmD R) → Ext T [t] H H' → Tape l H' t → Q v H'
end
theorem rd_appLs {H : Hp} {Q : VK} {p : Addr} {ds : List PyData} {v : V} {d : PyData} (h : Ls H p ds) (hv : Im H v d) (c : ds.length < sizeLine) (q : ∀ xs, H p = some (.lst xs) → Ls (upd H p (.lst (xs ++ [v]))) p (ds ++ [d]) → Q .non (upd H p (.lst (xs ++ [v])))) : rAppend (.ref p) [v] H Q := by
  obtain ⟨xs, h1, h2⟩ := h
  refine rd_app h1 (by rw [h2.len]; exact c) (q xs h1 ⟨_, upd_same, ?_⟩)
  have e : Ext [] [p] H (upd H p (.lst (xs ++ [v]))) := Ext.mut (by simp) h1
  have hl : Lsts H [p] := fun b hb => ⟨xs, by rw [List.mem_singleton.mp hb]; exact h1⟩
  exact (ImAll.ext e hl _ _ h2).snoc (Im.ext e hl _ _ hv)
theorem Ls.list {H : Hp} {p : Addr} {ds : List PyData} (h : Ls H p ds) : ∃ xs, H p = some (.lst xs) ∧ ImAll H xs ds := h
theorem lsts_one {H : Hp} {p : Addr} {xs : List V} (h : H p = some (.lst xs)) : Lsts H [p] := fun b hb => ⟨xs, by rw [List.mem_singleton.mp hb]; exact h⟩
theorem Ls.new {H : Hp} {p q : Addr} {o : HO} {ds : List PyData} (h : Ls H p ds) (hq : H q = none) : Ls (upd H q o) p ds := h.ext (T := []) (ms := []) (.new hq) (by simp) Lsts.nil
theorem Im.new {H : Hp} {q : Addr} {o : HO} {v : V} {d : PyData} (h : Im H v d) (hq : H q = none) : Im (upd H q o) v d := Im.ext (T := []) (ms := []) (.new hq) Lsts.nil _ _ h
theorem ImAll.new {H : Hp} {q : Addr} {o : HO} {vs : List V} {ds : List PyData} (h : ImAll H vs ds) (hq : H q = none) : ImAll (upd H q o) vs ds := ImAll.ext (T := []) (ms := []) (.new hq) Lsts.nil _ _ h
theorem Ls.ne {H : Hp} {p q : Addr} {ds : List PyData} (h : Ls H p ds) (hq : H q = none) : p ≠ q := by
  obtain ⟨xs, h1, _⟩ := h
  exact (Nw.of hq).lst h1
theorem ends_self (n : Str) : endsB n n = true := by
  unfold endsB
  rw [decide_eq_true (show n = n from rfl)]
  simp
theorem ends_dot (n : Str) : endsB n dotS = true := by
  unfold endsB
  rw [decide_eq_true (show dotS = dotS from rfl)]
  rfl
theorem ends_app (a z : Str) : endsB (a ++ (dotS ++ z)) z = true := by
  unfold endsB
  rw [(endswith_iff _ _).mpr ⟨sg a, (sg_app a (dotS ++ z)).symm⟩]
  simp
theorem mem_ssD {r : Str × Str} {l : List (Str × Str)} : ssD r ∈ l.map ssD ↔ r ∈ l := by
  constructor
  · intro h
    obtain ⟨x, hx, e⟩ := List.mem_map.mp h
    rw [← ssD_inj e]
    exact hx
  · exact fun h => List.mem_map_of_mem h
theorem mem_slD {r : Sl} {l : List Sl} : slD r ∈ l.map slD ↔ r ∈ l := by
  constructor
  · intro h
    obtain ⟨x, hx, e⟩ := List.mem_map.mp h
    rw [← slD_inj e]
    exact hx
  · exact fun h => List.mem_map_of_mem h
open PySem PySem.Spec PyProof.Rows L2
theorem rd_ixLs {K : PySem.W.Frag} {H : Hp} {Q : VK} {p : Addr} {ds : List PyData} {i : Int} {d : PyData} (h : Ls H p ds) (a : atI ds i = some d) (q : ∀ u, Im H u d → Q u H) : rIx K (.ref p) (.int i) H Q := by
  obtain ⟨xs, h1, h2⟩ := h
  have key : ∃ u, atI xs i = some u ∧ Im H u d := by
    unfold atI at a ⊢
    cases e : ixN ds.length i with
    | none =>
      rw [e] at a
      cases a
    | some k =>
      rw [e] at a
      obtain ⟨u, e1, e2⟩ := h2.get (i := k) (by simpa using a)
      exact ⟨u, by rw [h2.len, e]; simpa using e1, e2⟩
  obtain ⟨u, h3, h4⟩ := key
  exact rd_ixL (SqL.of h1) h3 (q u h4)
theorem rd_ixSs {K : PySem.W.Frag} {H : Hp} {Q : VK} {v : V} {ds : List PyData} {i : Int} {z : Str} (h : Im H v (.tuple ds)) (a : atI ds i = some (.str z)) (q : Q (.str z) H) : rIx K v (.int i) H Q := rd_ixI h a fun u hu => by
  rw [hu.str']
  exact q
theorem last_map {α β : Type} {f : α → β} {l : List α} {x : α} (h : l.getLast? = some x) : atI (l.map f) (-1) = some (f x) := at_last (by rw [List.getLast?_map, h]; rfl)
theorem last_some {α : Type} {l : List α} (h : l ≠ []) : ∃ x, l.getLast? = some x ∧ x ∈ l := ⟨l.getLast h, List.getLast?_eq_some_getLast h, List.getLast_mem h⟩

open PySem PySem.Spec PyProof.Rows L2
open PySem.W (EachIs sort_maps dataLe AllAlike Sortable)
mutual
theorem Im.inj {H : Hp} : ∀ (d e : PyData) (v : V), Im H v d → Im H v e → d = e
  | .none, e, v, h1, h2 => by
    cases h1
    cases h2
    rfl
  | .bool _, e, v, h1, h2 => by cases h1
  | .list _, e, v, h1, h2 => by cases h1
  | .dict _, e, v, h1, h2 => by cases h1
  | .int i, e, v, h1, h2 => by
    cases h1
    cases h2
    rfl
  | .str x, e, v, h1, h2 => by
    cases h1
    cases h2
    rfl
  | .tuple ds, e, v, h1, h2 => by
    cases h1 with
    | tup a b =>
      cases h2 with
      | tup c d =>
        have e1 := a.symm.trans c
        injection e1 with e1
        injection e1 with e1
        subst e1
        rw [ImAll.inj ds _ _ b d]
theorem ImAll.inj {H : Hp} : ∀ (ds es : List PyData) (vs : List V), ImAll H vs ds → ImAll H vs es → ds = es
  | [], es, vs, h1, h2 => by
    cases h1
    cases h2
    rfl
  | d :: ds, es, vs, h1, h2 => by
    cases h1 with
    | cons a b =>
      cases h2 with
      | cons c d =>
        rw [Im.inj _ _ _ a c, ImAll.inj _ _ _ b d]
end
/-- a comprehension whose items are told by a relation that no heap changes -/
theorem lcg_rel (T : List (Addr × Str)) (ms : List Addr) {σ : L2.St} {H : Hp} {Q : VK} {J : It} {n : Nat} {G : Hp → Prop} {Y : Nat → Hp → V → Hp → Prop} {g : TG} {tt : TT} {te : TE} {vs : List Nat} (w : Walk J n G Y) (xs : List V) (hn : n = xs.length) (hY : ∀ i H x H', Y i H x H' → H' = H ∧ xs[i]? = some x)
    (hDm : ∀ D, H D = none → D ∉ ms) (hG : ∀ H', Ext T ms H H' → G H') (hl : xs.length < sizeLine) (p : V → Bool) (Rel : V → V → Prop)
    (step : ∀ (i : Nat) (x : V), xs[i]? = some x → ∀ H', Ext T ms H H' → ∀ (R : V → Hp → Prop) (S : Hp → Prop), (p x = true → ∀ v H2, Ext T ms H' H2 → Rel v x → R v H2) → (p x = false → ∀ H2, Ext T ms H' H2 → S H2) →
      g x (wipe σ vs) H' fun σ2 H2 => wipe σ2 vs = wipe σ vs ∧ tt σ2 H2 fun b H3 => if b = true then te σ2 H3 R else S H3)
    (q : ∀ D H2 ys, Nw H D → Ext T ms H H2 → H2 D = some (.lst ys) → EachIs Rel ys (xs.filter p) → Q (.ref D) H2) : LcG J g tt te vs σ H Q := fun D hD => by
  refine lc_it w (fun i H2 => Ext T ms H H2 ∧ ∃ ys, H2 D = some (.lst ys) ∧ EachIs Rel ys ((xs.take i).filter p)) ⟨.new hD, [], upd_same, .nil⟩ (fun i H2 _ h => hG H2 h.1) (fun i x H1 H' hi h y => ?_) (fun H1 h => ?_)
  · obtain ⟨e1, e2⟩ := hY i H1 x H' y
    subst e1
    obtain ⟨h1, ys, h3, h4⟩ := h
    have et : xs.take (i + 1) = xs.take i ++ [x] := by rw [List.take_add_one, e2]; rfl
    refine step i x e2 H' h1 _ _ (fun hp v H2 e hr => ?_) (fun hp H2 e => ?_)
    · have h5 := e.lst (hDm D hD) h3
      refine ⟨ys, h5, ?_, (h1.trans e).own (.of hD) h5, ys ++ [v], upd_same, ?_⟩
      · refine Nat.lt_of_le_of_lt ?_ hl
        rw [h4.length]
        exact Nat.le_trans (List.length_filter_le _ _) (by rw [List.length_take]; exact Nat.min_le_right _ _)
      · rw [et, List.filter_append, List.filter_cons_of_pos hp]
        exact PySem.W.each_snoc hr h4
    · refine ⟨h1.trans e, ys, e.lst (hDm D hD) h3, ?_⟩
      rw [et, List.filter_append, List.filter_cons_of_neg (by rw [hp]; decide), List.filter_nil, List.append_nil]
      exact h4
  · obtain ⟨h1, ys, h3, h4⟩ := h
    rw [hn, List.take_length] at h4
    exact q D H1 ys (.of hD) h1 h3 h4
/-! ### the law's chain, slots, home -/
def isD (p : Int × Str) : PyData := .tuple [.int p.1, .str p.2]
def onZ (n : Str) (z : Str × Int) : Bool := !decide (z.1 = dotS) && endsB n z.1
def chF (R : Rm) (n : Str) : List (Int × Str) := (0, dotS) :: ((R.zs.filter (onZ n)).map fun z => ((z.1.length : Int), z.1))
def srtIS (l : List (Int × Str)) : List (Int × Str) := l.mergeSort fun a b => dataLe false id (isD a) (isD b)
theorem srtIS_eq (l : List (Int × Str)) : srtD (l.map isD) = (srtIS l).map isD := (sort_maps isD fun _ _ _ _ => rfl).symm
theorem srtIS_perm (l : List (Int × Str)) : (srtIS l).Perm l := List.mergeSort_perm _ _
theorem alike_is (l : List (Int × Str)) : AllAlike (l.map isD) := fun d hd e he => by
  obtain ⟨y, _, rfl⟩ := List.mem_map.mp hd
  obtain ⟨z, _, rfl⟩ := List.mem_map.mp he
  rfl
theorem sortable_is (l : List (Int × Str)) : Sortable (l.map isD) := .inl fun d hd => by
  obtain ⟨y, _, rfl⟩ := List.mem_map.mp hd
  exact ⟨_, _, rfl⟩
theorem depth_is (l : List (Int × Str)) : ∀ d ∈ l.map isD, d.depth ≤ 60 := fun d hd => by
  obtain ⟨y, _, rfl⟩ := List.mem_map.mp hd
  show 0 + 1 ≤ 60
  omega
def chL (R : Rm) (n : Str) : List Str := (srtIS (chF R n)).map (·.2)
theorem chL_mem {R : Rm} {n z : Str} : z ∈ chL R n ↔ z = dotS ∨ ∃ y ∈ R.zs, onZ n y = true ∧ y.1 = z := by
  unfold chL
  rw [((srtIS_perm (chF R n)).map _).mem_iff]
  unfold chF
  simp only [List.map_cons, List.mem_cons, List.map_map, List.mem_map, List.mem_filter, Function.comp_apply]
  constructor
  · rintro (h | ⟨y, ⟨h1, h2⟩, h3⟩)
    · exact .inl h
    · exact .inr ⟨y, h1, h2, h3⟩
  · rintro (h | ⟨y, h1, h2, h3⟩)
    · exact .inl h
    · exact .inr ⟨y, ⟨h1, h2⟩, h3⟩
theorem chL_len (R : Rm) (n : Str) : (chL R n).length = 1 + (R.zs.filter (onZ n)).length := by
  unfold chL
  rw [List.length_map, (srtIS_perm (chF R n)).length_eq]
  unfold chF
  rw [List.length_cons, List.length_map]
  omega
def slotsR (R : Rm) : List Sl := (.k dotS :: R.zs.tail.flatMap fun z => [.k z.1, .l z.1, .h z.1]) ++ R.ss.map fun p => .s p.1 p.2
def homeR (R : Rm) : Sl → Str
  | .k z => z
  | .s n _ => (chL R n).getLast?.getD dotS
  | .l z => (chL R z).dropLast.getLast?.getD dotS
  | .h z => (chL R z).dropLast.getLast?.getD dotS
theorem at_last2 {α : Type} {l : List α} {v : α} (h : l.dropLast.getLast? = some v) : atI l (-2) = some v := by
  obtain ⟨r, e⟩ := List.getLast?_eq_some_iff.mp h
  have hl : l ≠ [] := fun z => by rw [z] at h; cases h
  have e2 := List.dropLast_concat_getLast hl
  rw [e] at e2
  obtain ⟨x, e3⟩ : ∃ x, l = r ++ [v, x] := ⟨l.getLast hl, by rw [List.append_assoc] at e2; exact e2.symm⟩
  rw [e3]
  unfold atI
  have h1 : ixN (r ++ [v, x]).length (-2) = some r.length := by
    unfold ixN
    rw [List.length_append]
    simp only [List.length_cons, List.length_nil]
    rw [if_neg (by decide), if_pos (by omega)]
    congr 1
    omega
  rw [h1]
  simp
theorem cutV_from {α : Type} (l : List V) {i : Int} (h0 : 0 ≤ i) : cutV l (some i) none = l.drop i.toNat := by
  unfold cutV
  rw [HT.sIx_none]
  have e : HT.sIx l.length 0 (some i) = min i.toNat l.length := by
    obtain ⟨k, rfl⟩ := Int.eq_ofNat_of_zero_le h0
    exact HT.sIx_nat l.length 0 k
  rw [e, List.take_of_length_le (by rw [List.length_drop]; omega)]
  by_cases h : i.toNat ≤ l.length
  · rw [Nat.min_eq_left h]
  · rw [Nat.min_eq_right (by omega), List.drop_length, List.drop_eq_nil_of_le (by omega)]
theorem cutV_to (l : List V) {i : Int} (h0 : 0 ≤ i) : cutV l none (some i) = l.take i.toNat := by
  unfold cutV
  have e0 : HT.sIx l.length 0 none = 0 := HT.sIx_none ..
  have e : HT.sIx l.length l.length (some i) = min i.toNat l.length := by
    obtain ⟨k, rfl⟩ := Int.eq_ofNat_of_zero_le h0
    exact HT.sIx_nat l.length l.length k
  rw [e0, e]
  show (l.drop 0).take (min i.toNat l.length - 0) = _
  rw [List.drop_zero, Nat.sub_zero]
  by_cases h : i.toNat ≤ l.length
  · rw [Nat.min_eq_left h]
  · rw [Nat.min_eq_right (by omega), List.take_length, List.take_of_length_le (by omega)]
/-- a realm as the drawing functions read it -/
structure RmIn (R : Rm) : Prop where
  ne : ∃ lag rest, R.zs = (dotS, lag) :: rest ∧ ∀ r ∈ rest, r.1 ≠ dotS
  len : R.zs.length ≤ 6
  nm : ∀ z ∈ R.zs, nameB z.1 = true
  nd : (R.zs.map (·.1)).Nodup
  sok : ∀ p ∈ R.ss, nameB p.1 = true ∧ idB p.2 = true
  sn : R.ss.Nodup
  slen : R.ss.length ≤ 7
  an : ∃ a r, R.an = a :: r ∧ idB a = true
section
variable (T : List (Addr × Str))
def spChainL : Sp := fun vs H Q _ => ∃ (v : V) (R : Rm) (n : Str), vs = [v, .str n] ∧ Im H v (rmD R) ∧ RmIn R ∧ nameB n = true ∧ ∀ (p : Addr) (H' : Hp), Nw H p → Ext T [] H H' → H' p = some (.lst ((chL R n).map V.str)) → Q (.ref p) H'
def spSlots : Sp := fun vs H Q _ => ∃ (v : V) (R : Rm), vs = [v] ∧ Im H v (rmD R) ∧ RmIn R ∧ ∀ (p : Addr) (H' : Hp), Nw H p → Ext T [] H H' → Ls H' p ((slotsR R).map slD) → Q (.ref p) H'
def spHome : Sp := fun vs H Q _ => ∃ (v u : V) (R : Rm) (s : Sl), vs = [v, u] ∧ Im H v (rmD R) ∧ Im H u (slD s) ∧ RmIn R ∧ s ∈ slotsR R ∧ ∀ (H' : Hp), Ext T [] H H' → homeR R s ∈ R.zs.map (·.1) → Q (.str (homeR R s)) H'
end
theorem RmOk.rin {R : Rm} {m : Int} (h : RmOk R m) (hm : m ≤ 5) : RmIn R := by
  obtain ⟨lag, rest, ns, e1, e2, e3, e4, e5⟩ := h.zs
  have hmem : ∀ z, z ∈ rest.map (·.1) ↔ z ∈ ns := fun z => by rw [e2]; exact (srtS_perm ns).mem_iff
  have hr : ∀ r ∈ rest, zoneB r.1 := fun r hr => e5 _ ((hmem _).mp (List.mem_map_of_mem hr))
  have hlen : rest.length = ns.length := by
    have := congrArg List.length e2
    rw [List.length_map, (srtS_perm ns).length_eq] at this
    exact this
  refine ⟨⟨lag, rest, e1, fun r hr' => zone_ne (hr r hr')⟩, ?_, fun z hz => ?_, ?_, h.ssok, h.ssn, ?_, ?_⟩
  · rw [e1, List.length_cons]
    omega
  · rw [e1] at hz
    rcases List.mem_cons.mp hz with e | hz
    · rw [e]
      exact dot_name
    · exact zone_name (hr z hz)
  · rw [e1, List.map_cons, List.nodup_cons, e2]
    refine ⟨fun hd => ?_, (srtS_perm ns).nodup_iff.mpr e3⟩
    exact zone_ne (e5 _ ((srtS_perm ns).mem_iff.mp hd)) rfl
  · have := h.slen
    omega
  · obtain ⟨ys, h1, h2, h3, h4, h5⟩ := h.an
    cases e : srtS ys with
    | nil =>
      have := (srtS_perm ys).length_eq
      rw [e] at this
      simp only [List.length_nil] at this
      omega
    | cons a r =>
      exact ⟨a, r, by rw [h1, e], h3 a ((srtS_perm ys).mem_iff.mp (by rw [e]; simp))⟩

open PySem PySem.Spec PyProof.Rows L2
open PySem.W (EachIs)
/-! ### the keys of the zones: a list of pairs whose seconds are lists -/
def PoolRow (H : Hp) (ms : List Addr) (v : V) (r : Str × List Str) : Prop := ∃ ta pa, v = .ref ta ∧ H ta = some (.tup [.str r.1, .ref pa]) ∧ H pa = some (.lst (r.2.map V.str)) ∧ pa ∉ ms
def Pools (H : Hp) (t a : Addr) (ps : List (Str × List Str)) : Prop := ∃ xs, H a = some (.lst xs) ∧ a ≠ t ∧ EachIs (PoolRow H [t]) xs ps
theorem PoolRow.ext {T : List (Addr × Str)} {ms ms' : List Addr} {H H' : Hp} {v : V} {r : Str × List Str} (h : PoolRow H ms v r) (e : Ext T ms' H H') (hs : ∀ b ∈ ms', b ∈ ms) (hl : Lsts H ms') : PoolRow H' ms v r := by
  obtain ⟨ta, pa, e1, e2, e3, e4⟩ := h
  exact ⟨ta, pa, e1, SqP.ext (xs := [.str r.1, .ref pa]) e2 e hl, e.lst (fun hb => e4 (hs _ hb)) e3, e4⟩
theorem rows_ext {T : List (Addr × Str)} {ms ms' : List Addr} {H H' : Hp} {xs : List V} {ps : List (Str × List Str)} (h : EachIs (PoolRow H ms) xs ps) (e : Ext T ms' H H') (hs : ∀ b ∈ ms', b ∈ ms) (hl : Lsts H ms') : EachIs (PoolRow H' ms) xs ps := h.mono fun _ _ x => x.ext e hs hl
theorem rows_weak {ms ms' : List Addr} {H : Hp} {xs : List V} {ps : List (Str × List Str)} (h : EachIs (PoolRow H ms) xs ps) (hs : ∀ b ∈ ms', b ∈ ms) : EachIs (PoolRow H ms') xs ps := h.mono fun _ _ ⟨ta, pa, e1, e2, e3, e4⟩ => ⟨ta, pa, e1, e2, e3, fun hb => e4 (hs _ hb)⟩
theorem Pools.ext {T : List (Addr × Str)} {H H' : Hp} {l t a : Addr} {ps : List (Str × List Str)} (h : Pools H t a ps) (e : Ext T [t] H H') (hT : Tape l H t) : Pools H' t a ps := by
  obtain ⟨xs, h1, h2, h3⟩ := h
  exact ⟨xs, e.lst (by simpa using h2) h1, h2, rows_ext h3 e (fun _ h => h) hT.lsts⟩
theorem Pools.new {H : Hp} {t a q : Addr} {o : HO} {ps : List (Str × List Str)} (h : Pools H t a ps) (hq : H q = none) : Pools (upd H q o) t a ps := by
  obtain ⟨xs, h1, h2, h3⟩ := h
  have e : Ext [] [] H (upd H q o) := .new hq
  exact ⟨xs, e.lst (by simp) h1, h2, rows_ext h3 e (by simp) Lsts.nil⟩
theorem Pools.ext0 {T : List (Addr × Str)} {H H' : Hp} {t a : Addr} {ps : List (Str × List Str)} (h : Pools H t a ps) (e : Ext T [] H H') : Pools H' t a ps := by
  obtain ⟨xs, h1, h2, h3⟩ := h
  exact ⟨xs, e.lst (by simp) h1, h2, rows_ext h3 e (by simp) Lsts.nil⟩
structure PsOk (R : Rm) (ps : List (Str × List Str)) : Prop where
  nm : ps.map (·.1) = R.zs.map (·.1)
  nd : ∀ p ∈ ps, p.2.Nodup
  ok : ∀ p ∈ ps, ∀ y ∈ p.2, idB y = true
  len : ∀ p ∈ ps, p.2.length = 3
structure ItmOk (s : Sl) (i : Itm) : Prop where
  c : ∃ cs : List Str, i.c = srtS cs ∧ cs.Nodup ∧ (∀ y ∈ cs, idB y = true) ∧ cs.length ≤ 4
  g : ∃ gs : List Str, i.g = srtS gs ∧ gs.Nodup ∧ (∀ y ∈ gs, idB y = true) ∧ gs.length ≤ 3
  li : 1 ≤ i.li ∧ i.li ≤ 1000
  ab : 0 ≤ i.a ∧ i.a ≤ i.b ∧ i.b ≤ 10000
  h : ∀ z, s = .h z → i.g = [] ∧ i.a = 0 ∧ i.b = 10000
section
variable (T : List (Addr × Str))
def spPools : Sp := fun vs H Q _ => ∃ (l t : Addr) (v : V) (R : Rm), vs = [.ref t, v] ∧ Tape l H t ∧ Im H v (rmD R) ∧ RmIn R ∧ ∀ (a : Addr) (ps : List (Str × List Str)) (H' : Hp), Nw H a → Pools H' t a ps → PsOk R ps → Ext T [t] H H' → Tape l H' t → Q (.ref a) H'
def spPool : Sp := fun vs H Q _ => ∃ (t a : Addr) (ps : List (Str × List Str)) (z : Str) (ks : List Str), vs = [.ref a, .str z] ∧ Pools H t a ps ∧ ps.length ≤ 6 ∧ (ps.map (·.1)).Nodup ∧ (z, ks) ∈ ps ∧
  ∀ (pa : Addr) (H' : Hp), pa ≠ t → H pa = some (.lst (ks.map V.str)) → Ext T [] H H' → Q (.ref pa) H'
def spItem : Sp := fun vs H Q _ => ∃ (ca sa : Addr) (cs gs : List Str) (li : Int), vs = [.ref ca, .int li, .ref sa] ∧ H ca = some (.lst (cs.map V.str)) ∧ H sa = some (.lst (gs.map V.str)) ∧ (∀ y ∈ cs, idB y = true) ∧ (∀ y ∈ gs, idB y = true) ∧
  ∀ (v : V) (H' : Hp), Ext T [] H H' → Im H' v (itD ⟨srtS cs, li, srtS gs, 0, 10000⟩) → Q v H'
def spFirst : Sp := fun vs H Q _ => ∃ (l t pa : Addr) (v u : V) (R : Rm) (ps : List (Str × List Str)) (s : Sl), vs = [.ref t, v, .ref pa, u] ∧ Tape l H t ∧ Im H v (rmD R) ∧ RmIn R ∧ Pools H t pa ps ∧ PsOk R ps ∧ Im H u (slD s) ∧ s ∈ slotsR R ∧
  ∀ (x : V) (i : Itm) (H' : Hp), ItmOk s i → Im H' x (itD i) → Ext T [t] H H' → Tape l H' t → Q x H'
end
theorem filter_key {ps : List (Str × List Str)} {z : Str} {ks : List Str} (hn : (ps.map (·.1)).Nodup) (hm : (z, ks) ∈ ps) : ps.filter (fun p => decide (p.1 = z)) = [(z, ks)] := by
  induction ps with
  | nil => cases hm
  | cons p ps ih =>
    rw [List.map_cons, List.nodup_cons] at hn
    rcases List.mem_cons.mp hm with e | hm
    · subst e
      rw [List.filter_cons_of_pos (by simp), List.filter_eq_nil_iff.mpr]
      intro y hy h
      have h2 : y.1 = z := of_decide_eq_true h
      exact hn.1 (List.mem_map.mpr ⟨y, hy, h2⟩)
    · rw [List.filter_cons_of_neg, ih hn.2 hm]
      intro h
      have h2 : p.1 = z := of_decide_eq_true h
      exact hn.1 (List.mem_map.mpr ⟨_, hm, h2.symm⟩)
theorem filter_others {ks : List Str} {a : Str} (hn : ks.Nodup) : ks.length ≤ (ks.filter fun k => !decide (k = a)).length + 1 := by
  induction ks with
  | nil => simp
  | cons k ks ih =>
    rw [List.nodup_cons] at hn
    by_cases h : k = a
    · rw [List.filter_cons_of_neg (by simp [h])]
      have : ks.filter (fun k => !decide (k = a)) = ks := List.filter_eq_self.mpr fun x hx => by
        simp only [Bool.not_eq_true', decide_eq_false_iff_not]
        intro e
        rw [← h] at e
        rw [e] at hx
        exact hn.1 hx
      rw [this]
      simp
    · rw [List.filter_cons_of_pos (by simp [h])]
      have := ih hn.2
      simp only [List.length_cons]
      omega

open PySem PySem.Spec PyProof.Rows L2
open PySem.W (EachIs)
/-! ### what is made new, the heap told by what it keeps -/
section
variable {T : List (Addr × Str)} {H H' : Hp}
theorem Im.x {v : V} {d : PyData} (h : Im H v d) (e : Ext T [] H H') : Im H' v d := Im.ext e Lsts.nil _ _ h
theorem ImAll.x {vs : List V} {ds : List PyData} (h : ImAll H vs ds) (e : Ext T [] H H') : ImAll H' vs ds := ImAll.ext e Lsts.nil _ _ h
theorem Ls.x {a : Addr} {ds : List PyData} (h : Ls H a ds) (e : Ext T [] H H') : Ls H' a ds := h.ext e (by simp) Lsts.nil
theorem SqP.x {a : Addr} {xs : List V} (h : SqP H a xs) (e : Ext T [] H H') : SqP H' a xs := SqP.ext h e Lsts.nil
theorem lst.x {a : Addr} {xs : List V} (h : H a = some (.lst xs)) (e : Ext T [] H H') : H' a = some (.lst xs) := e.lst (by simp) h
theorem Im.y {l t : Addr} {v : V} {d : PyData} (h : Im H v d) (e : Ext T [t] H H') (hT : Tape l H t) : Im H' v d := Im.ext e hT.lsts _ _ h
theorem ImAll.y {l t : Addr} {vs : List V} {ds : List PyData} (h : ImAll H vs ds) (e : Ext T [t] H H') (hT : Tape l H t) : ImAll H' vs ds := ImAll.ext e hT.lsts _ _ h
theorem Ls.y {l t a : Addr} {ds : List PyData} (h : Ls H a ds) (e : Ext T [t] H H') (ha : a ≠ t) (hT : Tape l H t) : Ls H' a ds := h.ext e (by simpa using ha) hT.lsts
theorem lst.y {t a : Addr} {xs : List V} (h : H a = some (.lst xs)) (e : Ext T [t] H H') (ha : a ≠ t) : H' a = some (.lst xs) := e.lst (by simpa using ha) h
end
section
variable (T : List (Addr × Str)) {K : PySem.W.Frag} {H : Hp} {Q : VK}
theorem allocT {xs : List V} (hl : xs.length ≤ 1000) (q : ∀ p H', Nw H p → Ext T [] H H' → H' p = some (.tup xs) → Q (.ref p) H') : xs.length ≤ sizeLine ∧ ∀ p, H p = none → Q (.ref p) (upd H p (.tup xs)) :=
  ⟨Nat.le_trans hl (by decide), fun p hp => q p _ (.of hp) (.new hp) upd_same⟩
theorem allocL {xs : List V} (hl : xs.length ≤ 1000) (q : ∀ p H', Nw H p → Ext T [] H H' → H' p = some (.lst xs) → Q (.ref p) H') : xs.length ≤ sizeLine ∧ ∀ p, H p = none → Q (.ref p) (upd H p (.lst xs)) :=
  ⟨Nat.le_trans hl (by decide), fun p hp => q p _ (.of hp) (.new hp) upd_same⟩
theorem rd_takeS {a : Addr} {zs : List Str} {i : Int} (h : H a = some (.lst (zs.map V.str))) (h0 : 0 ≤ i) (q : ∀ p H', Nw H p → Ext T [] H H' → H' p = some (.lst ((zs.take i.toNat).map V.str)) → Q (.ref p) H') : rSlU K (.ref a) none (some i) H Q :=
  rd_slL (SqL.of h) fun p hp => q p _ (.of hp) (.new hp) (by rw [cutV_to _ h0, ← List.map_take]; exact upd_same)
theorem rd_dropS {a : Addr} {zs : List Str} {i : Int} (h : H a = some (.lst (zs.map V.str))) (h0 : 0 ≤ i) (q : ∀ p H', Nw H p → Ext T [] H H' → H' p = some (.lst ((zs.drop i.toNat).map V.str)) → Q (.ref p) H') : rSlU K (.ref a) (some i) none H Q :=
  rd_slL (SqL.of h) fun p hp => q p _ (.of hp) (.new hp) (by rw [cutV_from (α := V) _ h0, ← List.map_drop]; exact upd_same)
theorem rd_tupA {p : Addr} {ys : List V} (h : H p = some (.lst ys)) (q : ∀ l H', Nw H l → Ext T [] H H' → H' l = some (.tup ys) → Q (.ref l) H') : rTupOf K [.ref p] H Q := rd_tupL (SqL.of h) fun l hl => q l _ (.of hl) (.new hl) upd_same
theorem rd_tupFA {p : Addr} {ys : List V} (h : H p = some (.lst ys)) (q : ∀ l H' o, Nw H l → Ext T [] H H' → o.dict = none → H' l = some (.frz o (.tup ys)) → Q (.ref l) H') : rTupF K [.ref p] H Q := rd_tupF (SqL.of h) fun l o hl ho => q l _ o (.of hl) (.new hl) ho upd_same
theorem rd_listA {p : Addr} {ys : List V} (h : SqT K H p ys) (q : ∀ l H', Nw H l → Ext T [] H H' → H' l = some (.lst ys) → Q (.ref l) H') : rListOf K [.ref p] H Q := rd_listT h fun l hl => q l _ (.of hl) (.new hl) upd_same
theorem rd_catA {a b : Addr} {xs ys : List V} (h1 : H a = some (.lst xs)) (h2 : H b = some (.lst ys)) (c : xs.length + ys.length ≤ 1000) (q : ∀ p H', Nw H p → Ext T [] H H' → H' p = some (.lst (xs ++ ys)) → Q (.ref p) H') : rPlus K (.ref a) (.ref b) H Q :=
  rd_cat h1 h2 (Nat.le_trans c (by decide)) fun p hp => q p _ (.of hp) (.new hp) upd_same
theorem rd_sortA {a : Addr} {ds : List PyData} (h : Ls H a ds) (h1 : PySem.W.AllAlike ds) (h2 : PySem.W.Sortable ds) (h3 : ∀ d ∈ ds, d.depth ≤ 60) (q : ∀ p H' ys, Nw H p → Ext T [] H H' → H' p = some (.lst ys) → ImAll H' ys (srtD ds) → Q (.ref p) H') : rSortD K [.ref a] H Q :=
  rd_sortI h h1 h2 h3 fun p ys hp hy => q p _ ys (.of hp) (.new hp) upd_same (hy.new hp)
end
/-! ### a state: its items' tuple is a plain one -/
def StAt (H : Hp) (v : V) (s : Sta) : Prop := ∃ (a ia : Addr) (oa : V) (xs : List V) (o : Obj), v = .ref a ∧ H a = some (.tup [.ref ia, oa]) ∧ H ia = some (.frz o (.tup xs)) ∧ o.dict = none ∧ ImAll H xs (s.its.map rowD2) ∧ Im H oa (.tuple (s.on.map ssD))
theorem StAt.ext {T : List (Addr × Str)} {ms : List Addr} {H H' : Hp} {v : V} {s : Sta} (h : StAt H v s) (e : Ext T ms H H') (hm : Lsts H ms) : StAt H' v s := by
  obtain ⟨a, ia, oa, xs, o, e1, e2, e3, e4, e5, e6⟩ := h
  refine ⟨a, ia, oa, xs, o, e1, SqP.ext (xs := [.ref ia, oa]) e2 e hm, e.keep ia _ (fun hb => ?_) (fun _ z => by cases z) e3, e4, ImAll.ext e hm _ _ e5, Im.ext e hm _ _ e6⟩
  obtain ⟨ys, hy⟩ := hm ia hb
  rw [e3] at hy
  cases hy
theorem StAt.x {T : List (Addr × Str)} {H H' : Hp} {v : V} {s : Sta} (h : StAt H v s) (e : Ext T [] H H') : StAt H' v s := h.ext e Lsts.nil
theorem StAt.y {T : List (Addr × Str)} {H H' : Hp} {l t : Addr} {v : V} {s : Sta} (h : StAt H v s) (e : Ext T [t] H H') (hT : Tape l H t) : StAt H' v s := h.ext e hT.lsts
structure StaOk (R : Rm) (s : Sta) : Prop where
  nm : s.its.map (·.1) = slotsR R
  ok : ∀ r ∈ s.its, ItmOk r.1 r.2
  on : s.on.length ≤ 100
section
variable (T : List (Addr × Str))
def spStart : Sp := fun vs H Q _ => ∃ (l t pa : Addr) (v : V) (R : Rm) (ps : List (Str × List Str)), vs = [.ref t, v, .ref pa] ∧ Tape l H t ∧ Im H v (rmD R) ∧ RmIn R ∧ Pools H t pa ps ∧ PsOk R ps ∧
  ∀ (x : V) (s : Sta) (H' : Hp), StaOk R s → s.on.length ≤ 20 → StAt H' x s → Ext T [t] H H' → Tape l H' t → Q x H'
def spAt : Sp := fun vs H Q _ => ∃ (v u : V) (s : Sta) (sl : Sl) (i : Itm), vs = [v, u] ∧ StAt H v s ∧ Im H u (slD sl) ∧ (sl, i) ∈ s.its ∧ (s.its.map (·.1)).Nodup ∧ s.its.length ≤ 100 ∧ ∀ (x : V) (H' : Hp), Ext T [] H H' → Im H' x (itD i) → Q x H'
def spAfter : Sp := fun vs H Q _ => ∃ (v u : V) (s : Sta) (d : Dd), vs = [v, u] ∧ StAt H v s ∧ Im H u (ddD d) ∧ s.its.length ≤ 100 ∧ s.on.length ≤ 500 ∧ ∀ (x : V) (H' : Hp), Ext T [] H H' → StAt H' x (aft s d) → Q x H'
end
theorem nodup_mapI {α β : Type} {f : α → β} (hf : ∀ a b, f a = f b → a = b) : ∀ {l : List α}, l.Nodup → (l.map f).Nodup
  | [], _ => by simp
  | x :: l, h => by
    rw [List.nodup_cons] at h
    rw [List.map_cons, List.nodup_cons]
    refine ⟨fun hm => ?_, nodup_mapI hf h.2⟩
    obtain ⟨y, hy, e⟩ := List.mem_map.mp hm
    rw [hf _ _ e] at hy
    exact h.1 hy
theorem slots_nodup {R : Rm} (h : RmIn R) : (slotsR R).Nodup := by
  unfold slotsR
  obtain ⟨lag, rest, e, hr⟩ := h.ne
  have hnd := h.nd
  rw [e, List.map_cons, List.nodup_cons] at hnd
  have ht : R.zs.tail = rest := by rw [e]; rfl
  rw [ht, List.nodup_append]
  refine ⟨?_, ?_, ?_⟩
  · rw [List.nodup_cons]
    refine ⟨fun hm => ?_, ?_⟩
    · obtain ⟨y, hy, h2⟩ := List.mem_flatMap.mp hm
      simp only [List.mem_cons, List.not_mem_nil, or_false, Sl.k.injEq, reduceCtorEq] at h2
      exact hr y hy h2.symm
    · have key : ∀ {rest : List (Str × Int)}, (rest.map (·.1)).Nodup → (rest.flatMap fun z => [Sl.k z.1, .l z.1, .h z.1]).Nodup := by
        intro rest
        induction rest with
        | nil => intro _; simp
        | cons z rest ih =>
          intro hn
          rw [List.map_cons, List.nodup_cons] at hn
          rw [List.flatMap_cons, List.nodup_append]
          refine ⟨by simp, ih hn.2, fun a ha b hb e => ?_⟩
          subst e
          obtain ⟨y, hy, h2⟩ := List.mem_flatMap.mp hb
          have : z.1 = y.1 := by
            simp only [List.mem_cons, List.not_mem_nil, or_false] at ha h2
            rcases ha with rfl | rfl | rfl <;> simp at h2 <;> exact h2
          exact hn.1 (by rw [this]; exact List.mem_map_of_mem hy)
      exact key hnd.2
  · exact nodup_mapI (fun a b h => by
      injection h with h1 h2
      exact Prod.ext h1 h2) h.sn
  · intro a ha b hb e
    subst e
    obtain ⟨p, _, rfl⟩ := List.mem_map.mp hb
    rcases List.mem_cons.mp ha with h2 | h2
    · cases h2
    · obtain ⟨y, _, h3⟩ := List.mem_flatMap.mp h2
      simp at h3
open PySem PySem.Spec PyProof.Rows L2
/-- an object made at p: what the new heap keeps -/
theorem alL {T : List (Addr × Str)} {H : Hp} {p : Addr} (h : H p = none) (xs : List V) : Nw H p ∧ Ext T [] H (upd H p (.lst xs)) ∧ (upd H p (.lst xs)) p = some (.lst xs) := ⟨.of h, .new h, upd_same⟩
theorem alT {T : List (Addr × Str)} {H : Hp} {p : Addr} (h : H p = none) (xs : List V) : Nw H p ∧ Ext T [] H (upd H p (.tup xs)) ∧ (upd H p (.tup xs)) p = some (.tup xs) := ⟨.of h, .new h, upd_same⟩

open PySem PySem.Spec PyProof.Rows L2
open PySem.W (EachIs)
/-! ### items of data that pass a test -/
open Classical in
noncomputable def pIm (H : Hp) {α : Type} (f : α → PyData) (c : α → Bool) (x : V) : Bool := decide (∃ a, Im H x (f a) ∧ c a = true)
theorem pIm_eq {H : Hp} {α : Type} {f : α → PyData} {c : α → Bool} {x : V} {a : α} (hf : ∀ a b, f a = f b → a = b) (h : Im H x (f a)) : pIm H f c x = c a := by
  unfold pIm
  cases hc : c a with
  | true => exact @decide_eq_true _ (Classical.propDecidable _) ⟨a, h, hc⟩
  | false =>
    refine @decide_eq_false _ (Classical.propDecidable _) fun ⟨b, h1, h2⟩ => ?_
    have := hf _ _ (Im.inj _ _ _ h h1)
    rw [← this, hc] at h2
    cases h2
theorem each_filter {H : Hp} {α : Type} {f : α → PyData} {c : α → Bool} (hf : ∀ a b, f a = f b → a = b) : ∀ {xs : List V} {as : List α}, ImAll H xs (as.map f) → EachIs (fun x a => Im H x (f a)) (xs.filter (pIm H f c)) (as.filter c)
  | xs, [], h => by
    cases h
    exact .nil
  | xs, a :: as, h => by
    cases h with
    | cons h1 h2 =>
      have e := pIm_eq (c := c) hf h1
      cases hc : c a with
      | true =>
        rw [List.filter_cons_of_pos (by rw [e, hc]), List.filter_cons_of_pos hc]
        exact .cons h1 (each_filter hf h2)
      | false =>
        rw [List.filter_cons_of_neg (by rw [e, hc]; decide), List.filter_cons_of_neg (by rw [hc]; decide)]
        exact each_filter hf h2
theorem each_comp {α β γ : Type} {R : α → β → Prop} {S : β → γ → Prop} : ∀ {as : List α} {bs : List β} {cs : List γ}, EachIs R as bs → EachIs S bs cs → EachIs (fun a c => ∃ b, R a b ∧ S b c) as cs
  | _, _, _, .nil, .nil => .nil
  | _, _, _, .cons a s, .cons b t => .cons ⟨_, a, b⟩ (each_comp s t)
theorem rowD2_inj {a b : Sl × Itm} (h : rowD2 a = rowD2 b) : a = b := by
  unfold rowD2 at h
  injection h with h
  injection h with h1 h
  injection h with h2 _
  exact Prod.ext (slD_inj h1) (itD_inj h2)
theorem filter_fst {its : List (Sl × Itm)} {sl : Sl} {i : Itm} (hn : (its.map (·.1)).Nodup) (hm : (sl, i) ∈ its) : its.filter (fun r => decide (r.1 = sl)) = [(sl, i)] := by
  induction its with
  | nil => cases hm
  | cons p ps ih =>
    rw [List.map_cons, List.nodup_cons] at hn
    rcases List.mem_cons.mp hm with e | hm
    · subst e
      rw [List.filter_cons_of_pos (by simp), List.filter_eq_nil_iff.mpr]
      intro y hy h
      have h2 : y.1 = sl := of_decide_eq_true h
      exact hn.1 (List.mem_map.mpr ⟨y, hy, h2⟩)
    · rw [List.filter_cons_of_neg, ih hn.2 hm]
      intro h
      have h2 : p.1 = sl := of_decide_eq_true h
      exact hn.1 (List.mem_map.mpr ⟨_, hm, h2.symm⟩)
theorem SqF {K : PySem.W.Frag} {H : Hp} {a : Addr} {o : Obj} {xs : List V} (h : H a = some (.frz o (.tup xs))) : SqT K H a xs := .inl (.inr ⟨o, h⟩)
theorem frz.x {T : List (Addr × Str)} {H H' : Hp} {a : Addr} {o : Obj} {u : HO} (h : H a = some (.frz o u)) (e : Ext T [] H H') : H' a = some (.frz o u) := e.keep a _ (by simp) (fun _ z => by cases z) h

open PySem PySem.Spec PyProof.Rows L2
open PySem.W (EachIs)
/-! ### deeds drawn -/
def DdOk (R : Rm) : Dd → Prop
  | .put s i => s ∈ slotsR R ∧ ItmOk s i
  | .on x z => idB x = true ∧ z ∈ R.zs.tail.map (·.1)
  | .off x z => idB x = true ∧ z ∈ R.zs.tail.map (·.1)
theorem aft_on (s : Sta) (d : Dd) : (aft s d).on.length ≤ s.on.length + 1 := by
  cases d with
  | put sl i => exact Nat.le_succ _
  | on x z =>
    show (srtSS _).length ≤ _
    rw [(srtSS_perm _).length_eq, List.length_append]
    exact Nat.le_refl _
  | off x z => exact Nat.le_succ_of_le (List.length_filter_le _ _)
theorem aft_ok {R : Rm} {s : Sta} {d : Dd} (h : StaOk R s) (hd : DdOk R d) (hl : s.on.length + 1 ≤ 100) : StaOk R (aft s d) := by
  refine ⟨(aft_keys s d).trans h.nm, ?_, Nat.le_trans (aft_on s d) hl⟩
  cases d with
  | put sl i =>
    intro r hr
    obtain ⟨y, hy, e⟩ := List.mem_map.mp (show r ∈ s.its.map (fun r => (r.1, if r.1 = sl then i else r.2)) from hr)
    rw [← e]
    by_cases h2 : y.1 = sl
    · show ItmOk y.1 (if y.1 = sl then i else y.2)
      rw [if_pos h2, h2]
      exact hd.2
    · show ItmOk y.1 (if y.1 = sl then i else y.2)
      rw [if_neg h2]
      exact h.ok y hy
  | on x z => exact h.ok
  | off x z => exact h.ok
theorem sta_len {R : Rm} {s : Sta} (hR : RmIn R) (h : StaOk R s) (hl : (slotsR R).length ≤ 30) : s.its.length ≤ 100 := by
  have := congrArg List.length h.nm
  rw [List.length_map] at this
  omega
theorem sta_nodup {R : Rm} {s : Sta} (hR : RmIn R) (h : StaOk R s) : (s.its.map (·.1)).Nodup := by
  rw [h.nm]
  exact slots_nodup hR
theorem sta_find {R : Rm} {s : Sta} {sl : Sl} (h : StaOk R s) (hs : sl ∈ slotsR R) : ∃ i, (sl, i) ∈ s.its := by
  rw [← h.nm] at hs
  obtain ⟨r, hr, e⟩ := List.mem_map.mp hs
  exact ⟨r.2, by rw [← e]; exact hr⟩
section
variable (T : List (Addr × Str))
def spServer : Sp := fun vs H Q _ => ∃ (l t : Addr) (v u : V) (R : Rm) (s : Sta), vs = [.ref t, v, u] ∧ Tape l H t ∧ Im H v (rmD R) ∧ RmIn R ∧ 1 < R.zs.length ∧ StAt H u s ∧ s.on.length ≤ 100 ∧
  ∀ (x : V) (d : Dd) (H' : Hp), DdOk R d → Im H' x (ddD d) → Ext T [t] H H' → Tape l H' t → Q x H'
def spMixed : Sp := fun vs H Q _ => ∃ (l t pa : Addr) (v u x : V) (R : Rm) (ps : List (Str × List Str)) (s : Sl) (i : Itm), vs = [.ref t, v, .ref pa, u, x] ∧ Tape l H t ∧ Im H v (rmD R) ∧ RmIn R ∧ Pools H t pa ps ∧ PsOk R ps ∧ Im H u (slD s) ∧ s ∈ slotsR R ∧ (∀ z, s ≠ .h z) ∧ Im H x (itD i) ∧ ItmOk s i ∧
  ∀ (y : V) (j : Itm) (H' : Hp), ItmOk s j → Im H' y (itD j) → Ext T [t] H H' → Tape l H' t → Q y H'
def spDeed : Sp := fun vs H Q _ => ∃ (l t pa : Addr) (v u : V) (R : Rm) (ps : List (Str × List Str)) (s : Sta), vs = [.ref t, v, .ref pa, u] ∧ Tape l H t ∧ Im H v (rmD R) ∧ RmIn R ∧ Pools H t pa ps ∧ PsOk R ps ∧ StAt H u s ∧ StaOk R s ∧
  ∀ (x : V) (d : Dd) (H' : Hp), DdOk R d → Im H' x (ddD d) → Ext T [t] H H' → Tape l H' t → Q x H'
def spDeeds : Sp := fun vs H Q _ => ∃ (l t pa : Addr) (v u : V) (R : Rm) (ps : List (Str × List Str)) (s : Sta) (m : Int), vs = [.ref t, v, .ref pa, u, .int m] ∧ Tape l H t ∧ Im H v (rmD R) ∧ RmIn R ∧ Pools H t pa ps ∧ PsOk R ps ∧ StAt H u s ∧ StaOk R s ∧ s.on.length ≤ 50 ∧ 0 ≤ m ∧ m ≤ 20 ∧
  ∀ (x : V) (ds : List Dd) (H' : Hp), (∀ d ∈ ds, DdOk R d) → (ds.length : Int) = m → Im H' x (.tuple (ds.map ddD)) → Ext T [t] H H' → Tape l H' t → Q x H'
end
def s4L : List Str := ["s1", "s2", "s3", "t9"]
theorem s4_ok : ∀ y ∈ s4L, idB y = true := by decide +kernel
def hostL : List (List Str) := [["s1"], ["s2"], ["s1", "s3"], ["s3"], ["s2", "t9"]]
theorem host_ok : ∀ c ∈ hostL, c.Nodup ∧ (∀ y ∈ c, idB y = true) ∧ c.length ≤ 4 := by decide +kernel
theorem zin {R : Rm} (h : RmIn R) {z : Str} (hz : z ∈ R.zs.tail.map (·.1)) : nameB z = true ∧ Sl.h z ∈ slotsR R := by
  obtain ⟨y, hy, rfl⟩ := List.mem_map.mp hz
  refine ⟨h.nm y (List.mem_of_mem_tail hy), ?_⟩
  unfold slotsR
  refine List.mem_append_left _ (List.mem_cons_of_mem _ (List.mem_flatMap.mpr ⟨y, hy, by simp⟩))

open PySem PySem.Spec PyProof.Rows L2
open PySem.W (EachIs)
/-! ### lists of ids -/
structure CL (H : Hp) (t a : Addr) (n : Nat) (cs : List Str) : Prop where
  at_ : H a = some (.lst (cs.map V.str))
  ne : a ≠ t
  nd : cs.Nodup
  ok : ∀ y ∈ cs, idB y = true
  len : cs.length ≤ n
section
variable {T : List (Addr × Str)} {K : PySem.W.Frag} {H H' : Hp} {Q : VK} {l t a : Addr} {n : Nat} {cs : List Str}
theorem CL.x (h : CL H t a n cs) (e : Ext T [] H H') : CL H' t a n cs := ⟨lst.x h.at_ e, h.ne, h.nd, h.ok, h.len⟩
theorem CL.y (h : CL H t a n cs) (e : Ext T [t] H H') : CL H' t a n cs := ⟨lst.y h.at_ e h.ne, h.ne, h.nd, h.ok, h.len⟩
theorem CL.sub {ds : List Str} (h : CL H t a n cs) (hs : ds.Sublist cs) (p : Addr) (hp : H' p = some (.lst (ds.map V.str))) (hn : p ≠ t) : CL H' t p n ds := ⟨hp, hn, h.nd.sublist hs, fun y hy => h.ok y (hs.subset hy), Nat.le_trans hs.length_le h.len⟩
theorem CL.wide {m : Nat} (h : CL H t a n cs) (hm : n ≤ m) : CL H t a m cs := ⟨h.at_, h.ne, h.nd, h.ok, Nat.le_trans h.len hm⟩
theorem cutV_mid (xs : List V) {i j : Int} (h0 : 0 ≤ i) (h1 : 0 ≤ j) : cutV xs (some i) (some j) = (xs.take j.toNat).drop i.toNat := by
  unfold cutV
  have e0 : HT.sIx xs.length 0 (some i) = min i.toNat xs.length := by
    obtain ⟨k, rfl⟩ := Int.eq_ofNat_of_zero_le h0
    exact HT.sIx_nat xs.length 0 k
  have e1 : HT.sIx xs.length xs.length (some j) = min j.toNat xs.length := by
    obtain ⟨k, rfl⟩ := Int.eq_ofNat_of_zero_le h1
    exact HT.sIx_nat xs.length xs.length k
  rw [e0, e1]
  generalize i.toNat = a
  generalize j.toNat = b
  rw [List.drop_take]
  by_cases ha : a ≤ xs.length
  · rw [Nat.min_eq_left ha]
    by_cases hb : b ≤ xs.length
    · rw [Nat.min_eq_left hb]
    · rw [Nat.min_eq_right (by omega), List.take_of_length_le (by rw [List.length_drop]; omega), List.take_of_length_le (by rw [List.length_drop]; omega)]
  · have e3 : min a xs.length = xs.length := by omega
    rw [e3, List.drop_length, List.drop_eq_nil_of_le (by omega), List.take_nil, List.take_nil]
theorem CL.take {i : Int} (h : CL H t a n cs) (hT : Tape l H t) (h0 : 0 ≤ i) (q : ∀ p H', Nw H p → Ext T [] H H' → CL H' t p n (cs.take i.toNat) → Q (.ref p) H') : rSlU K (.ref a) none (some i) H Q :=
  rd_takeS T h.at_ h0 fun p H' np e hp => q p H' np e (h.sub (List.take_sublist _ _) p hp (hT.ne np).1)
theorem CL.mid {i j : Int} (h : CL H t a n cs) (hT : Tape l H t) (h0 : 0 ≤ i) (h1 : 0 ≤ j) (q : ∀ p H', Nw H p → Ext T [] H H' → CL H' t p n ((cs.take j.toNat).drop i.toNat) → Q (.ref p) H') : rSlU K (.ref a) (some i) (some j) H Q :=
  rd_slL (SqL.of h.at_) fun p hp => q p _ (.of hp) (.new hp) (h.sub ((List.drop_sublist _ _).trans (List.take_sublist _ _)) p (by rw [cutV_mid _ h0 h1, ← List.map_take, ← List.map_drop]; exact upd_same) (hT.ne (.of hp)).1)
end
theorem srt_nd {cs : List Str} (h : cs.Nodup) : (srtS cs).Nodup := (srtS_perm cs).nodup_iff.mpr h
theorem itm_c {s : Sl} {i : Itm} (h : ItmOk s i) : i.c.Nodup ∧ (∀ y ∈ i.c, idB y = true) ∧ i.c.length ≤ 4 := by
  obtain ⟨cs, e, h1, h2, h3⟩ := h.c
  rw [e]
  exact ⟨srt_nd h1, fun y hy => h2 y ((srtS_perm cs).mem_iff.mp hy), by rw [(srtS_perm cs).length_eq]; exact h3⟩
theorem itm_g {s : Sl} {i : Itm} (h : ItmOk s i) : i.g.Nodup ∧ (∀ y ∈ i.g, idB y = true) ∧ i.g.length ≤ 3 := by
  obtain ⟨cs, e, h1, h2, h3⟩ := h.g
  rw [e]
  exact ⟨srt_nd h1, fun y hy => h2 y ((srtS_perm cs).mem_iff.mp hy), by rw [(srtS_perm cs).length_eq]; exact h3⟩
/-- the word and the name of a slot -/
theorem sl_word (s : Sl) : ∃ (kw z : Str) (r : List PyData), slD s = .tuple (.str kw :: .str z :: r) ∧ ((kw = Str.ofString "link") ↔ ∃ z, s = .l z) ∧ ((kw = Str.ofString "set") ↔ ∃ n k, s = .s n k) ∧ (∀ y, s = .l y → z = y) := by
  cases s with
  | k z => exact ⟨"keys", z, [], rfl, no_iff (by decide +kernel) (fun ⟨_, h⟩ => by cases h), no_iff (by decide +kernel) (fun ⟨_, _, h⟩ => by cases h), fun y h => by cases h⟩
  | l z => exact ⟨"link", z, [], rfl, ⟨fun _ => ⟨z, rfl⟩, fun _ => rfl⟩, no_iff (by decide +kernel) (fun ⟨_, _, h⟩ => by cases h), fun y h => by injection h⟩
  | h z => exact ⟨"hosts", z, [], rfl, no_iff (by decide +kernel) (fun ⟨_, h⟩ => by cases h), no_iff (by decide +kernel) (fun ⟨_, _, h⟩ => by cases h), fun y h => by cases h⟩
  | s n k => exact ⟨"set", n, [.str k], rfl, no_iff (by decide +kernel) (fun ⟨_, h⟩ => by cases h), ⟨fun _ => ⟨n, k, rfl⟩, fun _ => rfl⟩, fun y h => by cases h⟩
open PySem PySem.Spec PyProof.Rows L2
theorem pick_cl {H : Hp} {t : Addr} {n : Nat} {as : List Addr} (h : ∀ a ∈ as, ∃ gs, CL H t a n gs) {i : Int} (h0 : 0 ≤ i) (h1 : i < as.length) : ∃ a gs, atI (as.map V.ref) i = some (.ref a) ∧ CL H t a n gs := by
  obtain ⟨c, hc1, hc2, hc3⟩ := at_in (l := as.map V.ref) h0 (by rw [List.length_map]; exact h1)
  obtain ⟨a, ha, rfl⟩ := List.mem_map.mp hc3
  obtain ⟨gs, hg⟩ := h a ha
  exact ⟨a, gs, hc1, hg⟩

open PySem PySem.Spec PyProof.Rows L2
open PySem.W (EachIs)
/-! ### what a new heap keeps, on demand -/
theorem al_of {T : List (Addr × Str)} {H G : Hp} {p : Addr} {o : HO} (np : H p = none) (hG : upd H p o = G) : Nw H p ∧ Ext T [] H G ∧ G p = some o := by
  subst hG
  exact ⟨.of np, .new np, upd_same⟩
section
variable {T : List (Addr × Str)} {H H' H1 : Hp}
theorem SqP.y {l t a : Addr} {xs : List V} (h : SqP H a xs) (e : Ext T [t] H H') (hT : Tape l H t) : SqP H' a xs := SqP.ext h e hT.lsts
theorem tup.x {a : Addr} {xs : List V} (h : H a = some (.tup xs)) (e : Ext T [] H H') : H' a = some (.tup xs) := e.tup (by simp) h
theorem tup.y {l t a : Addr} {xs : List V} (h : H a = some (.tup xs)) (e : Ext T [t] H H') (hT : Tape l H t) : H' a = some (.tup xs) := SqP.ext h e hT.lsts
theorem frz.y {l t a : Addr} {o : Obj} {u : HO} (h : H a = some (.frz o u)) (e : Ext T [t] H H') (hT : Tape l H t) : H' a = some (.frz o u) := e.keep a _ (fun hb => by
  obtain ⟨ys, hy⟩ := hT.lsts a hb
  rw [h] at hy
  cases hy) (fun _ z => by cases z) h
theorem Tape.ne1 {l t q : Addr} (p : Tape l H t) (h : Nw H q) : q ≠ t := (p.ne h).1
theorem Ext.back1 {p t : Addr} (e : Ext T [t] H H1) (hp : p ≠ t) (f : Nw H1 p) : Nw H p := e.back (by simpa using hp) f
theorem Ext.back0 {p : Addr} (e : Ext T [] H H1) (f : Nw H1 p) : Nw H p := e.back (by simp) f
end
theorem Ok.alias {P : Program} {w : World} {K : PySem.W.Frag} {mg : Str → Option Value} {base : Heap} {k : Nat} {x y : Str} {ps : List Str} {sp : Sp} (h : Ok P w K mg base k x ps sp) (e : mg y = mg x) : Ok P w K mg base k y ps sp := by
  obtain ⟨f, fd, F, h1, h2⟩ := h
  exact ⟨f, fd, F, e.trans h1, h2⟩
section
variable (T : List (Addr × Str))
def spBent : Sp := fun vs H Q _ => ∃ (l t pa : Addr) (v u : V) (R : Rm) (ps : List (Str × List Str)) (s : Sta), vs = [.ref t, v, .ref pa, u] ∧ Tape l H t ∧ Im H v (rmD R) ∧ RmIn R ∧ Pools H t pa ps ∧ PsOk R ps ∧ StAt H u s ∧ StaOk R s ∧ s.on.length ≤ 50 ∧
  ∀ (x : V) (s' : Sta) (H' : Hp), StaOk R s' → s'.on = s.on → StAt H' x s' → Ext T [t] H H' → Tape l H' t → Q x H'
end
def bentL : List (List Str) := [[], ["s3"], ["s1", "t9"]]
theorem bent_ok : ∀ c ∈ bentL, c.Nodup ∧ (∀ y ∈ c, idB y = true) ∧ c.length ≤ 4 := by decide +kernel

open PySem PySem.Spec PyProof.Rows L2
/-! ### rows of moments: the least moments, and what a round of raising does -/
abbrev Rw := Nat × Nat × Int
def rwD (r : Rw) : PyData := .tuple [.int (r.1 : Int), .int (r.2.1 : Int), .int r.2.2]
def RwIn (n : Nat) (rs : List Rw) : Prop := ∀ r ∈ rs, r.1 ≤ n ∧ r.2.1 ≤ n
def fn (m : List Int) (k : Nat) : Int := m.getD k 0
structure Feas (rs : List Rw) (m : Nat → Int) : Prop where
  zero : m 0 = 0
  nn : ∀ k, 0 ≤ m k
  rows : ∀ r ∈ rs, m r.2.1 + r.2.2 ≤ m r.1
def Least (rs : List Rw) (n : Nat) (t : List Int) : Prop := t.length = n ∧ Feas rs (fn (0 :: t)) ∧ ∀ m, Feas rs m → ∀ k, fn (0 :: t) k ≤ m k
def LM (rs : List Rw) (n : Nat) : Option (List Int) → Prop
  | some t => Least rs n t
  | none => ∀ m, ¬ Feas rs m
theorem fn_ext {a b : List Int} (hl : a.length = b.length) (h : ∀ k, fn a k = fn b k) : a = b := by
  refine List.ext_getElem? fun k => ?_
  by_cases hk : k < a.length
  · have h1 := h k
    unfold fn at h1
    rw [List.getD_eq_getElem?_getD, List.getD_eq_getElem?_getD, List.getElem?_eq_getElem hk, List.getElem?_eq_getElem (hl ▸ hk)] at h1
    rw [List.getElem?_eq_getElem hk, List.getElem?_eq_getElem (hl ▸ hk)]
    exact congrArg some h1
  · rw [List.getElem?_eq_none (by omega), List.getElem?_eq_none (by omega)]
theorem LM.uniq {rs : List Rw} {n : Nat} {a b : Option (List Int)} (ha : LM rs n a) (hb : LM rs n b) : a = b := by
  cases a with
  | none =>
    cases b with
    | none => rfl
    | some t => exact absurd hb.2.1 (ha _)
  | some s =>
    cases b with
    | none => exact absurd ha.2.1 (hb _)
    | some t =>
      have e : (0 :: s) = (0 :: t) := fn_ext (by rw [List.length_cons, List.length_cons, ha.1, hb.1]) fun k => Int.le_antisymm (ha.2.2 _ hb.2.1 k) (hb.2.2 _ ha.2.1 k)
      injection e with _ e
      rw [e]
theorem nat_min {P : Nat → Prop} : ∀ (n : Nat), P n → ∃ m, P m ∧ ∀ k, P k → m ≤ k := by
  intro n
  induction n using Nat.strongRecOn with
  | _ n ih =>
    intro h
    by_cases e : ∃ k, k < n ∧ P k
    · obtain ⟨k, h1, h2⟩ := e
      exact ih k h1 h2
    · exact ⟨n, h, fun k hk => Nat.le_of_not_lt fun hl => e ⟨k, hl, hk⟩⟩
theorem least_of {rs : List Rw} {m0 : Nat → Int} (h : Feas rs m0) : ∃ M, Feas rs M ∧ ∀ m, Feas rs m → ∀ k, M k ≤ m k := by
  have key : ∀ k, ∃ v : Int, (∃ m, Feas rs m ∧ m k = v) ∧ ∀ m, Feas rs m → v ≤ m k := fun k => by
    obtain ⟨v, ⟨m, h1, h2⟩, h3⟩ := nat_min (P := fun v => ∃ m, Feas rs m ∧ m k = (v : Int)) (m0 k).toNat ⟨m0, h, by have := h.nn k; omega⟩
    refine ⟨v, ⟨m, h1, h2⟩, fun m' h' => ?_⟩
    have := h3 (m' k).toNat ⟨m', h', by have := h'.nn k; omega⟩
    have := h'.nn k
    omega
  refine ⟨fun k => (key k).choose, ⟨?_, fun k => ?_, fun r hr => ?_⟩, fun m hm k => (key k).choose_spec.2 m hm⟩
  · obtain ⟨m, h1, h2⟩ := (key 0).choose_spec.1
    rw [← h2]
    exact h1.zero
  · obtain ⟨m, h1, h2⟩ := (key k).choose_spec.1
    rw [← h2]
    exact h1.nn k
  · obtain ⟨m, h1, h2⟩ := (key r.1).choose_spec.1
    have h3 := (key r.2.1).choose_spec.2 m h1
    have h4 := h1.rows r hr
    show (key r.2.1).choose + r.2.2 ≤ (key r.1).choose
    rw [← h2]
    omega
/-- how many of the numbers up to n are not yet at their least -/
def offs (M m : Nat → Int) (n : Nat) : Nat := (List.range (n + 1)).countP fun k => decide (m k ≠ M k)
theorem countP_lt {α : Type} {p q : α → Bool} : ∀ {l : List α}, (∀ a ∈ l, q a = true → p a = true) → (∃ a ∈ l, p a = true ∧ q a = false) → l.countP q < l.countP p
  | [], _, h => by
    obtain ⟨a, h, _⟩ := h
    cases h
  | a :: r, h1, h2 => by
    have hle : r.countP q ≤ r.countP p := List.countP_mono_left fun b hb h => h1 b (List.mem_cons_of_mem _ hb) h
    obtain ⟨b, hb, e1, e2⟩ := h2
    rw [List.countP_cons, List.countP_cons]
    rcases List.mem_cons.mp hb with e | hb
    · subst e
      rw [e1, e2]
      simp
      omega
    · have := countP_lt (l := r) (fun b hb h => h1 b (List.mem_cons_of_mem _ hb) h) ⟨b, hb, e1, e2⟩
      cases hq : q a with
      | false => simp; omega
      | true =>
        rw [h1 a List.mem_cons_self hq]
        simp
        omega
/-- what a round does to moments -/
structure Round (rs : List Rw) (a b : Nat → Int) : Prop where
  up : ∀ k, a k ≤ b k
  rows : ∀ r ∈ rs, a r.2.1 + r.2.2 ≤ b r.1
theorem offs_step {rs : List Rw} {n : Nat} {M a b : Nat → Int} (hn : RwIn n rs) (hM : Feas rs M) (hl : ∀ m, Feas rs m → ∀ k, M k ≤ m k) (ha : ∀ k, 0 ≤ a k) (h0 : a 0 = 0) (hb : ∀ k, b k ≤ M k) (R : Round rs a b) : offs M b n ≤ offs M a n - 1 := by
  have hsub : ∀ k ∈ List.range (n + 1), decide (b k ≠ M k) = true → decide (a k ≠ M k) = true := fun k _ h => by
    have h := of_decide_eq_true h
    have h1 := R.up k
    have h2 := hb k
    exact decide_eq_true (by omega)
  by_cases hz : ∃ k, k ≤ n ∧ a k ≠ M k
  · have : offs M b n < offs M a n := by
      refine countP_lt hsub ?_
      refine Classical.byContradiction fun hno => ?_
      have hno : ∀ k, k ≤ n → a k ≠ M k → b k ≠ M k := fun k hk h1 h2 => hno ⟨k, List.mem_range.mpr (by omega), decide_eq_true h1, decide_eq_false (by simpa using h2)⟩
      have F : Feas rs fun k => if k ≤ n ∧ a k ≠ M k then M k - 1 else M k := by
        refine ⟨?_, fun k => ?_, fun r hr => ?_⟩
        · rw [if_neg (fun h => h.2 (by rw [h0, hM.zero]))]
          exact hM.zero
        · by_cases h : k ≤ n ∧ a k ≠ M k
          · rw [if_pos h]
            have h1 := R.up k
            have h2 := hb k
            have h3 := ha k
            have h4 := h.2
            omega
          · rw [if_neg h]
            exact hM.nn k
        · obtain ⟨h1, h2⟩ := hn r hr
          have h3 := hM.rows r hr
          by_cases hk : a r.1 ≠ M r.1
          · by_cases hj : a r.2.1 ≠ M r.2.1
            · rw [if_pos ⟨h2, hj⟩, if_pos ⟨h1, hk⟩]
              omega
            · rw [if_neg (fun h => hj h.2), if_pos ⟨h1, hk⟩]
              have h4 := R.rows r hr
              have h5 := hb r.1
              have h6 := hno r.1 h1 hk
              have h7 : a r.2.1 = M r.2.1 := Classical.byContradiction fun h => hj h
              omega
          · by_cases hj : a r.2.1 ≠ M r.2.1
            · rw [if_pos ⟨h2, hj⟩, if_neg (fun h => hk h.2)]
              omega
            · rw [if_neg (fun h => hj h.2), if_neg (fun h => hk h.2)]
              exact h3
      obtain ⟨k, h1, h2⟩ := hz
      have := hl _ F k
      rw [if_pos ⟨h1, h2⟩] at this
      omega
    omega
  · have e : offs M b n = 0 := by
      unfold offs
      rw [List.countP_eq_zero]
      intro k hk h
      have h2 := of_decide_eq_true (hsub k hk h)
      exact hz ⟨k, by have := List.mem_range.mp hk; omega, h2⟩
    omega
theorem offs_zero {M m : Nat → Int} {n : Nat} (h : offs M m n = 0) : ∀ k, k ≤ n → m k = M k := fun k hk => by
  unfold offs at h
  rw [List.countP_eq_zero] at h
  have h2 := h k (List.mem_range.mpr (by omega))
  exact Classical.byContradiction fun e => h2 (decide_eq_true e)
theorem offs_le {M m : Nat → Int} {n : Nat} (h0 : m 0 = M 0) : offs M m n ≤ n := by
  have h1 : offs M m n < (List.range (n + 1)).countP fun _ => true := countP_lt (fun _ _ _ => rfl) ⟨0, List.mem_range.mpr (by omega), rfl, decide_eq_false (by simpa using h0)⟩
  have h2 : (List.range (n + 1)).countP (fun _ => true) ≤ (List.range (n + 1)).length := List.countP_le_length
  rw [List.length_range] at h2
  omega
/-! ### a round over a list of moments -/
theorem fn_set {m : List Int} {k j : Nat} {v : Int} (hk : k < m.length) : fn (m.set k v) j = if j = k then v else fn m j := by
  unfold fn
  rw [List.getD_eq_getElem?_getD, List.getD_eq_getElem?_getD, List.getElem?_set]
  by_cases h : j = k
  · subst h
    rw [if_pos rfl, if_pos rfl, if_pos hk]
    rfl
  · rw [if_neg (fun e => h e.symm), if_neg h]
theorem fn_nn {m : List Int} (h : ∀ v ∈ m, 0 ≤ v) (k : Nat) : 0 ≤ fn m k := by
  unfold fn
  rw [List.getD_eq_getElem?_getD]
  cases e : m[k]? with
  | none => exact Int.le_refl 0
  | some v => exact h v (List.mem_of_getElem? e)
theorem fn_ge {m : List Int} {k : Nat} (h : m.length ≤ k) : fn m k = 0 := by
  unfold fn
  rw [List.getD_eq_getElem?_getD, List.getElem?_eq_none h]
  rfl
/-- the state of the moments within the law's own search: a is the state at the begin of the round -/
structure Mid (rs : List Rw) (n : Nat) (a m : List Int) (i : Nat) : Prop where
  len : m.length = n + 1
  up : ∀ k, fn a k ≤ fn m k
  le : ∀ M, Feas rs M → ∀ k, fn m k ≤ M k
  rows : ∀ r ∈ rs.take i, fn a r.2.1 + r.2.2 ≤ fn m r.1
theorem Mid.step {rs : List Rw} {n : Nat} {a m : List Int} {i : Nat} {r : Rw} (h : Mid rs n a m i) (hr : rs[i]? = some r) (hn : RwIn n rs) :
    (fn m r.1 < fn m r.2.1 + r.2.2 → Mid rs n a (m.set r.1 (fn m r.2.1 + r.2.2)) (i + 1)) ∧ (¬ fn m r.1 < fn m r.2.1 + r.2.2 → Mid rs n a m (i + 1)) := by
  have hm : r ∈ rs := List.mem_of_getElem? hr
  obtain ⟨h1, h2⟩ := hn r hm
  have et : rs.take (i + 1) = rs.take i ++ [r] := by rw [List.take_add_one, hr]; rfl
  have hk : r.1 < m.length := by rw [h.len]; omega
  refine ⟨fun c => ⟨by rw [List.length_set]; exact h.len, fun k => ?_, fun M hM k => ?_, fun s hs => ?_⟩, fun c => ⟨h.len, h.up, h.le, fun s hs => ?_⟩⟩
  · rw [fn_set hk]
    by_cases e : k = r.1
    · rw [if_pos e, e]
      have := h.up r.1
      omega
    · rw [if_neg e]
      exact h.up k
  · rw [fn_set hk]
    by_cases e : k = r.1
    · rw [if_pos e, e]
      have h3 := hM.rows r hm
      have h4 := h.le M hM r.2.1
      omega
    · rw [if_neg e]
      exact h.le M hM k
  · rw [fn_set hk]
    rw [et] at hs
    rcases List.mem_append.mp hs with hs | hs
    · have h3 := h.rows s hs
      by_cases e : s.1 = r.1
      · rw [if_pos e]
        rw [e] at h3
        omega
      · rw [if_neg e]
        exact h3
    · rw [List.mem_singleton.mp hs, if_pos rfl]
      have := h.up r.2.1
      omega
  · rw [et] at hs
    rcases List.mem_append.mp hs with hs | hs
    · exact h.rows s hs
    · rw [List.mem_singleton.mp hs]
      have := h.up r.2.1
      omega
/-! ### the program's search: moments, causes, and what was raised last -/
structure SS where
  m : List Int
  c : List (Option Rw)
  r : Option Nat
def SS.step (s : SS) (w : Rw) : SS := if fn s.m w.1 < fn s.m w.2.1 + w.2.2 then ⟨s.m.set w.1 (fn s.m w.2.1 + w.2.2), s.c.set w.1 (some w), some w.1⟩ else s
def SS.pass (ws : List Rw) (s : SS) : SS := ws.foldl SS.step ⟨s.m, s.c, none⟩
def settleF (ws : List Rw) : Nat → SS → SS
  | 0, s => s
  | f + 1, s => if (s.pass ws).r = none then s.pass ws else settleF ws f (s.pass ws)
def allRows (rs : List Rw) (n : Nat) : List Rw := rs ++ (List.range (n + 1)).map fun k => (k, 0, 0)
def SS.zero (n : Nat) : SS := ⟨List.replicate (n + 1) 0, List.replicate (n + 1) none, none⟩
structure Fold (ws : List Rw) (n : Nat) (s t : SS) : Prop where
  len : t.m.length = s.m.length
  clen : t.c.length = s.c.length
  up : ∀ k, fn s.m k ≤ fn t.m k
  rows : ∀ r ∈ ws, fn s.m r.2.1 + r.2.2 ≤ fn t.m r.1
  le : ∀ M : Nat → Int, (∀ r ∈ ws, M r.2.1 + r.2.2 ≤ M r.1) → (∀ k, fn s.m k ≤ M k) → ∀ k, fn t.m k ≤ M k
  stay : t.r = none → t.m = s.m ∧ s.r = none
  rin : ∀ k, t.r = some k → (s.r = some k ∨ k ≤ n)
theorem fold_ok {n : Nat} : ∀ {ws : List Rw} {s : SS}, RwIn n ws → s.m.length = n + 1 → Fold ws n s (ws.foldl SS.step s)
  | [], s, _, _ => ⟨rfl, rfl, fun _ => Int.le_refl _, (fun r hr => by cases hr), fun _ _ h => h, fun h => ⟨rfl, h⟩, fun k h => .inl h⟩
  | w :: ws, s, hn, hl => by
    obtain ⟨h1, h2⟩ := hn w List.mem_cons_self
    have hk : w.1 < s.m.length := by omega
    by_cases c : fn s.m w.1 < fn s.m w.2.1 + w.2.2
    · have e : s.step w = ⟨s.m.set w.1 (fn s.m w.2.1 + w.2.2), s.c.set w.1 (some w), some w.1⟩ := if_pos c
      have ih := fold_ok (ws := ws) (s := s.step w) (fun r hr => hn r (List.mem_cons_of_mem _ hr)) (by rw [e]; show (s.m.set _ _).length = _; rw [List.length_set]; exact hl)
      have up1 : ∀ k, fn s.m k ≤ fn (s.step w).m k := fun k => by
        rw [e]
        show _ ≤ fn (s.m.set _ _) k
        rw [fn_set hk]
        by_cases h : k = w.1
        · rw [if_pos h, h]
          omega
        · rw [if_neg h]
          exact Int.le_refl _
      have wv : fn (s.step w).m w.1 = fn s.m w.2.1 + w.2.2 := by
        rw [e]
        show fn (s.m.set _ _) _ = _
        rw [fn_set hk, if_pos rfl]
      refine ⟨?_, ?_, fun k => Int.le_trans (up1 k) (ih.up k), fun r hr => ?_, fun M hM hs k => ih.le M (fun r hr => hM r (List.mem_cons_of_mem _ hr)) (fun k => ?_) k, fun h => ?_, fun k h => ?_⟩
      · show (ws.foldl SS.step (s.step w)).m.length = _
        rw [ih.len, e]
        exact List.length_set
      · show (ws.foldl SS.step (s.step w)).c.length = _
        rw [ih.clen, e]
        exact List.length_set
      · rcases List.mem_cons.mp hr with hr | hr
        · rw [hr]
          have := ih.up w.1
          rw [wv] at this
          exact this
        · have h3 := ih.rows r hr
          have h4 := up1 r.2.1
          show _ ≤ fn (ws.foldl SS.step (s.step w)).m r.1
          omega
      · by_cases h : k = w.1
        · rw [h, wv]
          have h3 := hM w List.mem_cons_self
          have h4 := hs w.2.1
          omega
        · rw [e]
          show fn (s.m.set _ _) k ≤ _
          rw [fn_set hk, if_neg h]
          exact hs k
      · have h3 := (ih.stay h).2
        rw [e] at h3
        cases h3
      · rcases ih.rin k h with h | h
        · rw [e] at h
          injection h with h
          exact .inr (by omega)
        · exact .inr h
    · have e : s.step w = s := if_neg c
      have ih := fold_ok (ws := ws) (s := s) (fun r hr => hn r (List.mem_cons_of_mem _ hr)) hl
      have e2 : (w :: ws).foldl SS.step s = ws.foldl SS.step s := by rw [List.foldl_cons, e]
      rw [e2]
      refine ⟨ih.len, ih.clen, ih.up, fun r hr => ?_, fun M hM => ih.le M fun r hr => hM r (List.mem_cons_of_mem _ hr), ih.stay, ih.rin⟩
      rcases List.mem_cons.mp hr with hr | hr
      · rw [hr]
        have := ih.up w.1
        omega
      · exact ih.rows r hr
theorem allRows_in {rs : List Rw} {n : Nat} (h : RwIn n rs) : RwIn n (allRows rs n) := fun r hr => by
  rcases List.mem_append.mp hr with hr | hr
  · exact h r hr
  · obtain ⟨k, hk, rfl⟩ := List.mem_map.mp hr
    have := List.mem_range.mp hk
    exact ⟨by show k ≤ n; omega, Nat.zero_le _⟩
theorem Feas.all {rs : List Rw} {n : Nat} {M : Nat → Int} (h : Feas rs M) : ∀ r ∈ allRows rs n, M r.2.1 + r.2.2 ≤ M r.1 := fun r hr => by
  rcases List.mem_append.mp hr with hr | hr
  · exact h.rows r hr
  · obtain ⟨k, hk, rfl⟩ := List.mem_map.mp hr
    show M 0 + 0 ≤ M k
    have := h.zero
    have := h.nn k
    omega
theorem fn_zeros (n k : Nat) : fn (List.replicate n (0 : Int)) k = 0 := by
  unfold fn
  rw [List.getD_eq_getElem?_getD, List.getElem?_replicate]
  by_cases h : k < n
  · rw [if_pos h]
    rfl
  · rw [if_neg h]
    rfl
/-- what the search tells -/
def Told (rs : List Rw) (n : Nat) (s : SS) : Prop := s.m.length = n + 1 ∧ s.c.length = n + 1 ∧ (s.r = none → LM rs n (some (s.m.drop 1))) ∧ (∀ k, s.r = some k → k ≤ n ∧ LM rs n none)
structure Search (rs : List Rw) (n i : Nat) (s : SS) : Prop where
  len : s.m.length = n + 1
  clen : s.c.length = n + 1
  nn : ∀ k, 0 ≤ fn s.m k
  le : ∀ M, Feas rs M → ∀ k, fn s.m k ≤ M k
  off : ∀ M, Feas rs M → (∀ m, Feas rs m → ∀ k, M k ≤ m k) → offs M (fn s.m) n ≤ n - i
theorem Search.next {rs : List Rw} {n i : Nat} {s : SS} (h : Search rs n i s) (hn : RwIn n rs) : Fold (allRows rs n) n ⟨s.m, s.c, none⟩ (s.pass (allRows rs n)) ∧ Search rs n (i + 1) (s.pass (allRows rs n)) := by
  have F := fold_ok (s := ⟨s.m, s.c, none⟩) (allRows_in hn) h.len
  refine ⟨F, F.len.trans h.len, F.clen.trans h.clen, fun k => Int.le_trans (h.nn k) (F.up k), fun M hM => F.le M hM.all (h.le M hM), fun M hM hl => ?_⟩
  have h1 := offs_step (a := fn s.m) (b := fn (s.pass (allRows rs n)).m) hn hM hl h.nn (Int.le_antisymm (by have := h.le M hM 0; rw [hM.zero] at this; exact this) (h.nn 0)) (F.le M hM.all (h.le M hM)) ⟨F.up, fun r hr => F.rows r (List.mem_append_left _ hr)⟩
  have h2 := h.off M hM hl
  omega
theorem Search.done {rs : List Rw} {n i : Nat} {s : SS} (h : Search rs n i s) (hn : RwIn n rs) (hr : (s.pass (allRows rs n)).r = none) : LM rs n (some ((s.pass (allRows rs n)).m.drop 1)) := by
  obtain ⟨F, S⟩ := h.next hn
  have em : (s.pass (allRows rs n)).m = s.m := (F.stay hr).1
  have hrows : ∀ r ∈ allRows rs n, fn s.m r.2.1 + r.2.2 ≤ fn s.m r.1 := fun r hr => by
    have := F.rows r hr
    rw [em] at this
    exact this
  have hz : ∀ k, k ≤ n → fn s.m 0 ≤ fn s.m k := fun k hk => by
    have := hrows (k, 0, 0) (List.mem_append_right _ (List.mem_map.mpr ⟨k, List.mem_range.mpr (by omega), rfl⟩))
    have : fn s.m 0 + 0 ≤ fn s.m k := this
    omega
  have F0 : Feas rs fun k => if k ≤ n then fn s.m k - fn s.m 0 else 0 := by
    refine ⟨?_, fun k => ?_, fun r hr => ?_⟩
    · rw [if_pos (Nat.zero_le _)]
      omega
    · by_cases hk : k ≤ n
      · rw [if_pos hk]
        have := hz k hk
        omega
      · rw [if_neg hk]
        exact Int.le_refl _
    · obtain ⟨h1, h2⟩ := hn r hr
      rw [if_pos h2, if_pos h1]
      have := hrows r (List.mem_append_left _ hr)
      omega
  have h0 : fn s.m 0 = 0 := by
    have h1 := h.le _ F0 0
    rw [if_pos (Nat.zero_le _)] at h1
    have := h.nn 0
    omega
  obtain ⟨v, t, ht⟩ : ∃ v t, s.m = v :: t := by
    cases e : s.m with
    | nil =>
      have := h.len
      rw [e] at this
      cases this
    | cons v t => exact ⟨v, t, rfl⟩
  have hv : v = 0 := by
    rw [ht] at h0
    exact h0
  subst hv
  rw [em, ht]
  show Least rs n t
  have hl := h.len
  rw [ht, List.length_cons] at hl
  refine ⟨by omega, ⟨rfl, fun k => ?_, fun r hr => ?_⟩, fun m hm k => ?_⟩
  · rw [← ht]
    exact h.nn k
  · rw [← ht]
    exact hrows r (List.mem_append_left _ hr)
  · rw [← ht]
    exact h.le m hm k
theorem Search.never {rs : List Rw} {n i : Nat} {s : SS} (h : Search rs n i s) (hn : RwIn n rs) (hi : n ≤ i) (hr : (s.pass (allRows rs n)).r ≠ none) : LM rs n none := fun m0 h0 => by
  obtain ⟨M, hM, hl⟩ := least_of h0
  have hz := offs_zero (Nat.le_zero.mp (Nat.le_trans (h.off M hM hl) (by omega)))
  -- nothing is raised where all are at their least
  have key : ∀ ws : List Rw, (∀ r ∈ ws, r ∈ allRows rs n) → (ws.foldl SS.step ⟨s.m, s.c, none⟩) = ⟨s.m, s.c, none⟩ := by
    intro ws
    induction ws with
    | nil => intro _; rfl
    | cons w ws ih =>
      intro hw
      have h1 := hw w List.mem_cons_self
      have h2 := hM.all w h1
      obtain ⟨h3, h4⟩ := allRows_in hn w h1
      have e : SS.step ⟨s.m, s.c, none⟩ w = ⟨s.m, s.c, none⟩ := if_neg (by
        show ¬ fn s.m w.1 < fn s.m w.2.1 + w.2.2
        rw [hz _ h3, hz _ h4]
        omega)
      rw [List.foldl_cons, e]
      exact ih fun r hr => hw r (List.mem_cons_of_mem _ hr)
  refine hr ?_
  show ((allRows rs n).foldl SS.step ⟨s.m, s.c, none⟩).r = none
  rw [key _ fun _ h => h]
theorem settle_told {rs : List Rw} {n : Nat} (hn : RwIn n rs) : ∀ (f i : Nat) (s : SS), f + i = n + 1 → f ≠ 0 → Search rs n i s → Told rs n (settleF (allRows rs n) f s)
  | 0, _, _, _, h, _ => absurd rfl h
  | f + 1, i, s, hf, _, S => by
    obtain ⟨F, S2⟩ := S.next hn
    unfold settleF
    by_cases hr : (s.pass (allRows rs n)).r = none
    · rw [if_pos hr]
      exact ⟨S2.len, S2.clen, fun _ => S.done hn hr, fun k h => by rw [hr] at h; cases h⟩
    · rw [if_neg hr]
      by_cases hz : f = 0
      · subst hz
        refine ⟨S2.len, S2.clen, fun h => absurd h hr, fun k h => ⟨?_, S.never hn (by omega) hr⟩⟩
        rcases F.rin k h with h | h
        · cases h
        · exact h
      · exact settle_told hn f (i + 1) _ (by omega) hz S2
theorem settle_ok {rs : List Rw} {n : Nat} (hn : RwIn n rs) : Told rs n (settleF (allRows rs n) (n + 1) (SS.zero n)) := by
  refine settle_told hn (n + 1) 0 _ (by omega) (by omega) ⟨List.length_replicate, List.length_replicate, fun k => ?_, fun M hM k => ?_, fun M hM _ => ?_⟩
  · show 0 ≤ fn (List.replicate _ _) k
    rw [fn_zeros]
    exact Int.le_refl _
  · show fn (List.replicate _ _) k ≤ _
    rw [fn_zeros]
    exact hM.nn k
  · exact offs_le (by show fn (List.replicate _ _) 0 = _; rw [fn_zeros, hM.zero])
/-! ### the law's own search -/
structure Slow (rs : List Rw) (n i : Nat) (m : List Int) : Prop where
  len : m.length = n + 1
  zero : fn m 0 = 0
  nn : ∀ k, 0 ≤ fn m k
  le : ∀ M, Feas rs M → ∀ k, fn m k ≤ M k
  off : ∀ M, Feas rs M → (∀ m, Feas rs m → ∀ k, M k ≤ m k) → offs M (fn m) n ≤ n - i
  keep : n + 3 ≤ i → ∀ r ∈ rs, fn m r.2.1 + r.2.2 ≤ fn m r.1
theorem Slow.begin {rs : List Rw} {n : Nat} : Slow rs n 0 (List.replicate (n + 1) 0) := by
  refine ⟨List.length_replicate, fn_zeros _ _, fun k => ?_, fun M hM k => ?_, fun M hM _ => ?_, fun h => ?_⟩
  · rw [fn_zeros]
    exact Int.le_refl _
  · rw [fn_zeros]
    exact hM.nn k
  · exact offs_le (by rw [fn_zeros, hM.zero])
  · omega
theorem Slow.mid {rs : List Rw} {n i : Nat} {a : List Int} (h : Slow rs n i a) : Mid rs n a a 0 := ⟨h.len, fun _ => Int.le_refl _, h.le, fun r hr => by
  rw [List.take_zero] at hr
  cases hr⟩
theorem Slow.next {rs : List Rw} {n i : Nat} {a m : List Int} (hn : RwIn n rs) (h : Slow rs n i a) (M : Mid rs n a m rs.length) (h0 : fn m 0 = 0) (hs : n + 2 ≤ i → m = a) : Slow rs n (i + 1) m := by
  refine ⟨M.len, h0, fun k => Int.le_trans (h.nn k) (M.up k), M.le, fun W hW hl => ?_, fun hi r hr => ?_⟩
  · have h1 := offs_step (a := fn a) (b := fn m) hn hW hl h.nn h.zero (M.le W hW) ⟨M.up, fun r hr => M.rows r (by rw [List.take_length]; exact hr)⟩
    have h2 := h.off W hW hl
    omega
  · have e := hs (by omega)
    have h1 := M.rows r (by rw [List.take_length]; exact hr)
    rw [e] at h1 ⊢
    exact h1
theorem Slow.none0 {rs : List Rw} {n : Nat} {a m : List Int} {i : Nat} {r : Rw} (M : Mid rs n a m i) (hr : r ∈ rs) (h0 : fn m 0 = 0) (hz : r.1 = 0) (c : fn m r.1 < fn m r.2.1 + r.2.2) : LM rs n none := fun W hW => by
  have h1 := hW.rows r hr
  have h2 := M.le W hW r.2.1
  rw [hz] at h1 c
  rw [hW.zero] at h1
  omega
theorem Slow.noneL {rs : List Rw} {n i : Nat} {a : List Int} {r : Rw} (hn : RwIn n rs) (h : Slow rs n i a) (hi : n + 2 ≤ i) (hr : r ∈ rs) (c : fn a r.1 < fn a r.2.1 + r.2.2) : LM rs n none := fun W0 hW0 => by
  obtain ⟨W, hW, hl⟩ := least_of hW0
  have hz := offs_zero (Nat.le_zero.mp (Nat.le_trans (h.off W hW hl) (by omega)))
  obtain ⟨h1, h2⟩ := hn r hr
  have h3 := hW.rows r hr
  rw [hz _ h1, hz _ h2] at c
  omega
theorem Slow.done {rs : List Rw} {n i : Nat} {m : List Int} (h : Slow rs n i m) (hi : n + 3 ≤ i) : LM rs n (some (m.drop 1)) := by
  obtain ⟨v, t, ht⟩ : ∃ v t, m = v :: t := by
    cases e : m with
    | nil =>
      have := h.len
      rw [e] at this
      cases this
    | cons v t => exact ⟨v, t, rfl⟩
  have hv : v = 0 := by
    have h0 := h.zero
    rw [ht] at h0
    exact h0
  subst hv
  have hl := h.len
  rw [ht, List.length_cons] at hl
  have h1 := h.nn
  have h2 := h.le
  have h3 := h.keep hi
  rw [ht] at h1 h2 h3 ⊢
  exact ⟨by show t.length = n; omega, ⟨rfl, h1, h3⟩, h2⟩

open PySem PySem.Spec PyProof.Rows L2
open PySem.W (EachIs)
/-! ### a list or a tuple, by one word -/
def SqK (K : PySem.W.Frag) (kd : Bool) (H : Hp) (a : Addr) (xs : List V) : Prop := if kd = true then SqL K H a xs else SqT K H a xs
theorem SqK.l {K : PySem.W.Frag} {H : Hp} {a : Addr} {xs : List V} (h : SqL K H a xs) : SqK K true H a xs := h
theorem SqK.t {K : PySem.W.Frag} {H : Hp} {a : Addr} {xs : List V} (h : SqT K H a xs) : SqK K false H a xs := h
theorem SqK.ext {K : PySem.W.Frag} {kd : Bool} {T : List (Addr × Str)} {ms : List Addr} {H H' : Hp} {a : Addr} {xs : List V} (h : SqK K kd H a xs) (e : Ext T ms H H') (ha : a ∉ ms) : SqK K kd H' a xs := by
  cases kd with
  | true => exact e.seqL ha h
  | false => exact e.seqT ha h
theorem SqK.x {K : PySem.W.Frag} {kd : Bool} {T : List (Addr × Str)} {H H' : Hp} {a : Addr} {xs : List V} (h : SqK K kd H a xs) (e : Ext T [] H H') : SqK K kd H' a xs := h.ext e (by simp)
theorem SqK.or {K : PySem.W.Frag} {kd : Bool} {H : Hp} {a : Addr} {xs : List V} (h : SqK K kd H a xs) : SqT K H a xs ∨ SqL K H a xs := by
  cases kd with
  | true => exact .inr h
  | false => exact .inl h
theorem SqK.or' {K : PySem.W.Frag} {kd : Bool} {H : Hp} {a : Addr} {xs : List V} (h : SqK K kd H a xs) : SqL K H a xs ∨ SqT K H a xs := by
  cases kd with
  | true => exact .inl h
  | false => exact .inr h
/-- what is made later may change -/
theorem SqK.own {K : PySem.W.Frag} {kd : Bool} {T : List (Addr × Str)} {H H' : Hp} {a p : Addr} {xs : List V} (h : SqK K kd H a xs) (np : Nw H p) (e : Ext T [p] H H') : SqK K kd H' a xs := by
  have key : ∀ o, (∀ ps, o ≠ .tbl ps) → H a = some o → H' a = some o := fun o ho h1 => e.keep a o (by
    intro hm
    have := np.ne h1 ho
    simp at hm
    exact this hm) ho h1
  cases kd with
  | true =>
    rcases h with (h | ⟨o, h⟩) | h
    · exact .inl (.inl (key _ (fun _ z => by cases z) h))
    · exact .inl (.inr ⟨o, key _ (fun _ z => by cases z) h⟩)
    · exact .inr h
  | false =>
    rcases h with (h | ⟨o, h⟩) | h
    · exact .inl (.inl (key _ (fun _ z => by cases z) h))
    · exact .inl (.inr ⟨o, key _ (fun _ z => by cases z) h⟩)
    · exact .inr h
/-- data in a list or a tuple -/
def DsK (K : PySem.W.Frag) (kd : Bool) (H : Hp) (a : Addr) (ds : List PyData) : Prop := ∃ xs, SqK K kd H a xs ∧ ImAll H xs ds
theorem DsK.x {K : PySem.W.Frag} {kd : Bool} {T : List (Addr × Str)} {H H' : Hp} {a : Addr} {ds : List PyData} (h : DsK K kd H a ds) (e : Ext T [] H H') : DsK K kd H' a ds := by
  obtain ⟨xs, h1, h2⟩ := h
  exact ⟨xs, h1.x e, h2.x e⟩
theorem DsK.ls {K : PySem.W.Frag} {H : Hp} {a : Addr} {ds : List PyData} (h : Ls H a ds) : DsK K true H a ds := by
  obtain ⟨xs, h1, h2⟩ := h
  exact ⟨xs, SqL.of h1, h2⟩
section
variable {K : PySem.W.Frag} {σ : L2.St} {H : Hp} {Q : VK} {te : TE}
theorem rd_starK {t : TA} {kd : Bool} {p : Addr} {xs : List V} {Q : List V → Hp → Prop} (h : SqK K kd H p xs) (q : t σ H fun ys H2 => Q (xs ++ ys) H2) : ∃ p' xs', V.ref p = V.ref p' ∧ (SqT K H p' xs' ∨ SqL K H p' xs') ∧ t σ H fun ys H2 => Q (xs' ++ ys) H2 := ⟨p, xs, rfl, h.or, q⟩
theorem rep_one {α : Type} (n : Nat) (x : α) : (List.replicate n [x]).flatten = List.replicate n x := by
  induction n with
  | zero => rfl
  | succ n ih => rw [List.replicate_succ, List.flatten_cons, ih]; rfl
theorem rd_rep {l : Addr} {x : V} {n : Nat} (h : H l = some (.lst [x])) (hn : n ≤ 1000) (q : ∀ p, H p = none → Q (.ref p) (upd H p (.lst (List.replicate n x)))) : rRep (.ref l) (.int (n : Int)) H Q :=
  ⟨l, n, [x], rfl, rfl, h, by omega, by omega, by
    rw [List.length_singleton, Int.toNat_natCast, Nat.one_mul]
    exact Nat.le_trans hn (by decide), fun p hp => by
    rw [Int.toNat_natCast, rep_one]
    exact q p hp⟩
theorem rd_isN {x : V} (q : Q (.bl (decide (x = .non))) H) : rIsU x .non H Q := .inr ⟨rfl, q⟩
theorem rd_isBl {a b : Bool} (q : Q (.bl (decide (a = b))) H) : rIsU (.bl a) (.bl b) H Q := .inl ⟨a, b, rfl, rfl, q⟩
theorem rd_isnBl {a b : Bool} (q : Q (.bl (!decide (a = b))) H) : rIsNU (.bl a) (.bl b) H Q := .inl ⟨a, b, rfl, rfl, q⟩
theorem rd_isTup {a : Addr} {xs : List V} (h : H a = some (.tup xs)) (q : Q (.bl true) H) : rIsi K [.ref a, .ty "tuple"] H Q := ⟨_, _, _, _, true, rfl, .ty _, .base (.tup h), rfl, q⟩
theorem rd_break {nx bk ct : L2.St → Hp → Prop} {rt : VK} (q : bk σ H) : tBreak ⟨nx, rt, bk, ct⟩ σ H := q
end
/-! ### walked, whichever of the two it is -/
section
variable {K : PySem.W.Frag} {σ : L2.St} {H H1 : Hp} {g : TG} {nx bk ct : L2.St → Hp → Prop} {rt : VK}
theorem forg_any {kd : Bool} {a : Addr} {xs : List V} {tb : TS} (Pv : Nat → L2.St → Hp → Prop) (h0 : Pv 0 σ H) (hl : ∀ i σ H, i ≤ xs.length → Pv i σ H → SqK K kd H a xs)
    (hs : ∀ i x σ H, xs[i]? = some x → Pv i σ H → g x σ H fun σ2 H2 => tb ⟨Pv (i + 1), rt, nx, Pv (i + 1)⟩ σ2 H2) (hd : ∀ σ H, Pv xs.length σ H → nx σ H) :
    ((∃ xs, SqL K H a xs) ∧ ForG (Itl K a) g tb ⟨nx, rt, bk, ct⟩ σ H) ∨ ((∃ xs, SqT K H a xs) ∧ ForG (Itt K a) g tb ⟨nx, rt, bk, ct⟩ σ H) := by
  have h1 := hl 0 σ H (Nat.zero_le _) h0
  cases kd with
  | true => exact .inl ⟨⟨xs, h1⟩, forg_list Pv h0 hl hs hd⟩
  | false => exact .inr ⟨⟨xs, h1⟩, forg_tup Pv h0 hl hs hd⟩
theorem lcg_any (T : List (Addr × Str)) (ms : List Addr) {kd : Bool} {a : Addr} {xs : List V} {Q : VK} {tt : TT} {te : TE} {vs : List Nat} (h : SqK K kd H a xs) (ha : a ∉ ms)
    (hDm : ∀ D, H D = none → D ∉ ms) (hl : xs.length < sizeLine) (p : V → Bool) (Rel : V → V → Prop)
    (step : ∀ (i : Nat) (x : V), xs[i]? = some x → ∀ H', Ext T ms H H' → ∀ (R : V → Hp → Prop) (S : Hp → Prop), (p x = true → ∀ v H2, Ext T ms H' H2 → Rel v x → R v H2) → (p x = false → ∀ H2, Ext T ms H' H2 → S H2) →
      g x (wipe σ vs) H' fun σ2 H2 => wipe σ2 vs = wipe σ vs ∧ tt σ2 H2 fun b H3 => if b = true then te σ2 H3 R else S H3)
    (q : ∀ D H2 ys, Nw H D → Ext T ms H H2 → H2 D = some (.lst ys) → EachIs Rel ys (xs.filter p) → Q (.ref D) H2) :
    ((∃ xs, SqL K H a xs) ∧ LcG (Itl K a) g tt te vs σ H Q) ∨ ((∃ xs, SqT K H a xs) ∧ LcG (Itt K a) g tt te vs σ H Q) := by
  cases kd with
  | true => exact .inl ⟨⟨xs, h⟩, lcg_rel T ms walk_list xs rfl (fun i H x H' y => y) hDm (fun H' e => h.ext e ha) hl p Rel step q⟩
  | false => exact .inr ⟨⟨xs, h⟩, lcg_rel T ms walk_tup xs rfl (fun i H x H' y => y) hDm (fun H' e => h.ext e ha) hl p Rel step q⟩
end
/-- over a range, data without drawing -/
theorem lcg_rangeD (T : List (Addr × Str)) {σ : L2.St} {H : Hp} {Q : VK} {te : TE} {n k : Nat} (f : Nat → PyData) (hn : n < sizeLine)
    (step : ∀ (i : Nat) H', i < n → Ext T [] H H' → ∀ R : VK, (∀ v H2, Ext T [] H' H2 → Im H2 v (f i) → R v H2) → te ((wipe σ [k]).set k (some (.int (0 + (i : Int))))) H' R)
    (q : ∀ D H2, Nw H D → Ext T [] H H2 → Ls H2 D ((List.range n).map f) → Q (.ref D) H2) : LcG (Itr 0 n) (gName k) tYes te [k] σ H Q := fun D hD => by
  refine lc_it walk_range (fun i H2 => Ext T [] H H2 ∧ ∃ ys, H2 D = some (.lst ys) ∧ ys.length = i ∧ ImAll H2 ys ((List.range i).map f)) ⟨.new hD, [], upd_same, rfl, .nil⟩ (fun _ _ _ _ => True.intro) (fun i x H1 H' hi h y => ?_) (fun H1 h => ?_)
  · obtain ⟨e1, e2⟩ := y
    subst e1
    subst e2
    obtain ⟨h1, ys, h3, h4, h5⟩ := h
    refine ⟨wipe1, step i H' hi h1 _ fun v H2 e hv => ?_⟩
    have h3' := lst.x h3 e
    refine ⟨ys, h3', by omega, (h1.trans e).own (.of hD) h3', ys ++ [v], upd_same, by rw [List.length_append, h4]; rfl, ?_⟩
    have eD : Ext T [D] H2 (upd H2 D (.lst (ys ++ [v]))) := Ext.mut (by simp) h3'
    have hLD : Lsts H2 [D] := fun b hb => ⟨ys, by rw [List.mem_singleton.mp hb]; exact h3'⟩
    rw [List.range_succ, List.map_append]
    exact (ImAll.ext eD hLD _ _ (h5.x e)).snoc (Im.ext eD hLD _ _ hv)
  · obtain ⟨h1, ys, h3, h4, h5⟩ := h
    exact q D H1 (.of hD) h1 ⟨ys, h3, h5⟩
/-! ### rows of three numbers -/
theorem Im.rw' {H : Hp} {v : V} {r : Rw} (h : Im H v (rwD r)) : ∃ a, v = .ref a ∧ SqP H a [.int (r.1 : Int), .int (r.2.1 : Int), .int r.2.2] := by
  obtain ⟨a, xs, rfl, h1, h2⟩ := Im.tup' h
  cases h2 with
  | cons a1 h2 =>
    cases h2 with
    | cons a2 h2 =>
      cases h2 with
      | cons a3 h2 =>
        cases h2
        rw [a1.int', a2.int', a3.int'] at h1
        exact ⟨a, rfl, h1⟩
theorem rw_new {H : Hp} {a : Addr} {r : Rw} (h : H a = some (.tup [.int (r.1 : Int), .int (r.2.1 : Int), .int r.2.2])) : Im H (.ref a) (rwD r) := .new3 (.int _) (.int _) (.int _) h
theorem rwD_inj {a b : Rw} (h : rwD a = rwD b) : a = b := by
  obtain ⟨a1, a2, a3⟩ := a
  obtain ⟨b1, b2, b3⟩ := b
  unfold rwD at h
  injection h with h
  injection h with h1 h
  injection h with h2 h
  injection h with h3 _
  injection h1 with h1
  injection h2 with h2
  injection h3 with h3
  have e1 : a1 = b1 := Int.ofNat.inj h1
  have e2 : a2 = b2 := Int.ofNat.inj h2
  have e3 : a3 = b3 := h3
  rw [e1, e2, e3]
theorem rw_get {H : Hp} {xs : List V} {rs : List Rw} {i : Nat} {x : V} (h : ImAll H xs (rs.map rwD)) (hx : xs[i]? = some x) : ∃ r, rs[i]? = some r ∧ Im H x (rwD r) := by
  obtain ⟨d, h1, h2⟩ := h.get' hx
  rw [List.getElem?_map] at h1
  obtain ⟨r, h3, rfl⟩ := Option.map_eq_some_iff.mp h1
  exact ⟨r, h3, h2⟩
theorem rd_grow {K : PySem.W.Frag} {σ : L2.St} {H : Hp} {i j l : Nat} {v : V} {r : Rw} {Q : L2.St → Hp → Prop} (h : Im H v (rwD r)) (q : Q (((σ.set i (some (.int (r.1 : Int)))).set j (some (.int (r.2.1 : Int)))).set l (some (.int r.2.2))) H) :
    gTupU K 3 (gCons (gName i) (gCons (gName j) (gCons (gName l) gNil))) v σ H Q := by
  obtain ⟨a, rfl, h1⟩ := h.rw'
  exact rd_gtup (SqP.t h1) rfl (rd_gcons (rd_name (rd_gcons (rd_name (rd_gcons (rd_name (rd_gnil q)))))))
theorem at_fn {m : List Int} {k : Nat} (h : k < m.length) : atI (m.map V.int) (k : Int) = some (.int (fn m k)) := by
  refine atI_nat ?_
  rw [List.getElem?_map, List.getElem?_eq_getElem h]
  unfold fn
  rw [List.getD_eq_getElem?_getD, List.getElem?_eq_getElem h]
  rfl
theorem map_set {α β : Type} {f : α → β} (l : List α) (k : Nat) (v : α) : (l.map f).set k (f v) = (l.set k v).map f := by rw [List.map_set]
theorem ixN_nat {n k : Nat} (h : k < n) : ixN n (k : Int) = some k := by
  unfold ixN
  rw [if_pos (by omega), if_pos (by omega), Int.toNat_natCast]
/-- one of a list written there, drawn -/
theorem rd_pickL {K : PySem.W.Frag} {T : List (Addr × Str)} {σ : L2.St} {H : Hp} {Q : VK} {xs : List V} {l t : Addr} {i : Nat} {m : Int} (hσ : σ[i]? = some (some (.ref t))) (hT : Tape l H t) (hl : (xs.length : Int) = m) (h0 : 0 < m) (h1 : m ≤ 1000)
    (q : ∀ c ∈ xs, ∀ H', Ext T [t] H H' → Tape l H' t → Q c H') :
    xs.length ≤ sizeLine ∧ ∀ p, H p = none → tCall (spTake T) [] E0 (tCons (tVar i) (tCons (tC (.int m)) tNil)) σ (upd H p (.lst xs)) fun y H2 => rIx K (.ref p) y H2 Q := by
  refine ⟨Nat.le_trans (show _ ≤ 1000 by omega) (by decide), fun p np => ?_⟩
  have e1 : Ext T [] H (upd H p (.lst xs)) := .new np
  have T1 := hT.ext e1
  have h2 : (upd H p (.lst xs)) p = some (.lst xs) := upd_same
  have hpt : p ≠ t := (hT.ne (.of np)).1
  generalize upd H p _ = H1 at e1 T1 h2 ⊢
  refine ⟨_, hσ, l, t, m, rfl, h0, by omega, T1, fun d H2 hd0 hd1 e2 T2 => ?_⟩
  obtain ⟨c, hc1, _, hc2⟩ := at_in (l := xs) hd0 (by omega)
  exact rd_ixL (SqL.of (e2.lst (by simpa using hpt) h2)) hc1 (q c hc2 H2 (e1.any.trans e2) T2)
theorem Ls.app {T : List (Addr × Str)} {H : Hp} {a : Addr} {xs : List V} {ds : List PyData} {v : V} {d : PyData} (ha : H a = some (.lst xs)) (hi : ImAll H xs ds) (hv : Im H v d) : Ls (upd H a (.lst (xs ++ [v]))) a (ds ++ [d]) ∧ Ext T [a] H (upd H a (.lst (xs ++ [v]))) := by
  have eD : Ext T [a] H (upd H a (.lst (xs ++ [v]))) := Ext.mut (by simp) ha
  have hLD : Lsts H [a] := fun b hb => ⟨xs, by rw [List.mem_singleton.mp hb]; exact ha⟩
  exact ⟨⟨_, upd_same, (ImAll.ext eD hLD _ _ hi).snoc (Im.ext eD hLD _ _ hv)⟩, eD⟩

open PySem PySem.Spec PyProof.Rows L2
/-! ### causes: where they lead -/
def cz (c : List (Option Rw)) (k : Nat) : Option Rw := c.getD k none
theorem cz_set {c : List (Option Rw)} {k j : Nat} {v : Option Rw} (hk : k < c.length) : cz (c.set k v) j = if j = k then v else cz c j := by
  unfold cz
  rw [List.getD_eq_getElem?_getD, List.getD_eq_getElem?_getD, List.getElem?_set]
  by_cases h : j = k
  · subst h
    rw [if_pos rfl, if_pos rfl, if_pos hk]
    rfl
  · rw [if_neg (fun e => h e.symm), if_neg h]
inductive Path (c : List (Option Rw)) : Nat → Nat → Nat → Int → Prop
  | nil (k : Nat) : Path c k k 0 0
  | cons {k j p : Nat} {L : Int} {r : Rw} : cz c k = some r → Path c r.2.1 j p L → Path c k j (p + 1) (r.2.2 + L)
structure Caus (ws : List Rw) (m : List Int) (c : List (Option Rw)) : Prop where
  own : ∀ k r, cz c k = some r → r.1 = k ∧ r ∈ ws ∧ fn m k ≤ fn m r.2.1 + r.2.2
  pos : ∀ k p L, Path c k k (p + 1) L → 0 < L
theorem Caus.path {ws : List Rw} {m : List Int} {c : List (Option Rw)} (h : Caus ws m c) : ∀ {k j p : Nat} {L : Int}, Path c k j p L → fn m k ≤ fn m j + L
  | _, _, _, _, .nil k => by omega
  | _, _, _, _, .cons h1 t => by
    have h2 := (h.own _ _ h1).2.2
    have h3 := Caus.path h t
    omega
theorem Caus.step {ws : List Rw} {m : List Int} {c : List (Option Rw)} {w : Rw} (h : Caus ws m c) (hw : w ∈ ws) (hm : w.1 < m.length) (hc : w.1 < c.length) (hlt : fn m w.1 < fn m w.2.1 + w.2.2) :
    Caus ws (m.set w.1 (fn m w.2.1 + w.2.2)) (c.set w.1 (some w)) := by
  have up : ∀ k, fn m k ≤ fn (m.set w.1 (fn m w.2.1 + w.2.2)) k := fun k => by
    rw [fn_set hm]
    by_cases e : k = w.1
    · rw [if_pos e, e]
      omega
    · rw [if_neg e]
      exact Int.le_refl _
  have key : ∀ {a b p : Nat} {L : Int}, Path (c.set w.1 (some w)) a b p L → fn m a < fn m b + L ∨ Path c a b p L := by
    intro a b p L hp
    induction hp with
    | nil k => exact .inr (.nil k)
    | @cons k j p L r h1 t ih =>
      have hle : fn m r.2.1 ≤ fn m j + L := by
        rcases ih with ih | ih
        · omega
        · exact h.path ih
      rw [cz_set hc] at h1
      by_cases e : k = w.1
      · rw [if_pos e] at h1
        injection h1 with h1
        subst h1
        rw [e]
        exact .inl (by omega)
      · rw [if_neg e] at h1
        have h2 := (h.own _ _ h1).2.2
        rcases ih with ih | ih
        · exact .inl (by omega)
        · exact .inr (.cons h1 ih)
  refine ⟨fun k r hr => ?_, fun k p L hp => ?_⟩
  · rw [cz_set hc] at hr
    by_cases e : k = w.1
    · rw [if_pos e] at hr
      injection hr with hr
      subst hr
      refine ⟨e.symm, hw, ?_⟩
      have := up w.2.1
      rw [e, fn_set hm, if_pos rfl]
      omega
    · rw [if_neg e] at hr
      obtain ⟨h1, h2, h3⟩ := h.own k r hr
      refine ⟨h1, h2, ?_⟩
      have := up r.2.1
      rw [fn_set hm, if_neg e]
      omega
  · rcases key hp with hp | hp
    · omega
    · exact h.pos k p L hp
/-- in which round a moment was raised last -/
structure Rank (ws : List Rw) (i : Nat) (prev : Nat → Int) (m : List Int) (c : List (Option Rw)) (tt : Nat → Nat) : Prop where
  le : ∀ k, tt k ≤ i
  has : ∀ k, 1 ≤ tt k → ∃ r, cz c k = some r ∧ tt k ≤ tt r.2.1 + 1
  same : ∀ k, tt k < i → fn m k = prev k
  rnd : 1 ≤ i → ∀ r ∈ ws, prev r.2.1 + r.2.2 ≤ fn m r.1
structure InR (ws : List Rw) (i : Nat) (m0 : List Int) (t0 : Nat → Nat) (t : SS) (tt : Nat → Nat) : Prop where
  le : ∀ k, tt k ≤ i + 1
  up : ∀ k, t0 k ≤ tt k
  has : ∀ k, 1 ≤ tt k → ∃ r, cz t.c k = some r ∧ tt k ≤ tt r.2.1 + 1
  same : ∀ k, tt k ≤ i → fn t.m k = fn m0 k ∧ tt k = t0 k
  rais : ∀ k, t.r = some k → tt k = i + 1
  mup : ∀ k, fn m0 k ≤ fn t.m k
  cs : Caus ws t.m t.c
theorem inR_fold {ws : List Rw} {n i : Nat} {m0 : List Int} {t0 : Nat → Nat} {prev : Nat → Int} {c0 : List (Option Rw)} (hws : RwIn n ws) (R : Rank ws i prev m0 c0 t0) : ∀ {us : List Rw} {t : SS} {tt : Nat → Nat}, (∀ r ∈ us, r ∈ ws) → t.m.length = n + 1 → t.c.length = n + 1 → InR ws i m0 t0 t tt →
    ∃ tt', InR ws i m0 t0 (us.foldl SS.step t) tt'
  | [], t, tt, _, _, _, h => ⟨tt, h⟩
  | w :: us, t, tt, hu, hm, hc, h => by
    have hw := hu w List.mem_cons_self
    obtain ⟨h1, h2⟩ := hws w hw
    have hk : w.1 < t.m.length := by omega
    have hk2 : w.1 < t.c.length := by omega
    have hus : ∀ r ∈ us, r ∈ ws := fun r hr => hu r (List.mem_cons_of_mem _ hr)
    by_cases c : fn t.m w.1 < fn t.m w.2.1 + w.2.2
    · have e : t.step w = ⟨t.m.set w.1 (fn t.m w.2.1 + w.2.2), t.c.set w.1 (some w), some w.1⟩ := if_pos c
      have hj : i ≤ tt w.2.1 := Classical.byContradiction fun hlt => by
        obtain ⟨e1, e2⟩ := h.same w.2.1 (by omega)
        have e3 := R.same w.2.1 (by omega)
        have e4 := R.rnd (by omega) w hw
        have e5 := h.mup w.1
        omega
      refine inR_fold hws R (us := us) (t := t.step w) (tt := fun x => if x = w.1 then i + 1 else tt x) hus (by rw [e]; show (t.m.set _ _).length = _; rw [List.length_set]; exact hm) (by rw [e]; show (t.c.set _ _).length = _; rw [List.length_set]; exact hc) ?_
      have tup : ∀ x, tt x ≤ if x = w.1 then i + 1 else tt x := fun x => by
        by_cases ex : x = w.1
        · rw [if_pos ex]
          exact h.le x
        · rw [if_neg ex]
          exact Nat.le_refl _
      rw [e]
      refine ⟨fun k => ?_, fun k => Nat.le_trans (h.up k) (tup k), fun k hk1 => ?_, fun k hki => ?_, fun k hkr => ?_, fun k => ?_, h.cs.step hw hk hk2 c⟩
      · by_cases ex : k = w.1
        · rw [if_pos ex]
          exact Nat.le_refl _
        · rw [if_neg ex]
          exact h.le k
      · show ∃ r, cz (t.c.set w.1 (some w)) k = some r ∧ _
        rw [cz_set hk2]
        by_cases ex : k = w.1
        · rw [if_pos ex, if_pos ex]
          refine ⟨w, rfl, ?_⟩
          have := tup w.2.1
          omega
        · rw [if_neg ex, if_neg ex]
          rw [if_neg ex] at hk1
          obtain ⟨r, h3, h4⟩ := h.has k hk1
          refine ⟨r, h3, ?_⟩
          have := tup r.2.1
          omega
      · by_cases ex : k = w.1
        · rw [if_pos ex] at hki
          omega
        · rw [if_neg ex] at hki ⊢
          obtain ⟨h3, h4⟩ := h.same k hki
          refine ⟨?_, h4⟩
          show fn (t.m.set _ _) k = _
          rw [fn_set hk, if_neg ex]
          exact h3
      · injection hkr with hkr
        rw [if_pos hkr.symm]
      · show _ ≤ fn (t.m.set _ _) k
        rw [fn_set hk]
        by_cases ex : k = w.1
        · rw [if_pos ex, ex]
          have := h.mup w.1
          omega
        · rw [if_neg ex]
          exact h.mup k
    · have e : t.step w = t := if_neg c
      have e2 : (w :: us).foldl SS.step t = us.foldl SS.step t := by rw [List.foldl_cons, e]
      rw [e2]
      exact inR_fold hws R hus hm hc h
theorem settle_cause {rs : List Rw} {n : Nat} (hn : RwIn n rs) : ∀ (f i : Nat) (s : SS) (prev : Nat → Int) (tt : Nat → Nat), f + i = n + 1 → f ≠ 0 → s.m.length = n + 1 → s.c.length = n + 1 → Caus (allRows rs n) s.m s.c → Rank (allRows rs n) i prev s.m s.c tt →
    ∀ k, (settleF (allRows rs n) f s).r = some k → ∃ prev' tt', Caus (allRows rs n) (settleF (allRows rs n) f s).m (settleF (allRows rs n) f s).c ∧ Rank (allRows rs n) (n + 1) prev' (settleF (allRows rs n) f s).m (settleF (allRows rs n) f s).c tt' ∧ tt' k = n + 1
  | 0, _, _, _, _, _, h, _, _, _, _ => absurd rfl h
  | f + 1, i, s, prev, tt, hf, _, hm, hc, C, R => by
    intro k hk
    have F := fold_ok (s := ⟨s.m, s.c, none⟩) (allRows_in hn) hm
    obtain ⟨tt', I⟩ := inR_fold (us := allRows rs n) (t := ⟨s.m, s.c, none⟩) (tt := tt) (allRows_in hn) R (fun _ h => h) hm hc
      ⟨fun k => Nat.le_succ_of_le (R.le k), fun _ => Nat.le_refl _, R.has, fun k _ => ⟨rfl, rfl⟩, (fun k h => by cases h), fun _ => Int.le_refl _, C⟩
    have R2 : Rank (allRows rs n) (i + 1) (fn s.m) (s.pass (allRows rs n)).m (s.pass (allRows rs n)).c tt' := ⟨I.le, I.has, fun k h => (I.same k (by omega)).1, fun _ r hr => F.rows r hr⟩
    unfold settleF at hk ⊢
    by_cases hr : (s.pass (allRows rs n)).r = none
    · rw [if_pos hr] at hk
      rw [hr] at hk
      cases hk
    · rw [if_neg hr] at hk ⊢
      by_cases hz : f = 0
      · subst hz
        have hk : (s.pass (allRows rs n)).r = some k := hk
        show ∃ prev' tt', Caus _ (s.pass (allRows rs n)).m (s.pass (allRows rs n)).c ∧ Rank _ _ _ (s.pass (allRows rs n)).m (s.pass (allRows rs n)).c _ ∧ _
        have hi : i + 1 = n + 1 := by omega
        rw [hi] at R2
        exact ⟨_, tt', I.cs, R2, by rw [I.rais k hk, hi]⟩
      · exact settle_cause hn f (i + 1) _ _ _ (by omega) hz (F.len.trans hm) (F.clen.trans hc) I.cs R2 k hk
theorem cz_nones (n k : Nat) : cz (List.replicate n none) k = none := by
  unfold cz
  rw [List.getD_eq_getElem?_getD, List.getElem?_replicate]
  by_cases h : k < n
  · rw [if_pos h]
    rfl
  · rw [if_neg h]
    rfl
/-! ### the way along the causes -/
def cs (c : List (Option Rw)) (k : Nat) : Rw := (cz c k).getD (0, 0, 0)
def nxc (c : List (Option Rw)) (k : Nat) : Nat := (cs c k).2.1
def itc (c : List (Option Rw)) (k : Nat) : Nat → Nat
  | 0 => k
  | p + 1 => nxc c (itc c k p)
def ringL (c : List (Option Rw)) (k p : Nat) : List Rw := (List.range p).map fun i => cs c (itc c k i)
theorem itc_add (c : List (Option Rw)) (k p : Nat) : ∀ q, itc c (itc c k p) q = itc c k (p + q)
  | 0 => rfl
  | q + 1 => by
    show nxc c (itc c (itc c k p) q) = nxc c (itc c k (p + q))
    rw [itc_add c k p q]
theorem itc_front (c : List (Option Rw)) (k q : Nat) : itc c (nxc c k) q = itc c k (q + 1) := by
  have := itc_add c k 1 q
  rw [show itc c k 1 = nxc c k from rfl] at this
  rw [this, Nat.add_comm]
/-- the causes lead on for ever, and back -/
structure Cyc (n : Nat) (c : List (Option Rw)) (k p : Nat) : Prop where
  pos : 1 ≤ p
  back : itc c k p = k
  some : ∀ q, ∃ r, cz c (itc c k q) = some r
  le : ∀ q, itc c k q ≤ n
  sm : p ≤ n + 1
theorem pigeon : ∀ (n : Nat) (v : Nat → Nat), (∀ i, i ≤ n + 1 → v i ≤ n) → ∃ a b, a < b ∧ b ≤ n + 1 ∧ v a = v b := by
  intro n
  induction n with
  | zero =>
    intro v h
    refine ⟨0, 1, by omega, by omega, ?_⟩
    have h0 := h 0 (by omega)
    have h1 := h 1 (by omega)
    omega
  | succ n ih =>
    intro v h
    by_cases e : ∃ a, a ≤ n + 1 ∧ v a = v (n + 2)
    · obtain ⟨a, h1, h2⟩ := e
      exact ⟨a, n + 2, by omega, by omega, h2⟩
    · -- the last value is taken once: close the gap
      have hne : ∀ a, a ≤ n + 1 → v a ≠ v (n + 2) := fun a h1 h2 => e ⟨a, h1, h2⟩
      have hl := h (n + 2) (by omega)
      obtain ⟨a, b, h1, h2, h3⟩ := ih (fun i => if v i < v (n + 2) then v i else v i - 1) (fun i hi => by
        have h4 := h i (by omega)
        have h5 := hne i hi
        by_cases hlt : v i < v (n + 2)
        · show (if v i < v (n + 2) then v i else v i - 1) ≤ n
          rw [if_pos hlt]
          omega
        · show (if v i < v (n + 2) then v i else v i - 1) ≤ n
          rw [if_neg hlt]
          omega)
      refine ⟨a, b, h1, by omega, ?_⟩
      have h3 : (if v a < v (n + 2) then v a else v a - 1) = (if v b < v (n + 2) then v b else v b - 1) := h3
      have ha := hne a (by omega)
      have hb := hne b (by omega)
      by_cases p1 : v a < v (n + 2)
      · by_cases p2 : v b < v (n + 2)
        · rw [if_pos p1, if_pos p2] at h3
          exact h3
        · rw [if_pos p1, if_neg p2] at h3
          omega
      · by_cases p2 : v b < v (n + 2)
        · rw [if_neg p1, if_pos p2] at h3
          omega
        · rw [if_neg p1, if_neg p2] at h3
          omega
theorem cyc_of {ws : List Rw} {n k : Nat} {prev : Nat → Int} {m : List Int} {c : List (Option Rw)} {tt : Nat → Nat} (hws : RwIn n ws) (C : Caus ws m c) (R : Rank ws (n + 1) prev m c tt) (hk : k ≤ n) (ht : tt k = n + 1) :
    (∀ q, q ≤ n → (∃ r, cz c (itc c k q) = some r) ∧ itc c k q ≤ n) ∧ itc c k (n + 1) ≤ n ∧ ∃ p, Cyc n c (itc c k (n + 1)) p := by
  have chain : ∀ q, q ≤ n + 1 → itc c k q ≤ n ∧ n + 1 - q ≤ tt (itc c k q) := by
    intro q
    induction q with
    | zero => exact fun _ => ⟨hk, by rw [show itc c k 0 = k from rfl, ht]; exact Nat.le_refl _⟩
    | succ q ih =>
      intro hq
      obtain ⟨h1, h2⟩ := ih (by omega)
      obtain ⟨r, h3, h4⟩ := R.has (itc c k q) (by omega)
      obtain ⟨h5, h6, h7⟩ := C.own _ _ h3
      have e : itc c k (q + 1) = r.2.1 := by
        show (cs c (itc c k q)).2.1 = _
        unfold cs
        rw [h3]
        rfl
      rw [e]
      exact ⟨(hws r h6).2, by omega⟩
  have has : ∀ q, q ≤ n → ∃ r, cz c (itc c k q) = some r := fun q hq => by
    obtain ⟨h1, h2⟩ := chain q (by omega)
    obtain ⟨r, h3, _⟩ := R.has (itc c k q) (by omega)
    exact ⟨r, h3⟩
  refine ⟨fun q hq => ⟨has q hq, (chain q (by omega)).1⟩, (chain (n + 1) (Nat.le_refl _)).1, ?_⟩
  obtain ⟨a, b, h1, h2, h3⟩ := pigeon n (itc c k) fun i hi => (chain i hi).1
  have per : ∀ q, itc c k (a + q) = itc c k (b + q) := fun q => by rw [← itc_add, ← itc_add, h3]
  -- the place after all the steps is one that was there before
  have hc : itc c k (n + 1) = itc c k (a + (n + 1 - b)) := by
    rw [per, show b + (n + 1 - b) = n + 1 by omega]
  -- every place from a on is one from a to b
  have fold : ∀ q, ∃ q', a ≤ q' ∧ q' < b ∧ itc c k (a + q) = itc c k q' := by
    intro q
    induction q using Nat.strongRecOn with
    | _ q ih =>
      by_cases hq : a + q < b
      · exact ⟨a + q, by omega, hq, rfl⟩
      · obtain ⟨q', h4, h5, h6⟩ := ih (a + q - b) (by omega)
        refine ⟨q', h4, h5, ?_⟩
        have h7 := per (a + q - b)
        rw [show b + (a + q - b) = a + q by omega] at h7
        rw [← h6, h7]
  refine ⟨b - a, by omega, ?_, fun q => ?_, fun q => ?_, by omega⟩
  · rw [itc_add, show n + 1 + (b - a) = b + (n + 1 - a) by omega, ← per, show a + (n + 1 - a) = n + 1 by omega]
  · rw [hc, itc_add, show a + (n + 1 - b) + q = a + (n + 1 - b + q) by omega]
    obtain ⟨q', h4, h5, h6⟩ := fold (n + 1 - b + q)
    rw [h6]
    exact has q' (by omega)
  · rw [hc, itc_add, show a + (n + 1 - b) + q = a + (n + 1 - b + q) by omega]
    obtain ⟨q', h4, h5, h6⟩ := fold (n + 1 - b + q)
    rw [h6]
    exact (chain q' (by omega)).1
theorem cs_of {c : List (Option Rw)} {k : Nat} {r : Rw} (h : cz c k = some r) : cs c k = r := by
  unfold cs
  rw [h]
  rfl
theorem path_ring {c : List (Option Rw)} : ∀ {p k : Nat}, (∀ q, q < p → ∃ r, cz c (itc c k q) = some r) → Path c k (itc c k p) p ((ringL c k p).map (·.2.2)).sum
  | 0, k, _ => .nil k
  | p + 1, k, h => by
    obtain ⟨r, hr⟩ := h 0 (by omega)
    have e1 : ringL c k (p + 1) = cs c k :: ringL c (nxc c k) p := by
      unfold ringL
      rw [List.range_succ_eq_map, List.map_cons, List.map_map]
      congr 1
      exact List.map_congr_left fun i _ => by
        show cs c (itc c k (i + 1)) = _
        rw [itc_front]
    have hr' : cz c k = some r := hr
    have e2 : nxc c k = r.2.1 := by
      unfold nxc
      rw [cs_of hr']
    have ih := path_ring (c := c) (p := p) (k := nxc c k) fun q hq => by
      rw [itc_front]
      exact h (q + 1) (by omega)
    rw [e1, List.map_cons, List.sum_cons, cs_of hr', ← itc_front]
    rw [e2] at ih ⊢
    exact .cons hr' ih
/-! ### rings -/
def knownB (rs : List Rw) (r : Rw) : Bool := decide (r ∈ rs) || (decide (r.2.1 = 0) && decide (r.2.2 = 0))
def behindL (ring : List Rw) : List Rw := ring.drop 1 ++ ring.take 1
def linkB (ring : List Rw) : Bool := (ring.zip (behindL ring)).all fun p => decide (p.1.2.1 = p.2.1)
def sumL (ring : List Rw) : Int := (ring.map (·.2.2)).sum
def ringB (rs ring : List Rw) : Bool := !ring.isEmpty && (linkB ring && (ring.all (knownB rs) && decide (0 < sumL ring)))
theorem behind_len (ring : List Rw) : (behindL ring).length = ring.length := by
  unfold behindL
  rw [List.length_append, List.length_drop, List.length_take]
  omega
theorem behind_get {ring : List Rw} {i : Nat} (h : i < ring.length) : (behindL ring)[i]? = ring[(i + 1) % ring.length]? := by
  unfold behindL
  by_cases e : i + 1 < ring.length
  · rw [List.getElem?_append_left (by rw [List.length_drop]; omega), List.getElem?_drop, Nat.mod_eq_of_lt e, Nat.add_comm]
  · have e2 : i + 1 = ring.length := by omega
    rw [List.getElem?_append_right (by rw [List.length_drop]; omega), List.length_drop, e2, Nat.mod_self, show i - (ring.length - 1) = 0 by omega, List.getElem?_take_of_lt (by omega)]
theorem link_iff {ring : List Rw} : linkB ring = true ↔ ∀ i r s, ring[i]? = some r → ring[(i + 1) % ring.length]? = some s → r.2.1 = s.1 := by
  unfold linkB
  rw [List.all_eq_true]
  constructor
  · intro h i r s hr hs
    have hi : i < ring.length := (List.getElem?_eq_some_iff.mp hr).1
    have hz : (ring.zip (behindL ring))[i]? = some (r, s) := by
      rw [List.getElem?_zip_eq_some]
      exact ⟨hr, by rw [behind_get hi]; exact hs⟩
    exact of_decide_eq_true (h (r, s) (List.mem_of_getElem? hz))
  · intro h x hx
    obtain ⟨i, hi⟩ := List.mem_iff_getElem?.mp hx
    rw [show x = (x.1, x.2) from rfl, List.getElem?_zip_eq_some] at hi
    obtain ⟨h1, h2⟩ := hi
    have hl : i < ring.length := (List.getElem?_eq_some_iff.mp h1).1
    rw [behind_get hl] at h2
    exact decide_eq_true (h i _ _ h1 h2)
theorem ringL_len (c : List (Option Rw)) (k p : Nat) : (ringL c k p).length = p := by
  unfold ringL
  rw [List.length_map, List.length_range]
theorem ringL_get {c : List (Option Rw)} {k p i : Nat} (h : i < p) : (ringL c k p)[i]? = some (cs c (itc c k i)) := by
  unfold ringL
  rw [List.getElem?_map, List.getElem?_range h]
  rfl
theorem ringL_snoc (c : List (Option Rw)) (k p : Nat) : ringL c k (p + 1) = ringL c k p ++ [cs c (itc c k p)] := by
  unfold ringL
  rw [List.range_succ, List.map_append]
  rfl
theorem ringL_rot {c : List (Option Rw)} {k p b : Nat} (hb : b ≤ p) (hp : itc c k p = k) : (ringL c k p).drop b ++ (ringL c k p).take b = ringL c (itc c k b) p := by
  refine List.ext_getElem? fun i => ?_
  by_cases h : i < p
  · rw [ringL_get h, itc_add]
    by_cases h2 : i < p - b
    · rw [List.getElem?_append_left (by rw [List.length_drop, ringL_len]; exact h2), List.getElem?_drop, ringL_get (by omega)]
    · rw [List.getElem?_append_right (by rw [List.length_drop, ringL_len]; omega), List.length_drop, ringL_len, List.getElem?_take_of_lt (by omega), ringL_get (by omega)]
      have e : itc c k (b + i) = itc c (itc c k p) (i - (p - b)) := by
        rw [itc_add, show p + (i - (p - b)) = b + i by omega]
      rw [e, hp]
  · rw [List.getElem?_eq_none (by rw [List.length_append, List.length_drop, List.length_take, ringL_len]; omega), List.getElem?_eq_none (by rw [ringL_len]; omega)]
theorem Cyc.rot {n : Nat} {c : List (Option Rw)} {k p b : Nat} (h : Cyc n c k p) : Cyc n c (itc c k b) p := by
  refine ⟨h.pos, ?_, fun q => ?_, fun q => ?_, h.sm⟩
  · rw [itc_add, Nat.add_comm, ← itc_add, h.back]
  · rw [itc_add]
    exact h.some _
  · rw [itc_add]
    exact h.le _
theorem known_all {rs : List Rw} {n : Nat} {r : Rw} (h : r ∈ allRows rs n) : knownB rs r = true := by
  unfold knownB
  rcases List.mem_append.mp h with h | h
  · rw [decide_eq_true h]
    rfl
  · obtain ⟨k, _, rfl⟩ := List.mem_map.mp h
    rw [decide_eq_true (show ((k, 0, 0) : Rw).2.1 = 0 from rfl), decide_eq_true (show ((k, 0, 0) : Rw).2.2 = 0 from rfl), Bool.and_self, Bool.or_true]
theorem ring_ok {rs : List Rw} {n m' : Nat} {m : List Int} {c : List (Option Rw)} {k p : Nat} (C : Caus (allRows rs n) m c) (h : Cyc m' c k p) : ringB rs (ringL c k p) = true := by
  have one : ∀ q, ∃ r, cz c (itc c k q) = some r ∧ cs c (itc c k q) = r ∧ r.1 = itc c k q ∧ r ∈ allRows rs n ∧ r.2.1 = itc c k (q + 1) := fun q => by
    obtain ⟨r, hr⟩ := h.some q
    obtain ⟨h1, h2, _⟩ := C.own _ _ hr
    refine ⟨r, hr, cs_of hr, h1, h2, ?_⟩
    show _ = (cs c (itc c k q)).2.1
    rw [cs_of hr]
  have hp := h.pos
  unfold ringB
  rw [show (!(ringL c k p).isEmpty) = true by
    cases e : ringL c k p with
    | nil =>
      have := ringL_len c k p
      rw [e] at this
      simp at this
      omega
    | cons a b => rfl]
  rw [show linkB (ringL c k p) = true by
    rw [link_iff]
    intro i r s hr hs
    have hi : i < p := by
      have := (List.getElem?_eq_some_iff.mp hr).1
      rw [ringL_len] at this
      exact this
    rw [ringL_get hi] at hr
    injection hr with hr
    rw [ringL_len, ringL_get (Nat.mod_lt _ (by omega))] at hs
    injection hs with hs
    obtain ⟨r1, _, e1, _, _, e2⟩ := one i
    rw [← hr, ← hs, e1, e2]
    obtain ⟨r2, _, e3, e4, _, _⟩ := one ((i + 1) % p)
    rw [e3, e4]
    by_cases hl : i + 1 < p
    · rw [Nat.mod_eq_of_lt hl]
    · have e5 : i + 1 = p := by omega
      rw [e5, Nat.mod_self, h.back]
      rfl]
  rw [show (ringL c k p).all (knownB rs) = true by
    rw [List.all_eq_true]
    intro r hr
    obtain ⟨i, hi, rfl⟩ := List.mem_map.mp hr
    obtain ⟨r1, _, e1, _, e2, _⟩ := one i
    rw [e1]
    exact known_all e2]
  rw [show decide (0 < sumL (ringL c k p)) = true by
    obtain ⟨p', rfl⟩ : ∃ p', p = p' + 1 := ⟨p - 1, by omega⟩
    have h1 := path_ring (c := c) (p := p' + 1) (k := k) fun q _ => h.some q
    rw [h.back] at h1
    exact decide_eq_true (C.pos _ _ _ h1)]
  rfl
/-- what the search tells of a ring -/
theorem settle_ring {rs : List Rw} {n k : Nat} (hn : RwIn n rs) (hk : (settleF (allRows rs n) (n + 1) (SS.zero n)).r = some k) :
    Caus (allRows rs n) (settleF (allRows rs n) (n + 1) (SS.zero n)).m (settleF (allRows rs n) (n + 1) (SS.zero n)).c ∧
    (∀ q, q ≤ n → (∃ r, cz (settleF (allRows rs n) (n + 1) (SS.zero n)).c (itc (settleF (allRows rs n) (n + 1) (SS.zero n)).c k q) = some r) ∧ itc (settleF (allRows rs n) (n + 1) (SS.zero n)).c k q ≤ n) ∧
    ∃ p, Cyc n (settleF (allRows rs n) (n + 1) (SS.zero n)).c (itc (settleF (allRows rs n) (n + 1) (SS.zero n)).c k (n + 1)) p := by
  obtain ⟨prev, tt, C, R, ht⟩ := settle_cause hn (n + 1) 0 (SS.zero n) (fun _ => 0) (fun _ => 0) (by omega) (by omega) List.length_replicate List.length_replicate
    ⟨(fun k r h => by
      rw [show cz (SS.zero n).c k = none from cz_nones _ _] at h
      cases h), (fun k p L h => by
      cases h with
      | cons h1 _ =>
        rw [show cz (SS.zero n).c k = none from cz_nones _ _] at h1
        cases h1)⟩
    ⟨fun _ => Nat.le_refl _, fun k h => by omega, fun k h => by omega, fun h => by omega⟩ k hk
  obtain ⟨_, _, _, h4⟩ := settle_ok hn
  obtain ⟨h1, h2, h3⟩ := cyc_of (allRows_in hn) C R (h4 k hk).1 ht
  exact ⟨C, h1, h3⟩

open PySem PySem.Spec PyProof.Rows L2
/-! ### the least of a list of data: one of its elements -/
theorem vals_at : ∀ {xs : List V} {us : List Value} {i : Nat} {u : Value}, Vals xs us → us[i]? = some u → ∃ x, xs[i]? = some x ∧ RelV x u
  | _, _, _, _, .nil, h => by simp at h
  | _, _, 0, _, .cons r _, h => by
    have h := Option.some.inj h
    exact ⟨_, rfl, h ▸ r⟩
  | _, _, i + 1, _, .cons _ t, h => by
    obtain ⟨x, h1, h2⟩ := vals_at (i := i) t (by simpa using h)
    exact ⟨x, by simpa using h1, h2⟩
def rMinA (K : PySem.W.Frag) : List V → Hp → VK → Prop := fun vs H Q => ∃ (a : Addr) (xs : List V) (ds : List PyData), vs = [.ref a] ∧ SqL K H a xs ∧ DpAll K H xs ds ∧ ds ≠ [] ∧ PySem.W.AlikeAll ds ∧ PyData.depthAll ds ≤ 60 ∧ ∀ (i : Nat) (y : V), xs[i]? = some y → Q y H
theorem call_minA {X : Cx} (K : PySem.W.Frag) (hK : X.K = K) (hc : X.calm = true) (hu : X.A.units + 64 < cLine) : CallR X (.builtin "min") (rMinA K) := by
  subst hK
  intro pins s σ H vs us Q I r h
  obtain ⟨a, xs, ds, rfl, hs, hd, hne, hal, hdep, q⟩ := h
  cases r with
  | cons r t =>
    cases t
    cases r
    obtain ⟨its, rv, hl, hz⟩ := I.list hs
    obtain ⟨as, hr⟩ := Dp.readsAll I ds xs its hd rv
    cases ds with
    | nil => exact absurd rfl hne
    | cons d ds =>
      refine PySem.W.min_list_data (I.ok.hd hc) hl.isList hr hal (by omega) fun i v h' tk bs hv hrd hk => ?_
      obtain ⟨y, hy, ry⟩ := vals_at rv (show its[i]? = some v by simpa using hv)
      exact ⟨y, H, I.kept (t' := tk) hk, ry, q i y hy⟩
theorem call_sumU {X : Cx} (K : PySem.W.Frag) (hK : X.K = K) (hc : X.calm = true) : CallR X (.builtin "sum") (rSum K) := by
  subst hK
  exact cr_sum hc
theorem mt_indexU {X : Cx} (K : PySem.W.Frag) (hK : X.K = K) (hu : X.A.units + 65 < cLine) : MtR X "list.index" (rIndexD K) := by
  subst hK
  exact mt_indexD hu
def tTru (K : PySem.W.Frag) (ta : TE) : TT := fun σ H Q => ta σ H fun x H' => ∃ k, TruV K x H' k ∧ Q k H'
theorem pt_truU {X : Cx} (K : PySem.W.Frag) (hK : X.K = K) {e : Expr} {t : TE} (h : PE X e t) (he : ∀ whole, isTrue e X.env whole = (do let v ← whole; standAt e.pos; holding [v] (truthy v)) := by intro _; rfl) : PT X e (tTru K t) := by
  subst hK
  exact pt_truth h he
theorem pi_zipU {X : Cx} (K : PySem.W.Frag) (hK : X.K = K) {e e2 : Expr} {ta : TA} {p pos tpos : Pos} {elts : List Expr} {kk : Nat} (hg : Gl X "zip") (hm : X.mg "zip" = none) (ha : PA X [e, e2] ta)
    (h1 : starEach [e, e2] X.env = (false, eval e X.env) :: starEach [e2] X.env := by rfl) (h2 : (backTo pos (starEach [e2] X.env)).any (·.1) = false := by rfl) : PI X (.Tuple elts kk tpos) (.Call (.Name "zip" p) [e, e2] [] pos) (iZip K ta) := by
  subst hK
  exact pi_zip hg hm ha h1 h2
section
variable {K : PySem.W.Frag} {σ : L2.St} {H : Hp} {Q : VK} {te : TE}
theorem rd_tru {Q : Bool → Hp → Prop} (q : te σ H fun x H' => ∃ k, TruV K x H' k ∧ Q k H') : tTru K te σ H Q := q
theorem rd_truL {a : Addr} {xs : List V} {Q : Bool → Prop} (h : SqL K H a xs) (q : Q (!xs.isEmpty)) : ∃ k, TruV K (.ref a) H k ∧ Q k := ⟨_, .inl ⟨xs, h, rfl⟩, q⟩
theorem rd_while {c : TT} {tb : TS} {nx bk ct : L2.St → Hp → Prop} {rt : VK} (W : Nat → L2.St → Hp → Prop) {m0 : Nat} (h0 : W m0 σ H) (hs : ∀ m σ H, W m σ H → c σ H fun b H1 => if b = true then ∃ N : L2.St → Hp → Prop, (∀ σ' H', N σ' H' → ∃ m', m' < m ∧ W m' σ' H') ∧ tb ⟨N, rt, nx, N⟩ σ H1 else nx σ H1) : tWhile c tb ⟨nx, rt, bk, ct⟩ σ H := ⟨W, ⟨m0, h0⟩, hs⟩
theorem rd_zip {ta : TA} {R : It → Hp → Prop} (q : ta σ H fun vs H1 => ∃ a b xs ys, vs = [V.ref a, V.ref b] ∧ SqL K H1 a xs ∧ SqL K H1 b ys ∧ R (Itz K a b) H1) : iZip K ta σ H R := q
theorem rd_sum {a : Addr} {ns : List Int} (h : SqL K H a (ns.map V.int)) (q : Q (.int ns.sum) H) : rSum K [.ref a] H Q := ⟨a, ns, rfl, h, q⟩
theorem rd_aug {D : Ends} {i : Nat} {ti : TIp} {v : V} (h : σ[i]? = some (some v)) (q : te σ H fun y H1 => ti v y H1 fun z H2 => D.nx (σ.set i (some z)) H2) : tAug i te ti D σ H := ⟨v, h, q⟩
theorem rd_ipadd {i j : Int} (q : Q (.int (i + j)) H) : ipI (fun i j => i + j) (.int i) (.int j) H Q := ⟨i, j, rfl, rfl, q⟩
end
/-- over two lists of one length -/
theorem lcg_zipF (T : List (Addr × Str)) {K : PySem.W.Frag} {σ : L2.St} {H : Hp} {Q : VK} {g : TG} {te : TE} {vs : List Nat} {a b : Addr} {xs ys : List V} (h1 : SqL K H a xs) (h2 : SqL K H b ys) (hl : xs.length = ys.length) (hs : xs.length < sizeLine) (f : Nat → V)
    (step : ∀ (i : Nat) (x y : V) (t : Addr), xs[i]? = some x → ys[i]? = some y → ∀ H', Ext T [] H H' → H' t = some (.tup [x, y]) → ∀ R : VK, (∀ H2, Ext T [] H' H2 → R (f i) H2) → g (.ref t) (wipe σ vs) H' fun σ2 H2 => wipe σ2 vs = wipe σ vs ∧ tYes σ2 H2 fun b H3 => if b = true then te σ2 H3 R else True)
    (q : ∀ D H2, Nw H D → Ext T [] H H2 → H2 D = some (.lst ((List.range xs.length).map f)) → Q (.ref D) H2) : LcG (Itz K a b) g tYes te vs σ H Q := fun D hD => by
  refine lc_it (walk_zip (n := xs.length) (by rw [← hl, Nat.min_self]) (xs := xs) (ys := ys)) (fun i H2 => Ext T [] H H2 ∧ H2 D = some (.lst ((List.range i).map f))) ⟨.new hD, upd_same⟩ (fun i H2 _ h => ⟨h.1.seqL (by simp) h1, h.1.seqL (by simp) h2⟩) (fun i x H1 H' hi h y => ?_) (fun H1 h => ?_)
  · obtain ⟨t, u, v, rfl, nt, rfl, hu, hv⟩ := y
    obtain ⟨e1, e2⟩ := h
    obtain ⟨nt2, e3, ht⟩ := alT (T := T) nt [u, v]
    generalize upd H1 t _ = H' at e3 ht ⊢
    have h3 := step i u v t hu hv H' (e1.trans e3) ht
    have hD2 := lst.x e2 e3
    have h4 := h3 (fun y H4 => ∃ acc, H4 D = some (.lst acc) ∧ acc.length < sizeLine ∧ (Ext T [] H (upd H4 D (.lst (acc ++ [y]))) ∧ (upd H4 D (.lst (acc ++ [y]))) D = some (.lst ((List.range (i + 1)).map f)))) (fun H2 e4 => by
      have hD3 := lst.x hD2 e4
      refine ⟨_, hD3, ?_, ((e1.trans e3).trans e4).own (.of hD) hD3, ?_⟩
      · rw [List.length_map, List.length_range]
        omega
      · rw [upd_same, List.range_succ, List.map_append]
        rfl)
    exact h4
  · exact q D H1 (.of hD) h.1 h.2

section
open PySem PySem.Spec PyProof.Rows L2
/-! ### the pairs of a dict whose keys are tuples, just made -/
section
variable {X : Cx} {pins : List (Addr × Obj)} {σ : L2.St} {H : Hp} {s : Shared} {d : Addr} {o : Obj}
theorem frzT2 {kvs : List (List L2.Key × V)} (I : Inv X pins σ H s) (h : H d = some (.frz o (.dT kvs))) :
    (d == sysModules) = false ∧ s.heap.get? d = some o ∧ o.ExactDict ∧ ∃ (es : Array DictEntry) (ep : Nat), o.data = .dict es ep ∧ es.size = kvs.length ∧
      ∀ (i : Nat) (k : List L2.Key) (v : V), kvs[i]? = some (k, v) → ∃ (en : DictEntry) (q : Addr), es[i]? = some en ∧ en.key = .ref q ∧ H q = some (.tup (k.map kV)) ∧ RelV v en.val := by
  obtain ⟨hd, z, hs, xs, pr, o', es, ep, ho, hx, hdt, he, _⟩ := I.hok d _ h
  rw [hd] at ho
  cases ho
  refine ⟨hs, hd, hx, es, ep, hdt, ?_, fun i k v e => ?_⟩
  · have l1 : es.size = xs.length := size_of_entries he
    have l2 : kvs.length = xs.length := Paired.length pr
    omega
  · obtain ⟨b, hb, e1, e2, e3⟩ := paired_get pr e
    have q := entry_at he i
    rw [hb] at q
    exact ⟨_, b.2.1, q, rfl, e2, e3⟩
end
/-- the pairs, each a new tuple of the key's own tuple and the value -/
def ItiT (d : Addr) (o : Obj) (kvs : List (List L2.Key × V)) : It :=
  ⟨fun i H => H d = some (.frz o (.dT kvs)) ∧ i < kvs.length, fun i H x H' => ∃ (T : Addr) (k : List L2.Key) (v : V) (q : Addr), kvs[i]? = some (k, v) ∧ H q = some (.tup (k.map kV)) ∧ x = .ref T ∧ H T = none ∧ H' = upd H T (.tup [.ref q, v]), fun i H => H d = some (.frz o (.dT kvs)) ∧ kvs.length ≤ i⟩
section
variable {P : Program} {w : World} {K : PySem.W.Frag} {tg : Expr} {d : Addr} {o : Obj} {es : Array DictEntry} {ep : Nat}
theorem turn_itemsT {kvs : List (List L2.Key × V)} {elts : List Expr} {kk : Nat} {tpos : Pos} (it : Addr) (hod : o.data = .dict es ep) :
    Turn P w K (.Tuple elts kk tpos) (ItiT d o kvs) [it] it (fun i h => ∃ ok ov, IsItemIter h it d i kvs.length ep ok ov) where
  mem := by simp
  obj := fun i h st b hb => by
    have e : b = it := by simpa using hb
    subst e
    obtain ⟨ok, ov, e⟩ := st
    exact ⟨_, e, fun v z => nomatch z⟩
  keep := fun i h h' st k => let ⟨ok, ov, e⟩ := st; ⟨ok, ov, k it (by simp) _ e⟩
  item := by
    intro X hP hw hK hc i pins s σ H E I hf st hg
    subst hP hw hK
    obtain ⟨hd, hi⟩ := hg
    obtain ⟨hs, hgd, hx, es', ep', hdt, hsz, ent⟩ := frzT2 I hd
    obtain ⟨rfl, rfl⟩ := dict_ep hod hdt
    obtain ⟨⟨k, v⟩, hkv⟩ : ∃ p, kvs[i]? = some p := ⟨kvs[i], List.getElem?_eq_getElem hi⟩
    obtain ⟨en, q, hen, hkey, hq, hval⟩ := ent i k v hkv
    obtain ⟨ok, ov, he⟩ := st
    rw [← hsz] at he
    have hlt : it < s.heap.objs.size := Heap.lt_size he
    have hi' : i < es'.size := by omega
    have hen' : es'[i] = en := by
      rw [Array.getElem?_eq_getElem hi'] at hen
      exact Option.some.inj hen
    refine DT.nextI he ⟨_, hgd, hx, hdt⟩ hi' fun h' ho hT hz hk => ?_
    rw [hen'] at ho hT
    refine ⟨_, rfl, wpAny_letOwnedTupleGo_items (s := { s with heap := h' }) ho fun h'' he' sb => ?_⟩
    have hT2 : h''.get? s.heap.objs.size = some { cls := .type "tuple", data := .seq #[en.key, en.val] } := (sb.2 _ (Nat.ne_of_gt hlt)).trans hT
    have new : ObjOk X.prog X.w (upd H s.heap.objs.size (.tup [.ref q, v])) h'' s.heap.objs.size (.tup [.ref q, v]) :=
      ⟨by show 2 ≤ sizeLine; decide, [en.key, en.val], .cons (by rw [hkey]; rfl) (.cons hval .nil), ⟨_, hT2, rfl, _, rfl⟩⟩
    have I1 : Inv X pins σ (upd H s.heap.objs.size (.tup [.ref q, v])) { s with heap := h'' } :=
      I.turnedNew (t' := s.toks) (ch := [it]) (fun b ob hb e => (sb.2 b (by simpa using hb)).trans (hk b ob (by simpa using hb) e)) hf (Nat.le_refl _) new
    refine ⟨.ref s.heap.objs.size, _, I1, rfl, ⟨_, k, v, q, hkv, hq, rfl, I.hok.fresh (Nat.le_refl _), rfl⟩, ⟨en.key, en.val, ?_⟩, fun b hb => ?_⟩
    · rw [← hsz]; exact he'
    · have e : b = it := by simpa using hb
      rw [e, upd_ne (Nat.ne_of_lt hlt)]
      exact (hf it (by simp)).1
  done := by
    intro X hP hw hK hc i pins s σ H E I hf st hg
    subst hP hw hK
    obtain ⟨hd, hi⟩ := hg
    obtain ⟨f0, f1, f2, f3, f4, f5⟩ := hf it (by simp)
    obtain ⟨hs, hgd, hx, es', ep', hdt, hsz, ent⟩ := frzT2 I hd
    obtain ⟨rfl, rfl⟩ := dict_ep hod hdt
    obtain ⟨ok, ov, he⟩ := st
    rw [← hsz] at he
    exact DT.endI (I.ok.hd hc) he ⟨_, hgd, hx, hdt⟩ (by omega) fun h' eb => ⟨rfl, I.turned (t' := s.toks) (fun b ob hb e => eb b ob hb e) f0 f1 f3 f4 f5⟩
  self := fun A i s Q E st h => let ⟨_, _, e⟩ := st; PySem.W.kcp_self e h
end
theorem walk_itemsT {d : Addr} {o : Obj} {kvs : List (List L2.Key × V)} : Walk (ItiT d o kvs) kvs.length (fun H => H d = some (.frz o (.dT kvs))) (fun i H x H' => ∃ (T : Addr) (k : List L2.Key) (v : V) (q : Addr), kvs[i]? = some (k, v) ∧ H q = some (.tup (k.map kV)) ∧ x = .ref T ∧ H T = none ∧ H' = upd H T (.tup [.ref q, v])) :=
  ⟨fun _ _ hi q => ⟨q, hi⟩, fun _ q => ⟨q, Nat.le_refl _⟩, fun _ _ _ _ _ _ y => y⟩
def iItemsT (td : TE) : TI := fun σ H R => td σ H fun x H1 => ∃ (d : Addr) (kvs : List (List L2.Key × V)), x = .ref d ∧ H1 d = some (.dT kvs) ∧ ∀ o, R (ItiT d o kvs) (upd H1 d (.frz o (.dT kvs)))
theorem pi_itemsT {X : Cx} {e : Expr} {td : TE} {apos cpos : Pos} {elts : List Expr} {kk : Nat} {tpos : Pos} (he : PE X e td) (hbase : attributeBase e "items" X.env (eval e X.env) = eval e X.env := by rfl) (hline : (apos.endLine == cpos.line) = true := by rfl) :
    PI X (.Tuple elts kk tpos) (.Call (.Attribute e "items" apos) [] [] cpos) (iItemsT td) := by
  refine ⟨fun pins s σ H R I h => ?_⟩
  refine wpAny_Call_method (T := "dict") (id := "dict.items") hbase rfl hline F.plainAttrs_dict F.slot_dict_items F.type_dict_items (thn (he.run pins s σ H _ I h) fun u s1 ⟨x, H1, I1, rx, d, kvs, ex, hd, q⟩ => ?_)
  subst ex
  obtain rfl : u = Value.ref d := rx
  obtain ⟨od, I0⟩ := I1.lock hd trivial
  have q := q od
  have hd' : (upd H1 d (.frz od (.dT kvs))) d = some (.frz od (.dT kvs)) := upd_same
  generalize upd H1 d (.frz od (.dT kvs)) = H2 at I0 q hd'
  obtain ⟨hs, hgd, hx, es, ep, hdt, hsz, ent⟩ := frzT2 I0 hd'
  have hm : DT.Raw s1.heap d es ep := ⟨_, hgd, hx, hdt⟩
  refine ⟨hm.typeIs, fun a e => by cases e; exact ⟨_, hgd, hx.2.1⟩, ?_⟩
  have I2 : Inv X pins σ H2 { s1 with heap := s1.heap.push { cls := .type "dict_items", data := .fields #[.ref d] } } := I0.kept (t' := s1.toks) fun b ob q => Heap.get?_push_of_some _ q
  have fin : wpAny (model X.prog X.w) X.A (pyIter (.ref s1.heap.objs.size)) (PIE X pins σ (.Tuple elts kk tpos) R) X.xe { s1 with heap := s1.heap.push { cls := .type "dict_items", data := .fields #[.ref d] } } := by
    refine DT.iterI (d := d) ⟨_, Heap.get?_push_size _ rfl, rfl, rfl⟩ (hm.push _) (pi_one (tk := s1.toks) I2 _ (turn_itemsT _ hdt) ⟨.none, .none, ?_⟩ q)
    rw [← hsz]
    exact Heap.get?_push_size _ rfl
  show wpAny _ _ (callWith cpos (.builtin "dict.items") [.ref d] [] []) _ X.xe s1
  exact method_meetsIn F.slot_dict_items F.entry_dict_items rfl (PySem.evalArgs_none ⟨rfl, hm.typeIs, F.args_dict_items_1 _, _, DT.meetsItems (es := es) (ep := ep) hs, ⟨hm, fin⟩⟩)
end
/-! ### a slice that is the whole tuple: the tuple itself -/
namespace HTW
open PySem PySem.W PySem.Calls PyProof.Rows HT
section
variable {prog : Program} {w : World} {A : Around} {E : Value → Shared → Prop} {s : Shared}
theorem tupleIsExact_ {t : Addr} {items : Array Value} {Q : Bool → Shared → Prop} (ht : IsTup s.heap t items) (h : Q true s) : wpAny (model prog w) A (Builtin.Tuple.tupleIsExact (.ref t)) Q E s := by
  obtain ⟨o, ho, hc, n, hd⟩ := id ht
  unfold Builtin.Tuple.tupleIsExact
  refine wpAny_bind (wpAny_typeOf ht.typeIs ?_)
  exact wpAny_pure h
theorem getItem_tuple_whole {t sl : Addr} {items : Array Value} {vl vu : Value} {lo hi : Option Int} {Q : Value → Shared → Prop} (ht : IsTup s.heap t items) (hs : s.heap.IsSliceOf sl vl vu .none) (pl : IsPart vl lo) (pu : IsPart vu hi)
    (hw : sIx items.size 0 lo = 0 ∧ sIx items.size items.size hi = items.size)
    (h : Q (.ref t) s) : wpAny (model prog w) A (getItem (.ref t) (.ref sl)) Q E s := by
  obtain ⟨os, hos, hcs, hds⟩ := id hs
  have hTs : s.TypeIs (.ref sl) "slice" := ⟨os, hos, hcs⟩
  unfold getItem
  try with_reducible refine wpAny_holding ?_
  first | refine wpAny_bind (wpAny_pure ?_) | skip
  refine wpAny_bind (wpAny_sequenceKey ht.typeIs (by decide) ?_)
  refine wpAny_bind (wpAny_callSpecial?_slot (name := Str.ofString "__getitem__") ht.typeIs PyProof.Rows.slot_tuple_getitem
    (wpAny_call_entry PyProof.Rows.slot_tuple_getitem ht.typeIs entry_tuple_getitem ?_ (args_tuple_getitem _ _)))
  show wpAny _ _ (Builtin.Tuple.tupleItemsOf (.ref t) >>= _) _ _ s
  refine wpAny_bind (tupleItemsOf_ ht ?_)
  refine wpAny_bind (wpAny_typeOf hTs ?_)
  rw [if_pos (by decide)]
  refine wpAny_bind (sliceApplied_gen hs pl pu ?_)
  have hyes : (((sIx items.size 0 lo : Nat) : Int) == 0 && (1 : Int) == 1 && (sIx items.size items.size hi - sIx items.size 0 lo) == items.size) = true := by
    rw [hw.1, hw.2]
    simp
  show wpAny _ _ (if (((sIx items.size 0 lo : Nat) : Int) == 0 && (1 : Int) == 1 && (sIx items.size items.size hi - sIx items.size 0 lo) == items.size) = true then _ else _) _ _ s
  rw [if_pos hyes]
  refine wpAny_bind (tupleIsExact_ ht ?_)
  rw [if_pos rfl]
  first
    | exact wpAny_bind (wpAny_rule (wpAny_bind (wpAny_pure (wpAny_pure ⟨_, rfl, wpAny_pure h⟩))))
    | exact wpAny_bind (wpAny_rule (wpAny_pure ⟨_, rfl, wpAny_pure h⟩))
    | exact wpAny_bind (wpAny_rule (wpAny_bind (wpAny_pure ⟨_, rfl, wpAny_pure h⟩)))
end
end HTW
section
open PySem PySem.Spec PyProof.Rows L2
def rSlW (K : PySem.W.Frag) : V → Option Int → Option Int → Hp → VK → Prop := fun x lo hi H Q => ∃ a xs, x = .ref a ∧ SqT K H a xs ∧ HT.sIx xs.length 0 lo = 0 ∧ HT.sIx xs.length xs.length hi = xs.length ∧ Q (.ref a) H
theorem sl_tupW {X : Cx} : SlR X (rSlW X.K) := by
  intro pins s σ H x v vl vu lo hi sl Q I rx hs pl pu h
  obtain ⟨a, xs, rfl, hx, hw1, hw2, q⟩ := h
  cases rx
  obtain ⟨its, r, ht, hz⟩ := I.tuple hx
  have hlen : its.toArray.size = xs.length := by rw [List.size_toArray]; exact r.length.symm
  refine ⟨"tuple", _, PyProof.Rows.slot_tuple_getitem.lookup, ht.typeIs, ?_⟩
  exact HTW.getItem_tuple_whole ht hs pl pu (by rw [hlen]; exact ⟨hw1, hw2⟩) ⟨.ref a, H, I, rfl, q⟩
def rSlU2 (K : PySem.W.Frag) : V → Option Int → Option Int → Hp → VK → Prop := fun x lo hi H Q => rSlU K x lo hi H Q ∨ rSlW K x lo hi H Q
theorem sl_U2 {X : Cx} (K : PySem.W.Frag) (hK : X.K = K) : SlR X (rSlU2 K) := by
  have h := sl_U (X := X) K hK
  subst hK
  exact h.or sl_tupW
end

/-! an own exception whose __init__ says super().__init__(f"..") and keeps its one argument -/
section
open PySem PySem.W PySem.Calls PyProof.Rows PySem.HandSPX
def supA (fld : Str) (p1 p2 : Pos) : Arguments := { posonlyargs := [], args := [{ arg := "self", annotation := none, pos := p1 }, { arg := fld, annotation := none, pos := p2 }], vararg := none, kwonlyargs := [], kw_defaults := [], kwarg := none, defaults := [] }
def supB (fld : Str) (parts : List Expr) (ps : List Pos) (q1 q2 q3 q4 : Pos) : List Stmt :=
  [.Expr (.Call (.Attribute (.Call (.Name "super" (ps.getD 0 ⟨0, 0, 0, 0⟩)) [] [] (ps.getD 1 ⟨0, 0, 0, 0⟩)) "__init__" (ps.getD 2 ⟨0, 0, 0, 0⟩)) [.JoinedStr parts (ps.getD 3 ⟨0, 0, 0, 0⟩)] [] (ps.getD 4 ⟨0, 0, 0, 0⟩)) (ps.getD 5 ⟨0, 0, 0, 0⟩),
   .Assign [.Attribute (.Name "self" q1) fld q2] (.Name fld q3) q4]
def supS (fld : Str) : Scope := { kind := .function, names := [(PySem.Str.ofString "self", .local), (fld, .local), (PySem.Str.ofString "__class__", .free), (PySem.Str.ofString "super", .globalImplicit)], isGenerator := false, isCoroutine := false, more := [] }
/-- a word or a number that an f-string shows -/
def Showable (v : Value) : Prop := (∃ z t, v = .str z t ∧ z.length ≤ 1000) ∨ ∃ i t, v = .int i t ∧ i.natAbs.log2 < 1920
/-- the f-string gives some text -/
def PartsOk (fld : Str) (parts : List Expr) (jp : Pos) : Prop := ∀ (prog : Program) (w : World) (A : Around) (E : Value → Shared → Prop) (qual : Str) (L a cc : Addr) (cd : Value) (s : Shared) (m : Str → Option Value) (v : Value) (Q : Value → Shared → Prop),
  s.heap.Ns L m → m fld = some v → Showable v → (∀ z tk t', Q (.str z tk) { s with toks := t' }) → wpAny (model prog w) A (eval (.JoinedStr parts jp) (ksEnv qual (supS fld) L a cd cc)) Q E s
def pz (ps : List Pos) (i : Nat) : Pos := ps.getD i ⟨0, 0, 0, 0⟩
def CallOk (fld : Str) (parts : List Expr) (ps : List Pos) : Prop := ∀ (qual : Str) (L a cc : Addr) (cd : Value), ∃ pl : Sem Bool,
  eval (.Call (.Attribute (.Call (.Name "super" (pz ps 0)) [] [] (pz ps 1)) "__init__" (pz ps 2)) [.JoinedStr parts (pz ps 3)] [] (pz ps 4)) (ksEnv qual (supS fld) L a cd cc) = (do
      let ov ← attributeBase (.Call (.Name "super" (pz ps 0)) [] [] (pz ps 1)) "__init__" (ksEnv qual (supS fld) L a cd cc) (eval (.Call (.Name "super" (pz ps 0)) [] [] (pz ps 1)) (ksEnv qual (supS fld) L a cd cc))
      standAt (pz ps 2).atName
      let (f, first) ← holding [ov] (getMethod ov "__init__" pl)
      callWith (pz ps 4) f first (backTo (pz ps 4) (starEach [.JoinedStr parts (pz ps 3)] (ksEnv qual (supS fld) L a cd cc))) [])
structure SupTxt (P : Program) (K : Frag) (mg : Str → Option Value) (nm fld : Str) (C fI : Addr) : Prop where
  gC : mg nm = some (.ref C)
  cls : ∃ nm q N bs bm sn sub ab col dd k0 k1 k2 k3 k5, K.lookup C = some (excClassObj nm q C N bs bm true sn sub ab col dd k0 k1 k2 k3 k5 "ValueError.__new__") ∧ refsVE bm = true
  sa : findIn K (.ref C) "__setattr__" = some (some (.builtin "object.__setattr__"))
  ga : findIn K (.ref C) "__getattribute__" = some (some (.builtin "BaseException.__getattribute__"))
  gg : findIn K (.ref C) "__getattr__" = some none
  noN : findIn K (.ref C) fld = some none
  iC : findIn K (.ref C) "__init__" = some (some (.ref fI))
  tC : typeIn K (.ref fI) = some (.type "function")
  kC : keepIn K (.ref C) = true
  exC : subIn K (.ref C) (.type "BaseException") = some true
  tyC : typeIn K (.ref C) = some (.type "type")
  hdC : hasDictIn K C = true
  te : exmOne K (.ref C) (.ref C) = some true
  sup : ks_superIn K C C "__init__" = some (some (.builtin "ValueError.__init__"))
  subV : subIn K (.ref C) (.type "ValueError") = some true
  selfC : mroIn K C (.ref C) = some true
  gsup : nsIn K mainGlobals "super" = some none
  opq : nsIn K cStatics "thirdparty.any" = some none
  htop : (P.main.scope.names.lookup ("super" : Str)).isSome = false
  fn : ∃ (oc : Value) (od : Option Addr) (doc pm kV : Value) (an : Option Addr) (cda cc : Addr) (ct : Value) (osl : Array (Option Value)) (p1 p2 q1 q2 q3 q4 : Pos) (ps : List Pos) (parts : List Expr) (qual : Str),
    K.lookup fI = some ⟨oc, od, .func (ksFn "__init__" qual (supA fld p1 p2) (supB fld parts ps q1 q2 q3 q4) (supS fld) .none kV doc pm an (.ref cda) ct cc), osl⟩ ∧ codeIn K (.ref cda) qual = true ∧
    (∃ ccl cdd vs ccs file tf, K.lookup cda = some ⟨ccl, cdd, .fields vs, ccs⟩ ∧ vs[2]? = some (.str file tf) ∧ ((P.main.file : Str) == file) = true) ∧
    (∃ cl cld csl, K.lookup cc = some ⟨cl, cld, .cell (some (.ref C)), csl⟩) ∧ PartsOk fld parts (pz ps 3) ∧ CallOk fld parts ps
theorem kept_but {K : Frag} {h h' : Heap} {x : Addr} (X : K.In h) (hx : K.lookup x = none) (k : ∀ b o, b ≠ x → h.get? b = some o → h'.get? b = some o) : K.In h' := fun a o e =>
  k a o (fun z => by rw [z, hx] at e; cases e) (X a o e)
/-- what __init__ leaves of a fresh exception at x -/
structure InitEnd (h h' : Heap) (x C dx : Addr) (fld : Str) (v : Value) : Prop where
  keep : ∀ b o, b ≠ x → h.get? b = some o → h'.get? b = some o
  obj : ∃ t1 : Addr, h'.get? x = some { cls := .ref C, dict := some dx, data := .fields #[.ref t1, .none, .none, .none, .bool false, .none] }
  dbig : h.objs.size ≤ dx
  dne : dx ≠ x
  ns : h'.Ns1 dx (fun y => if y = fld then some v else none)
structure OwnMade (h h' : Heap) (e C d : Addr) (fld : Str) (v : Value) : Prop where
  keep : ∀ b o, h.get? b = some o → h'.get? b = some o
  new : h.objs.size ≤ e
  obj : ∃ oe vs, h'.get? e = some oe ∧ oe.cls = .ref C ∧ oe.dict = some d ∧ oe.data = .fields vs ∧ vs[1]? = some .none
  dbig : h.objs.size ≤ d
  dne : d ≠ e
  ns : h'.Ns1 d (fun y => if y = fld then some v else none)
theorem one_size (v : Value) : [v].length ≤ sizeLine := by
  rw [sizeLine_eq]
  exact (by decide : 1 ≤ 16777216)
theorem ld_ks {M : Model} {s : Shared} {name : Str} {scope : Scope} {L a cc : Addr} {cd : Value} {m : Str → Option Value} {x : Str} {pos : Pos} {v : Value} {Q : Value → Shared → Prop} {A : Around} {E : Value → Shared → Prop} (hn : s.heap.Ns L m) (hv : m x = some v) (h : Q v s)
    (hk : scope.kind = .function) (hl : (ksEnv name scope L a cd cc).kindOf x = some .local) (hd : (x == ("__debug__" : Str)) = false) :
    wpAny M A (eval (.Name x pos) (ksEnv name scope L a cd cc)) Q E s := wpAny_Name (wpAny_loadName_local hk hl hn hv h) hd
theorem len_small {z : Str} (h : z.length ≤ 100000) : z.length ≤ sizeLine := Nat.le_trans h (by rw [sizeLine_eq]; decide)
end
section
open PySem PySem.W PySem.Calls PyProof.Rows PySem.HandSPX
section
variable {prog : Program} {w : World} {A : Around} {E : Value → Shared → Prop} {qual fld : Str} {L a cc : Addr} {cd : Value} {s : Shared} {m : Str → Option Value} {v : Value}
theorem fmt_fld {pos p : Pos} {Q : Value → Shared → Prop} (hn : s.heap.Ns L m) (hv : m fld = some v) (hs : Showable v) (hl : (ksEnv qual (supS fld) L a cd cc).kindOf fld = some .local) (hd : (fld == ("__debug__" : Str)) = false)
    (h : ∀ (z : Str) tk t', z.length ≤ 2000 → Q (.str z tk) { s with toks := t' }) : wpAny (model prog w) A (eval (.FormattedValue (.Name fld p) (-1) none pos) (ksEnv qual (supS fld) L a cd cc)) Q E s := by
  refine wpAny_FormattedValue_plain (ld_ks hn hv ?_ rfl hl hd)
  rcases hs with ⟨z, t, rfl, hz⟩ | ⟨i, t, rfl, hi⟩
  · exact wpAny_formatField_str (h z t _ (by omega)) (h z _ _ (by omega)) (len_small (by omega))
  · refine wpAny_formatField_int hi (h _ _ _ ?_)
    have e := int_text_length_le (k := 1920) (by decide) hi
    have e2 : (Str.ofString (toString i)).length = (toString i).length := PySem.ofString_length _
    show (Str.ofString (toString i)).length ≤ 2000
    omega
theorem join2 {c1 : Str} {k1 : Nat} {p1 p2 p3 jp : Pos} {Q : Value → Shared → Prop} (hn : s.heap.Ns L m) (hv : m fld = some v) (hs : Showable v) (hl : (ksEnv qual (supS fld) L a cd cc).kindOf fld = some .local) (hd : (fld == ("__debug__" : Str)) = false) (hc : c1.length ≤ 100)
    (h : ∀ z tk t', Q (.str z tk) { s with toks := t' }) : wpAny (model prog w) A (eval (.JoinedStr [.Constant (.str c1) k1 p1, .FormattedValue (.Name fld p2) (-1) none p3] jp) (ksEnv qual (supS fld) L a cd cc)) Q E s := by
  refine wpAny_JoinedStr ?_
  show wpAny _ _ (eval (.Constant (.str c1) k1 p1) _) _ _ _
  refine Constant_str ?_
  refine ⟨_, _, rfl, ?_, ?_⟩
  · rw [strLen_append]
    have e0 : Str.empty.length = 0 := rfl
    exact Nat.le_trans (show _ ≤ 100000 by omega) (by rw [sizeLine_eq]; decide)
  · show wpAny _ _ (eval (.FormattedValue (.Name fld p2) (-1) none p3) _) _ _ _
    refine fmt_fld (s := { s with toks := s.toks + 1 }) hn hv hs hl hd fun z tk t' hz => ?_
    have e : ((Str.empty ++ c1) ++ z).length ≤ 100000 := by
      rw [strLen_append, strLen_append]
      have e0 : Str.empty.length = 0 := rfl
      omega
    exact ⟨_, _, rfl, len_small e, len_small e, h _ _ _⟩
theorem join3 {c1 c2 : Str} {k1 k2 : Nat} {p1 p2 p3 p4 jp : Pos} {Q : Value → Shared → Prop} (hn : s.heap.Ns L m) (hv : m fld = some v) (hs : Showable v) (hl : (ksEnv qual (supS fld) L a cd cc).kindOf fld = some .local) (hd : (fld == ("__debug__" : Str)) = false) (hc : c1.length ≤ 100) (hc2 : c2.length ≤ 100)
    (h : ∀ z tk t', Q (.str z tk) { s with toks := t' }) : wpAny (model prog w) A (eval (.JoinedStr [.Constant (.str c1) k1 p1, .FormattedValue (.Name fld p2) (-1) none p3, .Constant (.str c2) k2 p4] jp) (ksEnv qual (supS fld) L a cd cc)) Q E s := by
  refine wpAny_JoinedStr ?_
  show wpAny _ _ (eval (.Constant (.str c1) k1 p1) _) _ _ _
  refine Constant_str ?_
  refine ⟨_, _, rfl, ?_, ?_⟩
  · rw [strLen_append]
    have e0 : Str.empty.length = 0 := rfl
    exact Nat.le_trans (show _ ≤ 100000 by omega) (by rw [sizeLine_eq]; decide)
  · show wpAny _ _ (eval (.FormattedValue (.Name fld p2) (-1) none p3) _) _ _ _
    refine fmt_fld (s := { s with toks := s.toks + 1 }) hn hv hs hl hd fun z tk t' hz => ?_
    have e : ((Str.empty ++ c1) ++ z).length ≤ 100000 := by
      rw [strLen_append, strLen_append]
      have e0 : Str.empty.length = 0 := rfl
      omega
    have e2 : (((Str.empty ++ c1) ++ z) ++ c2).length ≤ 100000 := by
      rw [strLen_append, strLen_append, strLen_append]
      have e0 : Str.empty.length = 0 := rfl
      omega
    refine ⟨_, _, rfl, len_small e, ?_⟩
    show wpAny _ _ (eval (.Constant (.str c2) k2 p4) _) _ _ _
    refine Constant_str ?_
    exact ⟨_, _, rfl, len_small e2, len_small e2, h _ _ _⟩
end
section
variable {prog : Program} {w : World} {A : Around} {E : Value → Shared → Prop} {R : Result → Shared → Prop} {s : Shared} {K : Frag} {mg : Str → Option Value} {nm fld : Str} {C fI : Addr}
theorem opaque_keep {h h' : Heap} {M : Model} (X : K.In h) (e : nsIn K cStatics "thirdparty.any" = some none) : Looks M h (opaqueClassAbove (.ref C)) none := looks_opaque X e
/-- ValueError.__init__ bound, called -/
theorem call_mw {h : Heap} {g : Array GenState} {d : Drawn} {t : Nat} {os : OsState} {nm q : Str} {N : Addr} {bs bm : List Value} {hdct : Bool} {sn : List Str} {sub : List Value} {ab : Bool} {col : Option Bool} {dd : Option Addr} {k0 k1 k2 k3 k5 : Option Value} {u e t0 : Addr} {rest : List Value} {Q : Value → Shared → Prop}
    (hC : h.get? C = some (excClassObj nm q C N bs bm hdct sn sub ab col dd k0 k1 k2 k3 k5 "ValueError.__new__")) (he : h.get? e = some (excO C t0)) (hu : h.get? u = some (kxs_mw "ValueError.__init__" e)) (hrest : rest.length ≤ sizeLine)
    (hq : ∀ h' t1, (∀ b o, b ≠ e → h.get? b = some o → h'.get? b = some o) → h'.get? e = some (excO C t1) → Q .none ⟨h', g, d, t, os⟩) :
    wpAny (model prog w) A (call (.ref u) rest) Q E ⟨h, g, d, t, os⟩ := by
  refine wpAny_call (codeAny_of_tree ?_)
  show wpAny _ A.in1 (callAny (.ref u) ⟨rest, []⟩) _ _ _
  simp only [callAny]
  refine wpAny_bind (wpAny_load hu ?_)
  simp only [kxs_mw, show (Value.type "method-wrapper" == Value.type "method" || Value.type "method-wrapper" == Value.type "builtin_function_or_method" || Value.type "method-wrapper" == Value.type "method-wrapper") = true by decide, if_true]
  refine KFB.if_so (by decide) ?_
  refine wpAny_bind (check_bound_init F.excBase_ValueError.toExcCallFacts hC he rfl ?_)
  refine wpAny_bind (wpAny_pure (wpAny_pure ?_))
  refine ⟨plainId_quiet F.excBase_ValueError.init.plain _, codeAny_builtin F.excBase_ValueError.initEntry ?_⟩
  rw [Around.under_plainId F.excBase_ValueError.init.plain _]
  wp_walk
  refine hq _ h.objs.size (fun b o hb ho => ?_) ?_
  · rw [Heap.get?_update_other _ _ (Ne.symm hb)]
    exact Heap.get?_push_of_some _ ho
  · rw [Heap.get?_update_self _ (Heap.get?_push_of_some _ he) rfl]
    rfl
end
end
section
open PySem PySem.W PySem.Calls PyProof.Rows PySem.HandSPX
section
variable {prog : Program} {w : World} {A : Around} {E : Value → Shared → Prop} {R : Result → Shared → Prop} {s : Shared} {K : Frag} {mg : Str → Option Value} {nm fld : Str} {C fI : Addr}
structure FldOk (fld : Str) : Prop where
  fs : ("self" : Str) ≠ fld
  fl : ((supS fld).names.lookup fld) = some .local
  lo : (supS fld).names.lookup ("self" : Str) = some .local
  fr : (supS fld).names.lookup ("__class__" : Str) = some .free
  gl : (supS fld).names.lookup ("super" : Str) = some .globalImplicit
  db : (fld == ("__debug__" : Str)) = false
  nc : ∀ x ∈ (supS fld).names, x.2 ≠ .cell
  bd : ∀ (qual : Str) (p1 p2 : Pos) (body : List Stmt) (kV doc pm : Value) (an : Option Addr) (cdv ct : Value) (cc : Addr) (x v : Value), bindArgs (ksFn "__init__" qual (supA fld p1 p2) body (supS fld) .none kV doc pm an cdv ct cc) ⟨[x, v], []⟩ = pure [(("self" : Str), x), (fld, v)]
theorem fld_word : FldOk "word" := ⟨by decide +kernel, rfl, rfl, rfl, rfl, by decide +kernel, by decide +kernel, fun _ _ _ _ _ _ _ _ _ _ _ _ _ => rfl⟩
theorem fld_line : FldOk "line" := ⟨by decide +kernel, rfl, rfl, rfl, rfl, by decide +kernel, by decide +kernel, fun _ _ _ _ _ _ _ _ _ _ _ _ _ => rfl⟩
theorem sup_init (T : SupTxt prog K mg nm fld C fI) {x t0 : Addr} {v : Value} (X : K.In s.heap) (hlim : s.heap.NoLimit) (hG : s.heap.Ns mainGlobals mg) (hB : ∃ mb, s.heap.Ns builtinsNs mb ∧ ∀ x : Str, x ≠ "__name__" → mb x = bootBuiltins x)
    (hx : s.heap.get? x = some (excO C t0)) (hnx : K.lookup x = none) (hroom : A.depth < recursionLimit) (hs : Showable v) (FO : FldOk fld)
    (hq : ∀ h' tk dx, InitEnd s.heap h' x C dx fld v → R (.ok (.ret .none)) { s with heap := h', toks := tk }) :
    codeAny (model prog w) A (.call (.ref fI) ⟨[.ref x, v], []⟩) R s := by
  obtain ⟨hfs, hfl, hlo, hfr, hgl, hdb, hnc, hbd⟩ := FO
  obtain ⟨oc, od, doc, pm, kV, an, cda, cc, ct, osl, p1, p2, q1, q2, q3, q4, ps, parts, qual, ho, hcd, ⟨ccl, cdd, cvs, ccs, file, tf, hcode, hvs, hfile⟩, ⟨cl, cld, csl, hcell⟩, hpo, hco⟩ := T.fn
  obtain ⟨nm', q, N, bs, bm, sn, sub, ab, col, dd, k0, k1, k2, k3, k5, hC, hbm⟩ := T.cls
  have hcl : clsIn K C = some { name := nm', bases := bs, mro := .ref C :: bm, ns := N, qualname := q, hasDict := true, slotNames := sn, subclasses := sub, abstract := ab, collection := col, hasDel := false } := by unfold clsIn; rw [hC] <;> rfl
  refine ks_codeAny_call_defAt (fd := ksFn "__init__" qual (supA fld p1 p2) (supB fld parts ps q1 q2 q3 q4) (supS fld) .none kV doc pm an (.ref cda) ct cc) (body := supB fld parts ps q1 q2 q3 q4) (binds := [("self", .ref x), (fld, v)]) hroom (X _ _ ho) rfl hlim (codeRec_of X hcd) rfl
    (BindsTo.of_eq (hbd _ _ _ _ _ _ _ _ _ _ _ _ _)) hnc (fun y hy => ?_) (fun h₀ hns hk => ?_)
  · rcases List.mem_cons.mp hy with rfl | hy
    · exact hlo
    · rw [List.mem_singleton.mp hy]
      exact hfl
  obtain ⟨hp, g, d, tk, os⟩ := s
  dsimp only at hns hk hx X hlim hG hB hq ⊢
  have X₀ : K.In h₀ := X.keeps hk
  have hself : ([(("self" : Str), Value.ref x), (fld, v)].reverse.lookup ("self" : Str)) = some (.ref x) := by
    show List.lookup _ [(fld, v), (("self" : Str), Value.ref x)] = _
    have e : (("self" : Str) == fld) = false := by simpa using hfs
    simp [List.lookup, e]
  have hfld : ([(("self" : Str), Value.ref x), (fld, v)].reverse.lookup fld) = some v := by
    show List.lookup _ [(fld, v), (("self" : Str), Value.ref x)] = _
    simp [List.lookup]
  generalize hm : (fun x_1 => [(("self" : Str), Value.ref x), (fld, v)].reverse.lookup x_1) = m at hns
  have hself : m "self" = some (.ref x) := by rw [← hm]; exact hself
  have hfld : m fld = some v := by rw [← hm]; exact hfld
  have hx₀ := hk _ _ hx
  have I₀ : InstAt h₀ x (excO C t0) C none := ⟨hx₀, rfl, rfl, trivial⟩
  have hD1 := X₀ _ _ hC
  show _root_.PySem.wpAt (model prog w) _ (.func _ (ksEnv qual (supS fld) hp.objs.size fI (.ref cda) cc)) (execs (supB fld parts ps q1 q2 q3 q4) (ksEnv qual (supS fld) hp.objs.size fI (.ref cda) cc)) _ _ _
  obtain ⟨pl, hco⟩ := hco qual hp.objs.size fI cc (.ref cda)
  refine ks_wpAt_execs_cons (ks_wpAt_Expr_any (ks_wpAt_MethodCall (pl := pl) ?_ hco))
  obtain ⟨mb, hB1, hB2⟩ := hB
  refine ks_wpAt_super_base (env := ksEnv qual (supS fld) hp.objs.size fI (.ref cda) cc) hgl hfr rfl rfl (X₀ _ _ ho) rfl rfl rfl (X₀ _ _ hcode) rfl hvs hfile T.htop ?_
  refine ks_loadName_global rfl hgl (loadGlobal_builtin (env := ksEnv qual (supS fld) hp.objs.size fI (.ref cda) cc) (hG.keeps hk) (mg_none_of X hG T.gsup) (hB1.keeps hk) ((hB2 _ (by decide +kernel)).trans (by first | boot_by_name | rfl | kernel_rfl)) ⟨rfl, ?_⟩)
  refine wpAny_loadName_free rfl hfr rfl ⟨_, X₀ _ _ hcell, rfl⟩ ?_
  refine wpAny_loadName_local rfl hlo hns hself ?_
  refine ks_wpAny_isType_cls hD1 rfl ⟨rfl, ?_⟩
  refine ks_wpAny_call_super hD1 rfl hx₀ rfl (fun c e => by cases e) (looks_mroIn X₀ T.selfC) (fun h₁ hso k₁ => ?_)
  have X₁ : K.In h₁ := X₀.keeps k₁
  have hx₁ := k₁ _ _ hx₀
  have I₁ : InstAt h₁ x (excO C t0) C none := ⟨hx₁, rfl, rfl, trivial⟩
  have hI : Looks (model prog w) h₁ (isInstance (.ref x) (.type "ValueError")) true := I₁.type.andThen (looks_subIn X₁ T.subV)
  have hsup := T.sup
  unfold ks_superIn at hsup
  rw [hcl] at hsup
  refine kxs_getMethod kxs_ValueError hso (looks_opaque X₁ T.opq) (l₀ := .ref C :: bm) ?_ rfl X₁ hsup hI (ks_ne X₁ I₁ hcl) rfl ?_
  · exact fun A Q E s k q => wpAny_bind ((looks_clsIn X₁ hcl) A _ E s k (wpAny_pure q))
  have hns₂ := (hns.keeps k₁).keeps (h' := h₁.push (kxs_mw "ValueError.__init__" x)) fun b o e => Heap.get?_push_of_some _ e
  have hmw : (h₁.push (kxs_mw "ValueError.__init__" x)).get? h₁.objs.size = some (kxs_mw "ValueError.__init__" x) := Heap.get?_push_at rfl rfl
  have k₂ : ∀ b o, h₀.get? b = some o → (h₁.push (kxs_mw "ValueError.__init__" x)).get? b = some o := fun b o e => Heap.get?_push_of_some _ (k₁ _ _ e)
  generalize hh2 : h₁.push (kxs_mw "ValueError.__init__" x) = h₂ at hns₂ hmw k₂
  refine kxs_callWith (i := "ValueError.__init__") (x := x) rfl (evalArgs_plain (spliced_cons ?_))
  refine hpo prog w _ _ qual _ _ _ _ _ m v _ hns₂ hfld hs fun z tk1 t1 => ?_
  refine spliced_nil ⟨hmw, ?_⟩
  have X₂ : K.In h₂ := X₀.keeps k₂
  have hx₂ := k₂ _ _ hx₀
  refine call_mw (X₂ _ _ hC) hx₂ hmw (one_size _) fun h₃ t3 k₃ hx₃ => ?_
  have X₃ : K.In h₃ := kept_but X₂ hnx k₃
  have hxL : hp.objs.size ≠ x := Nat.ne_of_gt (Heap.lt_size hx)
  have hns₃ : h₃.Ns hp.objs.size m := by
    obtain ⟨oL, es, ep, hL, r⟩ := hns₂
    exact ⟨oL, es, ep, k₃ _ _ hxL hL, r⟩
  show _root_.PySem.wpAt _ _ _ (execs _ _) _ _ _
  refine ks_wpAt_execs_cons (ks_wpAt_Assign_Attr ?_)
  refine wpAt_of_wpAny (ld_ks hns₃ hfld ?_ rfl hfl hdb)
  refine ld_ks hns₃ hself ?_ rfl hlo (by decide)
  refine set_plain X₃ (ox := excO C t3) (od := none) ⟨hx₃, rfl, rfl, trivial⟩ T.sa ?_
  refine exc_osa X₃ hx₃ hcl (show refsVE (.ref C :: bm) = true from hbm) rfl T.noN (fun h₄ tk₄ dx k₄ dn dne hx₄ hn₄ => ?_)
  show _root_.PySem.wpAt _ _ _ (execs _ _) _ _ _
  have z : hp.objs.size < h₃.objs.size := hns₃.lt
  refine wpAt_of_wpAny (wpAny_execs_nil (hq h₄ tk₄ dx ⟨fun b o hb e => k₄ b o hb (k₃ b o hb (k₂ b o (hk b o e))), ⟨t3, hx₄⟩, Nat.le_of_lt (Nat.lt_of_lt_of_le z dn), dne, hn₄⟩))
theorem sup_made (T : SupTxt prog K mg nm fld C fI) {v : Value} (X : K.In s.heap) (hlim : s.heap.NoLimit) (hG : s.heap.Ns mainGlobals mg) (hB : ∃ mb, s.heap.Ns builtinsNs mb ∧ ∀ x : Str, x ≠ "__name__" → mb x = bootBuiltins x) (hroom : A.depth + 1 < recursionLimit) (hs : Showable v)
    (FO : FldOk fld)
    (hq : ∀ h' tk e d, OwnMade s.heap h' e C d fld v → R (.ok (.ret (.ref e))) { s with heap := h', toks := tk }) :
    codeAny (model prog w) A (.call (.ref C) ⟨[v], []⟩) R s := by
  obtain ⟨nm, q, N, bs, bm, sn, sub, ab, col, dd, k0, k1, k2, k3, k5, hC, hbm⟩ := T.cls
  obtain ⟨hp, g, dr, tk, os⟩ := s
  have k : ∀ b o, hp.get? b = some o → ((hp.push (kdv_tup [v])).push (excO C hp.objs.size)).get? b = some o := fun b o e => Heap.get?_push_of_some _ (Heap.get?_push_of_some _ e)
  have hget : ((hp.push (kdv_tup [v])).push (excO C hp.objs.size)).get? (hp.objs.size + 1) = some (excO C hp.objs.size) := by heap_get
  have hnx : K.lookup (hp.objs.size + 1) = none := by
    cases e : K.lookup (hp.objs.size + 1) with
    | none => rfl
    | some o =>
      have z : hp.get? (hp.objs.size + 1) = some o := X _ _ e
      exact absurd (Nat.lt_of_succ_lt (Heap.lt_size z)) (Nat.lt_irrefl _)
  refine call_own F.excBase_ValueError (fun X => refsVE_contains X bm hbm) (X _ _ hC) (looks_findIn X T.iC) (fun self => bind_fn X self T.tC) (one_size v) ?_
  refine sup_init (s := ⟨(hp.push (kdv_tup [v])).push (excO C hp.objs.size), g, dr, tk, os⟩) T (X.keeps k) (hlim.keeps k) (hG.keeps k) (hB.imp fun mb h => ⟨h.1.keeps k, h.2⟩) hget hnx ?_ hs FO fun h' tk' dx ⟨k', hx, dn, dne, hns⟩ => ?_
  · show A.depth + 1 < recursionLimit
    exact hroom
  · have old : ∀ b o, hp.get? b = some o → h'.get? b = some o := fun b o e => k' b o (Nat.ne_of_lt (Nat.lt_succ_of_lt (Heap.lt_size e))) (k b o e)
    have z : hp.objs.size + 1 + 1 ≤ dx := by
      first
        | (simpa only [Heap.size_push] using dn)
        | exact dn
        | (have q := dn; rw [Heap.size_push, Heap.size_push] at q; exact q)
    obtain ⟨t1, hx⟩ := hx
    exact ⟨rfl, hq h' tk' (hp.objs.size + 1) dx ⟨old, Nat.le_succ _, ⟨_, _, hx, rfl, rfl, rfl, rfl⟩, Nat.le_trans (Nat.le_trans (Nat.le_succ _) (Nat.le_succ _)) z, dne, hns⟩⟩
end
end
section
open PySem PySem.Spec PyProof.Rows L2
theorem relO_fld {v : V} {v' : Value} (r : RelV v v') (fld f : Str) : RelO (List.lookup f [(fld, v)]) (if f = fld then some v' else none) := by
  by_cases hw : f = fld
  · subst hw
    rw [if_pos rfl]
    have q : List.lookup f [(f, v)] = some v := by simp [List.lookup]
    rw [q]
    exact r
  · rw [if_neg hw]
    have qw : (f == fld) = false := by simpa using hw
    have q2 : List.lookup f [(fld, v)] = none := by simp [List.lookup, qw]
    rw [q2]
    trivial
/-- a word or a small number -/
def ShowV (v : V) : Prop := (∃ z, v = .str z ∧ z.length ≤ 1000) ∨ ∃ i : Int, v = .int i ∧ i.natAbs.log2 < 1920
theorem showV_of {v : V} {u : Value} (h : ShowV v) (r : RelV v u) : Showable u := by
  rcases h with ⟨z, rfl, hz⟩ | ⟨i, rfl, hi⟩
  · obtain ⟨t, rfl⟩ := r
    exact .inl ⟨z, t, rfl, hz⟩
  · obtain ⟨t, rfl⟩ := r
    exact .inr ⟨i, t, rfl, hi⟩
section
variable {X : Cx} {C fI : Addr} {nm fld : Str}
/-- C(e) -/
def tMkSup (C : Addr) (fld : Str) (ta : TA) : L2.St → Hp → XK → Prop := fun σ H Q => ta σ H fun vs H1 => ∃ v, vs = [v] ∧ ShowV v ∧ ∀ d, H1 d = none → Q (.ref C) (some d) (upd H1 d (.xd [(fld, v)]))
theorem pmk_sup {a : Expr} {ta : TA} {p pos : Pos} {k : Nat} (FO : FldOk fld) (T : SupTxt X.prog X.K X.mg nm fld C fI) (hr : Room k X.A) (ha : PA X [a] ta) (hg : Gl X nm) (hdb : (nm == ("__debug__" : Str)) = false)
    (he : starEach (a :: []) X.env = (false, eval a X.env) :: starEach [] X.env) (hpl : (backTo pos (starEach [] X.env)).any (·.1) = false) :
    PMk X (.Call (.Name nm p) [a] [] pos) (tMkSup C fld ta) := by
  intro pins s σ H Q I h
  refine wpAny_Call_Name_kw (ld_glob I hg T.gC ?_ hdb)
  refine PySem.W.callWith_K (h₀ := X.base) I.ok.mod.kin T.kC (thn (ha.run pos pins s σ H _ I h) fun us s1 hh => ?_) he hpl
  obtain ⟨vs, H1, I1, r1, v, ev, hsv, q1⟩ := hh
  subst ev
  refine ⟨I1.kIn, ?_⟩
  cases r1 with
  | cons rv rn =>
    rename_i v' us'
    cases rn
    show wpAny _ _ (call (.ref C) [v']) _ _ _
    have hlim := I1.nolimit
    have hG := I1.mod.glob.keeps I1.bk
    have hB : ∃ mb, s1.heap.Ns builtinsNs mb ∧ ∀ x : Str, x ≠ "__name__" → mb x = bootBuiltins x := I1.mod.blt.imp fun mb h => ⟨h.1.keeps I1.bk, h.2⟩
    obtain ⟨hp, g, dr, tk, os⟩ := s1
    refine wpAny_call (sup_made T I1.kIn hlim hG hB (by have := hr.dp; omega) (showV_of hsv rv) FO fun h' tk' e d M => ?_)
    show MkP X pins σ Q (.ref e) ⟨h', g, dr, tk', os⟩
    obtain ⟨oe, fv, hoe, hc, hd, hdat, h1⟩ := M.obj
    have hns := M.ns
    obtain ⟨G', g1, g2⟩ := restrict h' fun b => decide (b ≠ e)
    have gk : ∀ b, b ≠ e → G'.get? b = h'.get? b := fun b hb => g1 b (decide_eq_true hb)
    have ge : G'.get? e = none := g2 e (by simp)
    have old : ∀ b o, hp.get? b = some o → G'.get? b = some o := fun b o q => (gk b (Nat.ne_of_lt (Nat.lt_of_lt_of_le (Heap.lt_size q) M.new))).trans (M.keep b o q)
    have ob : ObjOk X.prog X.w (upd H1 d (.xd [(fld, v)])) G' d (.xd [(fld, v)]) :=
      ⟨_, hns.at (fun o q => (gk d M.dne).trans q), fun f => relO_fld rv fld f⟩
    have J : Inv X pins σ (upd H1 d (.xd [(fld, v)])) ⟨G', g, dr, tk', os⟩ := I1.laid (t' := tk') old M.dbig ob
    refine ⟨e, oe, fv, ⟨G', g, dr, tk', os⟩, _, .ref C, some d, rfl, J, fun b o q => ?_, ge, hoe, ⟨hc, hd⟩, hdat, h1, ?_, rfl, I1.bare, raises_own T.exC T.tyC, q1 d (I1.hok.fresh M.dbig)⟩
    · by_cases hb : b = e
      · have q' : G'.get? b = some o := q
        rw [hb, ge] at q'; cases q'
      · exact (gk b hb).symm.trans q
    · rw [upd_ne (Ne.symm M.dne)]
      exact I1.hok.fresh M.new
/-- raise C(e) -/
def tRaiseSup (C : Addr) (fld : Str) (W : WX) (ta : TA) : TS := fun _ σ H => tMkSup C fld ta σ H fun cls d H' => W cls d σ H'
theorem ps_raiseSup {a : Expr} {ta : TA} {W : WX} {p pos pos2 : Pos} {k : Nat} (hc : X.calm = true) (FO : FldOk fld) (T : SupTxt X.prog X.K X.mg nm fld C fI) (hr : Room k X.A) (tk : Takes X W) (ha : PA X [a] ta) (hg : Gl X nm := by rfl) (hdb : (nm == ("__debug__" : Str)) = false := by decide)
    (he : starEach (a :: []) X.env = (false, eval a X.env) :: starEach [] X.env := by rfl) (hpl : (backTo pos (starEach [] X.env)).any (·.1) = false := by rfl) :
    PS X (.Raise (some (.Call (.Name nm p) [a] [] pos)) none pos2) (tRaiseSup C fld W ta) := ps_raise hc tk (pmk_sup FO T hr ha hg hdb he hpl)
end
end

/-! a caught exception with its own dict: isinstance, fields; defs that may raise -/
section
open PySem PySem.W PySem.Spec PySem.Calls PyProof.Rows
variable {prog : Program} {w : World} {A : Around} {E : Value → Shared → Prop} {s : Shared} {K : Frag} {x D : Addr} {ox : Obj}
theorem find_classD {C : Addr} {odx : Option Obj} {name : Str} {a g : Value} (hc : (clsIn K C).isSome = true) (ha : findIn K (.ref C) name = some (some a)) (hg : specialIn K a "__get__" = some (some g)) (ht : takesIn K a = some true) : findObj K C odx name = some (.bind g a) := by
  obtain ⟨cd, hc⟩ := Option.isSome_iff_exists.mp hc
  unfold findObj
  rw [hc, Option.bind_some, ha, Option.bind_some]
  simp [hg, ht]
theorem kin_classD {odx : Option Obj} {Q : Option Value → Shared → Prop} (C : L2.ExcC K D) (X : K.In s.heap) (I : InstAt s.heap x ox D odx) (h : Q (some (.ref D)) { s with toks := s.toks + 1 }) : wpAny (model prog w) A (getAttr? (.ref x) "__class__") Q E s := by
  have hf : findObj K D odx "__class__" = some (.bind (.builtin "getset_descriptor.__get__") (.builtin "object.__class__")) := find_classD (by obtain ⟨cd, hc, _⟩ := any_some C.hd; rw [hc]; rfl) C.ha C.hn C.ht
  obtain ⟨hp, g, d, t, os⟩ := s
  have L0 := I.type (M := model prog w)
  have L1 := looks_findIn (M := model prog w) X C.hg
  have L2 := looks_findIn (M := model prog w) X C.hk
  have L3 := looks_find (M := model prog w) X I hf
  have sub : Looks (model prog w) hp (isInstance (.ref x) (.type "BaseException")) true := L0.andThen (looks_subIn X C.hs)
  have hx0 : (false && onTheHeap (Value.builtin "BaseException.__getattribute__")) = false := rfl
  have hx2 : (Value.builtin "BaseException.__getattribute__" == Value.builtin "object.__getattribute__") = false := by decide +kernel
  have hx1 : (onTheHeap (Value.ref D) && Value.builtin "BaseException.__getattribute__" == Value.builtin "object.__getattribute__") = false := by rw [hx2]; rfl
  unfold getAttr? getAttrBy? getAttrBy
  refine wpAny_bind (wpAny_mkText (wpAny_bind (wpAny_attempt (wpAny_holding (wpAny_bind (L0.at (wpAny_bind (L1.at ?_))))))))
  show wpAny _ _ (if (onTheHeap (Value.ref D) && Value.builtin "BaseException.__getattribute__" == Value.builtin "object.__getattribute__") = true then _ else _) _ _ _
  rw [hx1, if_neg Bool.false_ne_true]
  unfold getAttrByItsOwn hookBefore
  refine wpAny_bind ?_
  rw [if_pos (show onTheHeap (Value.ref D) = true from rfl)]
  refine L2.at ?_
  refine wpAny_bind (wpAny_attempt (wpAny_holding ?_))
  unfold callGetattribute
  rw [hx0, if_neg Bool.false_ne_true]
  unfold boundAndCalled
  rw [PySem.F.excAttr_ValueError.ga.bind (.ref x)]
  refine wpAny_bind (wpAny_pure ?_)
  show wpAny _ _ (call (.builtin "BaseException.__getattribute__") [.ref x, .str "__class__" t]) _ _ _
  refine wpAny_call (codeAny_call_builtin PySem.F.excAttr_ValueError.ga.plain PySem.F.entry_bexc_ga ?_)
  refine @check_slot (model prog w) _ _ ⟨hp, g, d, t + 1, os⟩ "BaseException.__getattribute__" "BaseException" "__getattribute__" (.ref x) [.str "__class__" t] [] _ (by decide +kernel) (by decide +kernel) sub (PySem.F.args_bexc_ga (.ref x) (.str "__class__" t)) ?_
  unfold Builtin.«object.__getattribute__»
  refine wpAny_bind (wpAny_of_eq (a := ((Value.ref x : Value), [Value.str "__class__" t])) (by first | rfl | (simp only [slotArgs]; rfl)) ?_)
  refine wpAny_bind (wpAny_pure (wpAny_bind (L0.at (wpAny_bind (L3.at ?_)))))
  show wpAny _ _ (holding [Value.builtin "object.__class__"] (call (.builtin "getset_descriptor.__get__") [.builtin "object.__class__", .ref x, .ref D]) >>= ret) _ _ _
  refine wpAny_bind (wpAny_holding (wpAny_call (class_get (s := ⟨hp, g, d, t + 1, os⟩) (ox := ox) (od := odx) X I C.hm ?_)))
  refine wpAny_pure ?_
  show wpAny _ _ (handedOut (.ref D)) _ _ _
  rw [handedOut_of (v := .ref D) rfl]
  first
    | exact wpAny_pure (wpAny_pure h)
    | exact wpAny_pure h
    | exact wpAny_pure (wpAny_bind (wpAny_pure (wpAny_pure h)))
theorem kit_excD {odx : Option Obj} (C : L2.ExcC K D) : KitX K (.ref x) (.ref D) (fun h => InstAt h x ox D odx) where
  ty := fun _ _ _ I => I.type
  it := fun _ _ X _ => by
    obtain ⟨cdD, hcD, _⟩ := any_some C.hd
    unfold clsIn at hcD
    split at hcD
    · rename_i c' d' cd' sl' ho
      intro A' Q' E' s' k q
      unfold isType loadHead
      exact wpAny_bind (wpAny_loadPart (k _ _ (X _ _ ho)) (wpAny_pure q))
    · cases hcD
  ne := fun h tp dd its n sl X htp => by
    obtain ⟨cdD, hcD, _⟩ := any_some C.hd
    refine Bool.eq_false_iff.mpr fun q => ?_
    have e : D = tp := Value.ref.inj (beq_iff_eq.mp q)
    subst e
    unfold clsIn at hcD
    split at hcD
    · rename_i c' d' cd' sl' ho
      have z := (X _ _ ho).symm.trans htp
      cases z
    · cases hcD
  ca := fun X I k => kin_classD C X I k
end
section
open PySem PySem.Spec PyProof.Rows L2
/-- what is more to be seen of such a class -/
structure ExcT (P : Program) (K : PySem.W.Frag) (mg : Str → Option Value) (nm fld : Str) (C fI : Addr) : Prop extends SupTxt P K mg nm fld C fI where
  ec : ExcC K C
theorem ExcT.xf {P : Program} {K : PySem.W.Frag} {mg : Str → Option Value} {nm fld : Str} {C fI : Addr} (T : ExcT P K mg nm fld C fI) : XfC K C := ⟨T.ga, T.gg, T.exC, T.hdC⟩
/-- isinstance(e, c), e the exception that the suite holds -/
def rIsX (K : PySem.W.Frag) (D a : Addr) (cls : Value) (d : Option Addr) : List V → Hp → VK → Prop := fun xs H Q => ∃ (c : V) (cv : Value) (b : Bool) (dd : Addr) (fs : List (Str × V)), xs = [.ref a, c] ∧ cls = .ref D ∧ d = some dd ∧ H dd = some (.xd fs) ∧ (∀ u, RelV c u → u = cv) ∧ PySem.W.kitOne K (.ref D) cv = some b ∧ Q (.bl b) H
theorem call_isX {X : Cx} {a D fI : Addr} {nm fld : Str} {oe : Obj} {cls : Value} {d : Option Addr} {pn : List (Addr × Obj)} (T : ExcT X.prog X.K X.mg nm fld D fI) (hz : Zc cls d oe) (hf : ∃ vs, oe.data = .fields vs) : CallR (X.suite a ((a, oe) :: pn)) (.builtin "isinstance") (rIsX X.K D a cls d) := by
  intro pins s σ H xs us Q I r h
  obtain ⟨c, cv, b, dd, fs, rfl, ecl, ed, ea, hcv, e, q⟩ := h
  subst ecl
  subst ed
  cases r with
  | cons rx rr =>
    cases rr with
    | cons rt rr =>
      cases rr
      cases rx
      have ec := hcv _ rt
      subst ec
      obtain ⟨hget, _⟩ := I.pin (a, oe) (List.mem_append.mpr (.inl List.mem_cons_self))
      obtain ⟨vs, hv⟩ := hf
      have hx : ObjOk X.prog X.w H s.heap dd (.xd fs) := I.hok dd _ ea
      obtain ⟨mA, hns, hr⟩ := hx
      obtain ⟨od, ho, hl⟩ := lookIn_ns hns
      have J : PySem.W.InstAt s.heap a oe D (some od) := ⟨hget, hz.1, by unfold PySem.W.notCls; rw [hv] <;> rfl, by rw [hz.2]; exact ho⟩
      exact PySem.W.kia_one (kit_excD T.ec) I.kIn J e (fun z => nomatch z) fun tk => ⟨.bl b, H, I.kept (t' := tk) fun _ _ z => z, rfl, q⟩
/-! ### a def that may raise, found by its name -/
def OkX (P : Program) (w : World) (K : PySem.W.Frag) (mg : Str → Option Value) (base : Heap) (k : Nat) (x : Str) (ps : List Str) (sp : Sp) : Prop :=
  ∃ (f : Addr) (fd : FuncData), FnOk P w K mg base (L2.CX P w) k f fd ps sp ∧ mg x = some (.ref f) ∧ PySem.W.keepIn K (.ref f) = true ∧ Binds K fd ps []
section
variable {P : Program} {w : World} {K : PySem.W.Frag} {mg : Str → Option Value} {base : Heap}
theorem Def.okX {x : Str} {st : Stmt} {N ps : List Str} {k : Nat} {sp : Sp} (D : Def K mg x st ps) (S : FnScope N ps (defScope st)) (len : ∀ vs H Q E, sp vs H Q E → vs.length = ps.length)
    (hbody : ∀ (cdv : Value) (f : Addr) (A : Around) (outer : List Env) (s : Shared) (H : Hp) (vs : List V) (Q : VK) (E : XK), Room k (A.deeper (envOfC x (defScope st) s.heap.objs.size f cdv)) → sp vs H Q E →
      ∃ t, PSs (cxOf (L2.CX P w) P w K mg base N x (defScope st) f cdv A outer s H E) (defBody st) t ∧ t { nx := fun _ H' => Q .non H', rt := Q } (start N vs) H) : OkX P w K mg base (k + 1) x ps sp := by
  obtain ⟨f, fd, F, hm, hb⟩ := D
  exact ⟨f, fd, F.okX S len fun cdv A outer s H vs Q E hr h => hbody cdv f A outer s H vs Q E hr h, hm, F.kp, hb⟩
theorem OkX.mono {j k : Nat} {x : Str} {ps : List Str} {sp : Sp} (h : OkX P w K mg base j x ps sp) (hk : j ≤ k) : OkX P w K mg base k x ps sp := by
  obtain ⟨f, fd, F, r⟩ := h
  exact ⟨f, fd, F.mono hk, r⟩
/-- where nothing is raised -/
def sp0 (sp : Sp) : Sp := fun vs H Q _ => sp vs H Q (fun _ _ _ => False)
theorem OkX.ok0 {k : Nat} {x : Str} {ps : List Str} {sp : Sp} (h : OkX P w K mg base k x ps sp) : Ok P w K mg base k x ps (sp0 sp) := by
  obtain ⟨f, fd, F, r⟩ := h
  refine ⟨f, fd, ⟨fun vs H Q E h => F.len vs H Q _ h, fun A outer s H args us vs Q E hr e0 hb rv hsp => ?_⟩, r⟩
  refine codeAny_mono (F.run A outer s H args us vs Q _ hr e0 hb rv hsp) fun r s' hq => ?_
  cases r with
  | error e =>
    obtain ⟨_, _, _, _, _, _, _, _, _, _, _, _, z⟩ := hq
    exact z.elim
  | ok fl => cases fl <;> exact hq
end
section
variable {X : Cx}
theorem pe_callX {x : Str} {p pos : Pos} {e : Expr} {es : List Expr} {t : TA} {k : Nat} {ps : List Str} {sp : Sp} {W : WX} (h : OkX X.prog X.w X.K X.mg X.base k x ps sp) (hr : Room k X.A) (hg : Gl X x) (tk : Takes X W) (ha : PA X (e :: es) t)
    (hdb : (x == ("__debug__" : Str)) = false := by decide) (he : starEach (e :: es) X.env = (false, eval e X.env) :: starEach es X.env := by rfl) (hpl : (backTo pos (starEach es X.env)).any (·.1) = false := by rfl) :
    PE X (.Call (.Name x p) (e :: es) [] pos) (tCallS sp (WE W) t) := by
  obtain ⟨f, fd, F, hm, hk, hb⟩ := h
  exact pe_callS F hr hg hm hk hb (fun σ => passAt tk σ) ha hdb he hpl
end
end

open PySem PySem.Spec PyProof.Rows L2
open PySem.W (EachIs)
/-! ### tables of waits: words, numbers, promises -/
section
variable {X : Cx}
theorem call_maxA (K : PySem.W.Frag) (hK : X.K = K) (hc : X.calm = true) : CallR X (.builtin "max") (rMax K) := by
  subst hK
  exact cr_max hc
theorem pi_zipAU (K : PySem.W.Frag) (hK : X.K = K) {e e2 : Expr} {ta : TA} {p pos tpos : Pos} {elts : List Expr} {kk : Nat} (hg : Gl X "zip") (hm : X.mg "zip" = none) (ha : PA X [e, e2] ta)
    (h1 : starEach [e, e2] X.env = (false, eval e X.env) :: starEach [e2] X.env := by rfl) (h2 : (backTo pos (starEach [e2] X.env)).any (·.1) = false := by rfl) : PI X (.Tuple elts kk tpos) (.Call (.Name "zip" p) [e, e2] [] pos) (RZ.iZipA K ta) := by
  subst hK
  exact RZ.pi_zipA hg hm ha h1 h2
end
section
variable {K : PySem.W.Frag} {σ : L2.St} {H : Hp} {Q : VK} {te : TE}
theorem rd_zipA {ta : TA} {R : It → Hp → Prop} (q : ta σ H fun vs H1 => ∃ a b xs ys, vs = [V.ref a, V.ref b] ∧ ((SqL K H1 a xs ∧ SqL K H1 b ys ∧ R (Itz K a b) H1) ∨ (SqT K H1 a xs ∧ SqT K H1 b ys ∧ R (RZ.ItzT K a b) H1))) : RZ.iZipA K ta σ H R := q
theorem rd_max2 {i j : Int} (q : Q (.int (if j > i then j else i)) H) : ∃ i' j', [V.int i, V.int j] = [.int i', .int j'] ∧ Q (.int (if j' > i' then j' else i')) H := ⟨i, j, rfl, q⟩
theorem rd_maxA {a : Addr} {ns : List Int} (h : SqL K H a (ns.map V.int)) (hn : 0 < ns.length) (q : ∀ m, m ∈ ns → (∀ y, y ∈ ns → y ≤ m) → Q (.int m) H) : rMax K [.ref a] H Q := ⟨a, ns, rfl, h, hn, q⟩
theorem rd_slW {a : Addr} {xs : List V} {lo hi : Option Int} (h : SqT K H a xs) (h1 : HT.sIx xs.length 0 lo = 0) (h2 : HT.sIx xs.length xs.length hi = xs.length) (q : Q (.ref a) H) : rSlU2 K (.ref a) lo hi H Q := .inr ⟨a, xs, rfl, h, h1, h2, q⟩
theorem rd_slT2 {a : Addr} {xs : List V} {lo hi : Option Int} (h : SqT K H a xs) (hw : ¬ (HT.sIx xs.length 0 lo = 0 ∧ HT.sIx xs.length xs.length hi = xs.length)) (q : ∀ p, H p = none → Q (.ref p) (upd H p (.tup (cutV xs lo hi)))) : rSlU2 K (.ref a) lo hi H Q := .inl (rd_slT h hw q)
end
abbrev Bd := Int × Int
def bdD (b : Bd) : PyData := .tuple [.int b.1, .int b.2]
def BdOk (bs : List Bd) : Prop := ∀ b ∈ bs, 0 ≤ b.1 ∧ b.1 ≤ b.2 ∧ b.2 ≤ 1000
def TbLt (tb : List Rw) : Prop := ∀ r ∈ tb, r.2.1 < r.1
def askStep (done : List Int) (m : Int) (r : Rw) : Int := if r.1 = done.length + 1 then (if fn (0 :: done) r.2.1 + r.2.2 > m then fn (0 :: done) r.2.1 + r.2.2 else m) else m
def askF (tb : List Rw) (done : List Int) : Int := tb.foldl (askStep done) (fn (0 :: done) done.length + 1)
def askW (tb : List Rw) (done : List Int) : List Int := (tb.filter fun r => decide (r.1 = done.length + 1)).map fun r => fn (0 :: done) r.2.1 + r.2.2
theorem ask_fold (done : List Int) : ∀ (tb : List Rw) (a : Int), tb.foldl (askStep done) a ∈ a :: askW tb done ∧ ∀ y ∈ a :: askW tb done, y ≤ tb.foldl (askStep done) a
  | [], a => by simp [askW]
  | r :: tb, a => by
    obtain ⟨h1, h2⟩ := ask_fold done tb (askStep done a r)
    rw [List.foldl_cons]
    by_cases c : r.1 = done.length + 1
    · have e : askW (r :: tb) done = (fn (0 :: done) r.2.1 + r.2.2) :: askW tb done := by
        unfold askW
        rw [List.filter_cons_of_pos (by simp [c])]
        rfl
      rw [e]
      have hs : askStep done a r = if fn (0 :: done) r.2.1 + r.2.2 > a then fn (0 :: done) r.2.1 + r.2.2 else a := by
        unfold askStep
        rw [if_pos c]
      have hle : askStep done a r ≤ tb.foldl (askStep done) (askStep done a r) := h2 _ List.mem_cons_self
      generalize hw : fn (0 :: done) r.2.1 + r.2.2 = w at hs ⊢
      refine ⟨?_, fun y hy => ?_⟩
      · rcases List.mem_cons.mp h1 with h | h
        · rw [h, hs]
          by_cases c2 : w > a
          · rw [if_pos c2]
            simp
          · rw [if_neg c2]
            simp
        · exact List.mem_cons_of_mem _ (List.mem_cons_of_mem _ h)
      · have ha : a ≤ askStep done a r := by
          rw [hs]
          split <;> omega
        have hw2 : w ≤ askStep done a r := by
          rw [hs]
          split <;> omega
        rcases List.mem_cons.mp hy with h | h
        · rw [h]
          omega
        rcases List.mem_cons.mp h with h | h
        · rw [h]
          omega
        · exact h2 y (List.mem_cons_of_mem _ h)
    · have e : askW (r :: tb) done = askW tb done := by
        unfold askW
        rw [List.filter_cons_of_neg (by simp [c])]
      have hs : askStep done a r = a := by
        unfold askStep
        rw [if_neg c]
      rw [hs] at h1 h2 ⊢
      rw [e]
      exact ⟨h1, h2⟩
theorem ask_max {tb : List Rw} {done : List Int} {m : Int} (h1 : m ∈ (fn (0 :: done) done.length + 1) :: askW tb done) (h2 : ∀ y ∈ (fn (0 :: done) done.length + 1) :: askW tb done, y ≤ m) : m = askF tb done := by
  obtain ⟨h3, h4⟩ := ask_fold done tb (fn (0 :: done) done.length + 1)
  have a := h2 _ h3
  have b := h4 _ h1
  unfold askF
  omega
def runF (tb : List Rw) : List Int → List Int → List Int → List Int × List Int
  | asked, done, [] => (asked, done)
  | asked, done, d :: ds => runF tb (asked ++ [askF tb done]) (done ++ [askF tb done + d]) ds
def areD (bs : List Bd) (ds : List Int) : Bool := decide (ds.length = bs.length) && (List.range ds.length).all fun i => decide ((bs.getD i (0, 0)).1 ≤ ds.getD i 0) && decide (ds.getD i 0 ≤ (bs.getD i (0, 0)).2)
def runD (r : List Int × List Int) : PyData := .tuple [.tuple (r.1.map .int), .tuple (r.2.map .int)]
section
variable (T : List (Addr × Str)) (K : PySem.W.Frag)
def spAsk : Sp := fun vs H Q _ => ∃ (va : V) (b : Addr) (kd : Bool) (tb : List Rw) (done : List Int), vs = [va, .ref b] ∧ Im H va (.tuple (tb.map rwD)) ∧ SqK K kd H b (done.map V.int) ∧ TbLt tb ∧ tb.length ≤ 100 ∧ done.length ≤ 100 ∧
  ∀ H', Ext T [] H H' → Q (.int (askF tb done)) H'
def spAreD : Sp := fun vs H Q _ => ∃ (vb vd : V) (bs : List Bd) (ds : List Int), vs = [vb, vd] ∧ Im H vb (.tuple (bs.map bdD)) ∧ Im H vd (.tuple (ds.map .int)) ∧ bs.length ≤ 100 ∧ ds.length ≤ 100 ∧
  ∀ H', Ext T [] H H' → Q (.bl (areD bs ds)) H'
def wordS : Str := "word"
def spRun (C : Addr) : Sp := fun vs H Q E => ∃ (va vb vd : V) (tb : List Rw) (bs : List Bd) (ds : List Int), vs = [va, vb, vd] ∧ Im H va (.tuple (tb.map rwD)) ∧ Im H vb (.tuple (bs.map bdD)) ∧ Im H vd (.tuple (ds.map .int)) ∧ TbLt tb ∧ tb.length ≤ 100 ∧ bs.length ≤ 50 ∧ ds.length ≤ 50 ∧
  (areD bs ds = true → ∀ v H', Ext T [] H H' → Im H' v (runD (runF tb [] [] ds)) → Q v H') ∧ (areD bs ds = false → ∀ d H', Ext T [] H H' → H' d = none → E (.ref C) (some d) (upd H' d (.xd [(wordS, .str "delays")])))
def spFirst57 : Sp := fun vs H Q _ => ∃ (va : V) (b : Addr) (kd : Bool) (tb : List Rw) (done : List Int), vs = [va, .int ((done.length : Int) + 1), .ref b] ∧ Im H va (.tuple (tb.map rwD)) ∧ SqK K kd H b (done.map V.int) ∧ TbLt tb ∧ tb.length ≤ 100 ∧ done.length ≤ 100 ∧
  ∀ H', Ext T [] H H' → Q (.int (askF tb done)) H'
def spLawRun : Sp := fun vs H Q _ => ∃ (va : V) (b : Addr) (kd : Bool) (tb : List Rw) (ds : List Int), vs = [va, .ref b] ∧ Im H va (.tuple (tb.map rwD)) ∧ SqK K kd H b (ds.map V.int) ∧ TbLt tb ∧ tb.length ≤ 100 ∧ ds.length ≤ 50 ∧
  ∀ v H', Ext T [] H H' → Im H' v (runD (runF tb [] [] ds)) → Q v H'
def spBounds : Sp := fun vs H Q _ => ∃ (l t : Addr) (n : Nat) (w : Int), vs = [.ref t, .int (n : Int), .int w] ∧ n ≤ 6 ∧ 0 ≤ w ∧ w < 3 ∧ Tape l H t ∧
  ∀ v bs H', BdOk bs → bs.length = n → Im H' v (.tuple (bs.map bdD)) → Ext T [t] H H' → Tape l H' t → Q v H'
def spDelays : Sp := fun vs H Q _ => ∃ (l t : Addr) (vb : V) (bs : List Bd), vs = [.ref t, vb] ∧ Im H vb (.tuple (bs.map bdD)) ∧ BdOk bs ∧ bs.length ≤ 6 ∧ Tape l H t ∧
  ∀ v ds H', ds.length = bs.length → areD bs ds = true → Im H' v (.tuple (ds.map .int)) → Ext T [t] H H' → Tape l H' t → Q v H'
def TbIn (n : Nat) (tb : List Rw) : Prop := ∀ r ∈ tb, r.2.1 < r.1 ∧ r.1 ≤ n
def spTable : Sp := fun vs H Q _ => ∃ (l t : Addr) (n : Nat) (w : Int), vs = [.ref t, .int (n : Int), .int w] ∧ n ≤ 6 ∧ 0 ≤ w ∧ w < 3 ∧ Tape l H t ∧
  ∀ v tb H', TbIn n tb → tb.length ≤ 36 → Im H' v (.tuple (tb.map rwD)) → Ext T [t] H H' → Tape l H' t → Q v H'
end
theorem im_ints {H : Hp} {v : V} {ds : List Int} (h : Im H v (.tuple (ds.map .int))) : ∃ a, v = .ref a ∧ H a = some (.tup (ds.map V.int)) := by
  obtain ⟨a, xs, rfl, h1, h2⟩ := h.tup'
  refine ⟨a, rfl, ?_⟩
  have e : ∀ {t : List Int} {vs : List V}, ImAll H vs (t.map PyData.int) → vs = t.map V.int := by
    intro t
    induction t with
    | nil =>
      intro vs h
      cases h
      rfl
    | cons z t ih =>
      intro vs h
      cases h with
      | cons a b => rw [a.int', ih b]; rfl
  rw [← e h2]
  exact h1
theorem imAll_int {H : Hp} : ∀ t : List Int, ImAll H (t.map V.int) (t.map PyData.int)
  | [] => .nil
  | z :: t => .cons (.int z) (imAll_int t)
theorem im_intsT {H : Hp} {a : Addr} {ds : List Int} (h : H a = some (.tup (ds.map V.int))) : Im H (.ref a) (.tuple (ds.map .int)) := .tup h (imAll_int ds)
open PySem PySem.Spec PyProof.Rows L2
open PySem.W (EachIs)
theorem walk_zipT {K : PySem.W.Frag} {a b : Addr} {xs ys : List V} {n : Nat} (hn : n = min xs.length ys.length) : Walk (RZ.ItzT K a b) n (fun H => SqT K H a xs ∧ SqT K H b ys) (YPair (fun i => xs[i]?) (fun i => ys[i]?)) := by
  subst hn
  refine ⟨fun i _ hi q => ?_, fun _ q => ⟨xs, ys, q.1, q.2, by omega⟩, fun i H v H' _ q y => ?_⟩
  · have h1 : i < xs.length := by omega
    have h2 : i < ys.length := by omega
    exact ⟨xs, ys, xs[i], ys[i], q.1, q.2, by simp [h1], by simp [h2]⟩
  · obtain ⟨T, x, z, h1, h2, h3, h4, h5⟩ := y
    exact ⟨T, x, z, h1, h2, h3, h4 xs q.1, h5 ys q.2⟩
/-- over two tuples of one length -/
theorem lcg_zipTF (T : List (Addr × Str)) {K : PySem.W.Frag} {σ : L2.St} {H : Hp} {Q : VK} {g : TG} {te : TE} {vs : List Nat} {a b : Addr} {xs ys : List V} (h1 : SqT K H a xs) (h2 : SqT K H b ys) (hl : xs.length = ys.length) (hs : xs.length < sizeLine) (f : Nat → V)
    (step : ∀ (i : Nat) (x y : V) (t : Addr), xs[i]? = some x → ys[i]? = some y → ∀ H', Ext T [] H H' → H' t = some (.tup [x, y]) → ∀ R : VK, (∀ H2, Ext T [] H' H2 → R (f i) H2) → g (.ref t) (wipe σ vs) H' fun σ2 H2 => wipe σ2 vs = wipe σ vs ∧ tYes σ2 H2 fun b H3 => if b = true then te σ2 H3 R else True)
    (q : ∀ D H2, Nw H D → Ext T [] H H2 → H2 D = some (.lst ((List.range xs.length).map f)) → Q (.ref D) H2) : LcG (RZ.ItzT K a b) g tYes te vs σ H Q := fun D hD => by
  refine lc_it (walk_zipT (n := xs.length) (by rw [← hl, Nat.min_self]) (xs := xs) (ys := ys)) (fun i H2 => Ext T [] H H2 ∧ H2 D = some (.lst ((List.range i).map f))) ⟨.new hD, upd_same⟩ (fun i H2 _ h => ⟨h.1.seqT (by simp) h1, h.1.seqT (by simp) h2⟩) (fun i x H1 H' hi h y => ?_) (fun H1 h => ?_)
  · obtain ⟨t, u, v, rfl, nt, rfl, hu, hv⟩ := y
    obtain ⟨e1, e2⟩ := h
    obtain ⟨nt2, e3, ht⟩ := alT (T := T) nt [u, v]
    generalize upd H1 t _ = H' at e3 ht ⊢
    have h3 := step i u v t hu hv H' (e1.trans e3) ht
    have hD2 := lst.x e2 e3
    have h4 := h3 (fun y H4 => ∃ acc, H4 D = some (.lst acc) ∧ acc.length < sizeLine ∧ (Ext T [] H (upd H4 D (.lst (acc ++ [y]))) ∧ (upd H4 D (.lst (acc ++ [y]))) D = some (.lst ((List.range (i + 1)).map f)))) (fun H2 e4 => by
      have hD3 := lst.x hD2 e4
      refine ⟨_, hD3, ?_, ((e1.trans e3).trans e4).own (.of hD) hD3, ?_⟩
      · rw [List.length_map, List.length_range]
        omega
      · rw [upd_same, List.range_succ, List.map_append]
        rfl)
    exact h4
  · exact q D H1 (.of hD) h.1 h.2
theorem bd_get {H : Hp} {xs : List V} {bs : List Bd} {i : Nat} {x : V} (h : ImAll H xs (bs.map bdD)) (hx : xs[i]? = some x) : ∃ b a, bs[i]? = some b ∧ x = .ref a ∧ SqP H a [.int b.1, .int b.2] ∧ Im H x (bdD b) := by
  obtain ⟨d, h1, h2⟩ := h.get' hx
  rw [List.getElem?_map] at h1
  obtain ⟨b, h3, rfl⟩ := Option.map_eq_some_iff.mp h1
  obtain ⟨a, u, v, rfl, h4, h5, h6⟩ := Im.pair' h2
  refine ⟨b, a, h3, rfl, ?_, h2⟩
  rw [h5.int', h6.int'] at h4
  exact h4
theorem getD_of {α : Type} {l : List α} {i : Nat} {x d : α} (h : l[i]? = some x) : l.getD i d = x := by
  rw [List.getD_eq_getElem?_getD, h]
  rfl
theorem areD_len {bs : List Bd} {ds : List Int} (h : areD bs ds = true) : ds.length = bs.length := by
  unfold areD at h
  rw [Bool.and_eq_true] at h
  exact of_decide_eq_true h.1
open PySem PySem.Spec PyProof.Rows L2
def DIn (bs : List Bd) (ds : List Int) : Prop := ∀ j, j < ds.length → (bs.getD j (0, 0)).1 ≤ ds.getD j 0 ∧ ds.getD j 0 ≤ (bs.getD j (0, 0)).2
theorem areD_iff {bs : List Bd} {ds : List Int} : areD bs ds = true ↔ ds.length = bs.length ∧ DIn bs ds := by
  unfold areD DIn
  rw [Bool.and_eq_true, decide_eq_true_eq, List.all_eq_true]
  constructor
  · rintro ⟨h1, h2⟩
    refine ⟨h1, fun j hj => ?_⟩
    have := h2 j (List.mem_range.mpr hj)
    rw [Bool.and_eq_true, decide_eq_true_eq, decide_eq_true_eq] at this
    exact this
  · rintro ⟨h1, h2⟩
    refine ⟨h1, fun j hj => ?_⟩
    rw [Bool.and_eq_true, decide_eq_true_eq, decide_eq_true_eq]
    exact h2 j (List.mem_range.mp hj)
theorem getD_app_lt {α : Type} {l : List α} {x d : α} {j : Nat} (h : j < l.length) : (l ++ [x]).getD j d = l.getD j d := by
  rw [List.getD_eq_getElem?_getD, List.getD_eq_getElem?_getD, List.getElem?_append_left h]
theorem getD_app_eq {α : Type} {l : List α} {x d : α} : (l ++ [x]).getD l.length d = x := by
  rw [List.getD_eq_getElem?_getD, List.getElem?_append_right (Nat.le_refl _)]
  simp
theorem DIn.snoc {bs : List Bd} {ds : List Int} {d : Int} (h : DIn bs ds) (h1 : (bs.getD ds.length (0, 0)).1 ≤ d) (h2 : d ≤ (bs.getD ds.length (0, 0)).2) : DIn bs (ds ++ [d]) := by
  intro j hj
  rw [List.length_append] at hj
  by_cases c : j < ds.length
  · rw [getD_app_lt c]
    exact h j c
  · have e : j = ds.length := by
      have : [d].length = 1 := rfl
      omega
    rw [e, getD_app_eq]
    exact ⟨h1, h2⟩
open PySem PySem.Spec PyProof.Rows L2
theorem rd_listK2 {K : PySem.W.Frag} {kd : Bool} {H : Hp} {Q : VK} {p : Addr} {ys : List V} (h : SqK K kd H p ys) (q : ∀ l, H l = none → Q (.ref l) (upd H l (.lst ys))) : rListOf K [.ref p] H Q := by
  cases kd with
  | true => exact rd_listL h q
  | false => exact rd_listT h q
open PySem PySem.Spec PyProof.Rows L2
theorem rd_rng2 {σ : L2.St} {H : Hp} {ta : TA} {R : It → Hp → Prop} (q : ta σ H fun vs H1 => ∃ i j : Int, vs = [.int i, .int j] ∧ (-(2 ^ 62) ≤ i ∧ i < 2 ^ 62 ∧ -(2 ^ 62) ≤ j ∧ j < 2 ^ 62) ∧ R (Itr i (j - i).toNat) H1) : iRng2 ta σ H R := q
open PySem PySem.Spec PyProof.Rows L2
section
variable {K : PySem.W.Frag} {H : Hp} {Q : VK}
theorem rd_catAny (T : List (Addr × Str)) {a b : Addr} {xs ys : List V} (h1 : H a = some (.tup xs)) (h2 : H b = some (.tup ys)) (c : xs.length + ys.length ≤ 1000) (q : ∀ p H', Ext T [] H H' → H' p = some (.tup (xs ++ ys)) → Q (.ref p) H') : rPlus K (.ref a) (.ref b) H Q := by
  by_cases e1 : xs = []
  · subst e1
    exact rd_catT0 (SqT.of h1) (SqT.of h2) (q b H .refl h2)
  · refine .inr (.inr (.inr (.inl ⟨a, b, xs, ys, rfl, rfl, SqT.of h1, SqT.of h2, e1, Nat.le_trans c (by decide), fun e => ?_, fun _ p np => q p _ (.new np) upd_same⟩)))
    refine q a H .refl ?_
    rw [e, List.append_nil]
    exact h1
theorem rd_slAny (T : List (Addr × Str)) {a : Addr} {xs : List V} {lo hi : Option Int} (h : H a = some (.tup xs)) (q : ∀ p H', Ext T [] H H' → H' p = some (.tup (cutV xs lo hi)) → Q (.ref p) H') : rSlU2 K (.ref a) lo hi H Q := by
  by_cases w : HT.sIx xs.length 0 lo = 0 ∧ HT.sIx xs.length xs.length hi = xs.length
  · refine rd_slW (SqT.of h) w.1 w.2 (q a H .refl ?_)
    unfold cutV
    rw [w.1, w.2, List.drop_zero, Nat.sub_zero, List.take_length]
    exact h
  · exact rd_slT2 (SqT.of h) w fun p np => q p _ (.new np) upd_same
end
theorem cutV_neg (xs : List V) : cutV xs none (some (-1)) = xs.dropLast := by
  unfold cutV
  rw [HT.sIx_none]
  have e : HT.sIx xs.length xs.length (some (-1)) = xs.length - 1 := by
    unfold HT.sIx
    simp only []
    split <;> omega
  rw [e, List.drop_zero, Nat.sub_zero, List.dropLast_eq_take]
theorem cutV_last (xs : List V) : cutV xs (some (-1)) none = xs.drop (xs.length - 1) := by
  unfold cutV
  rw [HT.sIx_none]
  have e : HT.sIx xs.length 0 (some (-1)) = xs.length - 1 := by
    unfold HT.sIx
    simp only []
    split <;> omega
  rw [e, List.take_of_length_le (by rw [List.length_drop]; omega)]
theorem areD_no_len {bs : List Bd} {ds : List Int} (h : ds.length ≠ bs.length) : areD bs ds = false := by
  cases e : areD bs ds with
  | false => rfl
  | true => exact absurd (areD_iff.mp e).1 h
theorem areD_no_at {bs : List Bd} {ds : List Int} {j : Nat} (hj : j < ds.length) (h : ¬ ((bs.getD j (0, 0)).1 ≤ ds.getD j 0 ∧ ds.getD j 0 ≤ (bs.getD j (0, 0)).2)) : areD bs ds = false := by
  cases e : areD bs ds with
  | false => rfl
  | true => exact absurd ((areD_iff.mp e).2 j hj) h
theorem dep_rw2 (r : Rw) : (rwD r).depth ≤ 1 := by show 0 + 1 ≤ 1; omega
theorem dep_ints2 : ∀ t : List Int, PyData.depthAll (t.map PyData.int) = 0
  | [] => rfl
  | z :: zs => by
    show max (PyData.depth (.int z)) (PyData.depthAll (zs.map PyData.int)) = 0
    rw [dep_ints2 zs]
    rfl
theorem dep_run (r : List Int × List Int) : (runD r).depth ≤ 64 := by
  show max (PyData.depthAll (r.1.map PyData.int) + 1) (max (PyData.depthAll (r.2.map PyData.int) + 1) 0) + 1 ≤ 64
  rw [dep_ints2, dep_ints2]
  decide
def spRefused (T : List (Addr × Str)) : Sp := fun vs H Q _ => ∃ (va vb vd : V) (tb : List Rw) (bs : List Bd) (ds : List Int), vs = [va, vb, vd] ∧ Im H va (.tuple (tb.map rwD)) ∧ Im H vb (.tuple (bs.map bdD)) ∧ Im H vd (.tuple (ds.map .int)) ∧ TbLt tb ∧ tb.length ≤ 100 ∧ bs.length ≤ 50 ∧ ds.length ≤ 50 ∧
  areD bs ds = false ∧ ∀ H', Ext T [] H H' → Q (.bl true) H'
/-- what is more known of the classes of errors -/
structure ErrIs (K : PySem.W.Frag) (mg : Str → Option Value) (C CN CB : Addr) : Prop where
  gN : mg "NeverdarkError" = some (.ref CN)
  gB : mg "BadText" = some (.ref CB)
  kN : PySem.W.kitOne K (.ref C) (.ref CN) = some true
  kB : PySem.W.kitOne K (.ref C) (.ref CB) = some false
open PySem PySem.Spec PyProof.Rows L2
theorem pe_cls {X : Cx} {x : Str} {C : Addr} {pos : Pos} (hg : Gl X x) (hm : X.mg x = some (.ref C)) (hd : (x == ("__debug__" : Str)) = false := by decide) : PE X (.Name x pos) (tC (.ref C)) := pe_glob hg hm (show RelV (.ref C) (.ref C) from rfl) hd
open PySem PySem.Spec PyProof.Rows L2
theorem rd_callS {sp : Sp} {E : L2.St → XK} {t : TA} {σ : L2.St} {H : Hp} {Q : VK} (q : t σ H fun vs H1 => sp vs H1 Q (E σ)) : tCallS sp E t σ H Q := q
theorem rd_xf {a : Addr} {cls : Value} {d : Option Addr} {C : Addr} {f : Str} {te : TE} {σ : L2.St} {H : Hp} {Q : VK} (q : te σ H fun x H1 => x = .ref a ∧ cls = .ref C ∧ ∃ (dd : Addr) (fs : List (Str × V)) (v : V), d = some dd ∧ H1 dd = some (.xd fs) ∧ fs.lookup f = some v ∧ Q v H1) : tXf a cls d C f te σ H Q := q

open PySem PySem.Spec PyProof.Rows L2
open PySem.W (EachIs dataLe dataLt sort_maps AllAlike Sortable)
/-! ### tables out of rows: the numbers -/
abbrev Kj := Nat × Nat
def kj (k : Kj) : List L2.Key := [.inl (k.1 : Int), .inl (k.2 : Int)]
theorem kj_inj {a b : Kj} (h : kj a = kj b) : a = b := by
  unfold kj at h
  injection h with h1 h
  injection h with h2 _
  injection h1 with h1
  injection h2 with h2
  exact Prod.ext (Int.ofNat.inj h1) (Int.ofNat.inj h2)
def putG (acc : List (Kj × Int)) (k : Kj) (v : Int) : List (Kj × Int) := if (acc.any fun kv => decide (kv.1 = k)) = true then acc.map (fun kv => if kv.1 = k then (kv.1, v) else kv) else acc ++ [(k, v)]
def getG (acc : List (Kj × Int)) (k : Kj) : Option Int := (acc.find? fun kv => decide (kv.1 = k)).map (·.2)
def kvG (acc : List (Kj × Int)) : List (List L2.Key × V) := acc.map fun p => (kj p.1, V.int p.2)
theorem dec_kj (a b : Kj) : decide (kj a = kj b) = decide (a = b) := by
  by_cases h : a = b
  · simp [h]
  · rw [decide_eq_false h, decide_eq_false fun e => h (kj_inj e)]
theorem putK_kvG (acc : List (Kj × Int)) (k : Kj) (v : Int) : putK (kvG acc) (kj k) (.int v) = kvG (putG acc k v) := by
  unfold putK putG kvG
  have e : (acc.map fun p => (kj p.1, V.int p.2)).any (fun kv => decide (kv.1 = kj k)) = acc.any fun kv => decide (kv.1 = k) := by
    rw [List.any_map]
    congr 1
    funext p
    exact dec_kj p.1 k
  rw [e]
  split
  · rw [List.map_map, List.map_map]
    refine List.map_congr_left fun p _ => ?_
    show (if kj p.1 = kj k then (kj p.1, V.int v) else (kj p.1, V.int p.2)) = _
    by_cases h : p.1 = k
    · simp [h]
    · rw [if_neg fun e => h (kj_inj e)]
      simp [h]
  · rw [List.map_append]
    rfl
theorem valV_kvG (acc : List (Kj × Int)) (k : Kj) : valV (kvG acc) (kj k) = (getG acc k).map V.int := by
  unfold valV getG kvG
  rw [List.find?_map]
  have e : ((fun kv : List L2.Key × V => decide (kv.1 = kj k)) ∘ fun p : Kj × Int => (kj p.1, V.int p.2)) = fun kv => decide (kv.1 = k) := by
    funext p
    exact dec_kj p.1 k
  rw [e]
  cases acc.find? fun kv => decide (kv.1 = k) <;> rfl
def gwStep (acc : List (Kj × Int)) (r : Rw) : List (Kj × Int) := putG acc (r.1, r.2.1) (if (getG acc (r.1, r.2.1)).getD r.2.2 > r.2.2 then (getG acc (r.1, r.2.1)).getD r.2.2 else r.2.2)
def gw (rs : List Rw) : List (Kj × Int) := rs.foldl gwStep []
/-- what the dict says of the rows -/
structure GwOk (rs : List Rw) (acc : List (Kj × Int)) : Prop where
  nd : (acc.map (·.1)).Nodup
  is : ∀ p ∈ acc, (∃ r ∈ rs, (r.1, r.2.1) = p.1 ∧ r.2.2 = p.2) ∧ ∀ r ∈ rs, (r.1, r.2.1) = p.1 → r.2.2 ≤ p.2
  all : ∀ r ∈ rs, ∃ p ∈ acc, p.1 = (r.1, r.2.1)
  len : acc.length ≤ rs.length
theorem getG_mem {acc : List (Kj × Int)} (hn : (acc.map (·.1)).Nodup) {k : Kj} {v : Int} (h : (k, v) ∈ acc) : getG acc k = some v := by
  induction acc with
  | nil => cases h
  | cons p acc ih =>
    rw [List.map_cons, List.nodup_cons] at hn
    unfold getG
    rcases List.mem_cons.mp h with e | h
    · rw [← e]
      simp
    · have hne : ¬ p.1 = k := fun e => hn.1 (by rw [e]; exact List.mem_map.mpr ⟨_, h, rfl⟩)
      rw [List.find?_cons_of_neg (by simpa using hne)]
      exact ih hn.2 h
theorem getG_none {acc : List (Kj × Int)} {k : Kj} (h : ∀ p ∈ acc, p.1 ≠ k) : getG acc k = none := by
  unfold getG
  rw [List.find?_eq_none.mpr fun p hp => by simpa using h p hp]
  rfl
theorem gw_step {rs : List Rw} {acc : List (Kj × Int)} {r : Rw} (G : GwOk rs acc) : GwOk (rs ++ [r]) (gwStep acc r) := by
  unfold gwStep putG
  by_cases hin : ∃ v, ((r.1, r.2.1), v) ∈ acc
  · obtain ⟨v, hv⟩ := hin
    have hg := getG_mem G.nd hv
    rw [hg]
    show GwOk _ (if _ then acc.map (fun kv : Kj × Int => if kv.1 = (r.1, r.2.1) then (kv.1, if v > r.2.2 then v else r.2.2) else kv) else _)
    have ha : (acc.any fun kv => decide (kv.1 = (r.1, r.2.1))) = true := List.any_eq_true.mpr ⟨_, hv, by simp⟩
    rw [if_pos ha]
    have hk : (acc.map (fun kv => if kv.1 = (r.1, r.2.1) then (kv.1, if v > r.2.2 then v else r.2.2) else kv)).map (·.1) = acc.map (·.1) := by
      rw [List.map_map]
      refine List.map_congr_left fun p _ => ?_
      show (if p.1 = (r.1, r.2.1) then (p.1, if v > r.2.2 then v else r.2.2) else p).1 = p.1
      split <;> rfl
    refine ⟨by rw [hk]; exact G.nd, fun p hp => ?_, fun r2 hr2 => ?_, ?_⟩
    · obtain ⟨y, hy, e⟩ := List.mem_map.mp hp
      by_cases c : y.1 = (r.1, r.2.1)
      · rw [if_pos c] at e
        have hyv : y.2 = v := by
          have h2 := getG_mem G.nd (show (y.1, y.2) ∈ acc from hy)
          rw [c, hg] at h2
          exact (Option.some.inj h2).symm
        obtain ⟨⟨r0, h1, h2, h3⟩, h4⟩ := G.is y hy
        rw [← e]
        refine ⟨?_, fun r2 hr2 he => ?_⟩
        · by_cases c2 : v > r.2.2
          · exact ⟨r0, List.mem_append_left _ h1, h2, by show r0.2.2 = if v > r.2.2 then v else r.2.2; rw [if_pos c2, h3, hyv]⟩
          · exact ⟨r, List.mem_append_right _ (List.mem_singleton.mpr rfl), c.symm, by show r.2.2 = if v > r.2.2 then v else r.2.2; rw [if_neg c2]⟩
        · show r2.2.2 ≤ if v > r.2.2 then v else r.2.2
          rcases List.mem_append.mp hr2 with hr2 | hr2
          · have := h4 r2 hr2 he
            split <;> omega
          · rw [List.mem_singleton.mp hr2]
            split <;> omega
      · rw [if_neg c] at e
        rw [← e]
        obtain ⟨⟨r0, h1, h2⟩, h4⟩ := G.is y hy
        refine ⟨⟨r0, List.mem_append_left _ h1, h2⟩, fun r2 hr2 he => ?_⟩
        rcases List.mem_append.mp hr2 with hr2 | hr2
        · exact h4 r2 hr2 he
        · rw [List.mem_singleton.mp hr2] at he
          exact absurd he.symm c
    · have key : ∃ p ∈ acc, p.1 = (r2.1, r2.2.1) := by
        rcases List.mem_append.mp hr2 with hr2 | hr2
        · exact G.all r2 hr2
        · rw [List.mem_singleton.mp hr2]
          exact ⟨_, hv, rfl⟩
      obtain ⟨p, hp, e⟩ := key
      refine ⟨_, List.mem_map_of_mem hp, ?_⟩
      rw [← e]
      split <;> rfl
    · rw [List.length_map, List.length_append]
      have := G.len
      omega
  · have hno : ∀ p ∈ acc, p.1 ≠ (r.1, r.2.1) := fun p hp e => hin ⟨p.2, by rw [← e]; exact hp⟩
    rw [getG_none hno]
    have ha : ¬ (acc.any fun kv => decide (kv.1 = (r.1, r.2.1))) = true := fun h => by
      obtain ⟨p, hp, e⟩ := List.any_eq_true.mp h
      exact hno p hp (of_decide_eq_true e)
    rw [if_neg ha]
    have ev : (if (none : Option Int).getD r.2.2 > r.2.2 then (none : Option Int).getD r.2.2 else r.2.2) = r.2.2 := by
      show (if r.2.2 > r.2.2 then r.2.2 else r.2.2) = r.2.2
      split <;> rfl
    rw [ev]
    refine ⟨?_, fun p hp => ?_, fun r2 hr2 => ?_, ?_⟩
    · rw [List.map_append]
      refine nodup_snoc G.nd fun h => ?_
      obtain ⟨p, hp, e⟩ := List.mem_map.mp h
      exact hno p hp e
    · rcases List.mem_append.mp hp with hp | hp
      · obtain ⟨⟨r0, h1, h2⟩, h4⟩ := G.is p hp
        refine ⟨⟨r0, List.mem_append_left _ h1, h2⟩, fun r2 hr2 he => ?_⟩
        rcases List.mem_append.mp hr2 with hr2 | hr2
        · exact h4 r2 hr2 he
        · rw [List.mem_singleton.mp hr2] at he
          exact absurd he.symm (hno p hp)
      · rw [List.mem_singleton.mp hp]
        refine ⟨⟨r, List.mem_append_right _ (List.mem_singleton.mpr rfl), rfl, rfl⟩, fun r2 hr2 he => ?_⟩
        rcases List.mem_append.mp hr2 with hr2 | hr2
        · obtain ⟨p2, hp2, e2⟩ := G.all r2 hr2
          exact absurd (e2.trans he) (hno p2 hp2)
        · rw [List.mem_singleton.mp hr2]
          exact Int.le_refl _
    · rcases List.mem_append.mp hr2 with hr2 | hr2
      · obtain ⟨p, hp, e⟩ := G.all r2 hr2
        exact ⟨p, List.mem_append_left _ hp, e⟩
      · rw [List.mem_singleton.mp hr2]
        exact ⟨_, List.mem_append_right _ (List.mem_singleton.mpr rfl), rfl⟩
    · rw [List.length_append, List.length_append]
      have := G.len
      show _ + 1 ≤ _ + 1
      omega
theorem gw_ok (rs : List Rw) : ∀ i, i ≤ rs.length → GwOk (rs.take i) ((rs.take i).foldl gwStep [])
  | 0, _ => ⟨by simp, by simp, by simp, by simp⟩
  | i + 1, h => by
    have hi : i < rs.length := h
    rw [List.take_add_one, List.getElem?_eq_getElem hi]
    show GwOk (rs.take i ++ [rs[i]]) ((rs.take i ++ [rs[i]]).foldl gwStep [])
    rw [List.foldl_append]
    exact gw_step (gw_ok rs i (by omega))
theorem gw_all (rs : List Rw) : GwOk rs (gw rs) := by
  have h := gw_ok rs rs.length (Nat.le_refl _)
  rw [List.take_length] at h
  exact h
/-! ### the two lists of waits -/
def aOf (bs : List Bd) (k : Nat) : Int := (bs.getD (k - 1) (0, 0)).1
def thr (k j : Nat) : Int := if j = k - 1 then 2 else 1
def plOf (bs : List Bd) (p : Kj × Int) : Option Rw := if p.1.2 < p.1.1 ∧ p.2 - aOf bs p.1.1 ≥ thr p.1.1 p.1.2 then some (p.1.1, p.1.2, p.2 - aOf bs p.1.1) else none
def plL (rs : List Rw) (bs : List Bd) : List Rw := (gw rs).filterMap (plOf bs)
def waitsL (rs : List Rw) (bs : List Bd) (k j : Nat) : List Int := (rs.filter fun r => decide (r.1 = k) && decide (r.2.1 = j)).map fun r => r.2.2 - aOf bs k
def IsMax (m : Int) (l : List Int) : Prop := m ∈ l ∧ ∀ y ∈ l, y ≤ m
theorem max_ex : ∀ l : List Int, ∃ m, IsMax m (0 :: l)
  | [] => ⟨0, by simp [IsMax]⟩
  | x :: l => by
    obtain ⟨m, h1, h2⟩ := max_ex l
    by_cases c : x ≤ m
    · refine ⟨m, ?_, fun y hy => ?_⟩
      · rcases List.mem_cons.mp h1 with h | h
        · rw [h]; exact List.mem_cons_self
        · exact List.mem_cons_of_mem _ (List.mem_cons_of_mem _ h)
      · rcases List.mem_cons.mp hy with h | h
        · exact h2 y (by rw [h]; exact List.mem_cons_self)
        rcases List.mem_cons.mp h with h | h
        · rw [h]; exact c
        · exact h2 y (List.mem_cons_of_mem _ h)
    · refine ⟨x, by simp, fun y hy => ?_⟩
      rcases List.mem_cons.mp hy with h | h
      · have := h2 0 List.mem_cons_self
        omega
      rcases List.mem_cons.mp h with h | h
      · omega
      · have := h2 y (List.mem_cons_of_mem _ h)
        omega
noncomputable def tw (rs : List Rw) (bs : List Bd) (k j : Nat) : Int := (max_ex (waitsL rs bs k j)).choose
theorem tw_is (rs : List Rw) (bs : List Bd) (k j : Nat) : IsMax (tw rs bs k j) (0 :: waitsL rs bs k j) := (max_ex (waitsL rs bs k j)).choose_spec
theorem max_uniq {l : List Int} {a b : Int} (h1 : IsMax a l) (h2 : IsMax b l) : a = b := by
  have := h1.2 b h2.1
  have := h2.2 a h1.1
  omega
noncomputable def llOf (rs : List Rw) (bs : List Bd) (k j : Nat) : Option Rw := if tw rs bs k j > 1 ∨ (tw rs bs k j = 1 ∧ j < k - 1) then some (k, j, tw rs bs k j) else none
noncomputable def llRow (rs : List Rw) (bs : List Bd) (k : Nat) : List Rw := (List.range k).filterMap (llOf rs bs k)
noncomputable def llL (rs : List Rw) (bs : List Bd) (n : Nat) : List Rw := (List.range n).flatMap fun i => llRow rs bs (i + 1)
theorem ll_mem {rs : List Rw} {bs : List Bd} {n : Nat} {x : Rw} : x ∈ llL rs bs n ↔ 1 ≤ x.1 ∧ x.1 ≤ n ∧ x.2.1 < x.1 ∧ x.2.2 = tw rs bs x.1 x.2.1 ∧ x.2.2 ≥ thr x.1 x.2.1 := by
  unfold llL llRow
  rw [List.mem_flatMap]
  constructor
  · rintro ⟨i, hi, h⟩
    obtain ⟨j, hj, e⟩ := List.mem_filterMap.mp h
    rw [List.mem_range] at hi hj
    unfold llOf at e
    split at e
    · rename_i c
      have e := Option.some.inj e
      subst e
      refine ⟨by show 1 ≤ i + 1; omega, by show i + 1 ≤ n; omega, by show j < i + 1; omega, rfl, ?_⟩
      show tw rs bs (i + 1) j ≥ thr (i + 1) j
      unfold thr
      split <;> omega
    · cases e
  · rintro ⟨h1, h2, h3, h4, h5⟩
    refine ⟨x.1 - 1, List.mem_range.mpr (by omega), List.mem_filterMap.mpr ⟨x.2.1, List.mem_range.mpr (by omega), ?_⟩⟩
    have e : x.1 - 1 + 1 = x.1 := by omega
    rw [e]
    unfold llOf
    rw [if_pos]
    · rw [← h4]
    · unfold thr at h5
      rw [← h4]
      split at h5 <;> omega
theorem pl_mem {rs : List Rw} {bs : List Bd} {x : Rw} : x ∈ plL rs bs ↔ x.2.1 < x.1 ∧ (∃ r ∈ rs, r.1 = x.1 ∧ r.2.1 = x.2.1 ∧ r.2.2 - aOf bs x.1 = x.2.2) ∧ (∀ r ∈ rs, r.1 = x.1 → r.2.1 = x.2.1 → r.2.2 - aOf bs x.1 ≤ x.2.2) ∧ x.2.2 ≥ thr x.1 x.2.1 := by
  have G := gw_all rs
  unfold plL
  rw [List.mem_filterMap]
  constructor
  · rintro ⟨p, hp, e⟩
    unfold plOf at e
    split at e
    · rename_i c
      have e := Option.some.inj e
      subst e
      obtain ⟨⟨r, h1, h2, h3⟩, h4⟩ := G.is p hp
      refine ⟨c.1, ⟨r, h1, show r.1 = p.1.1 from congrArg Prod.fst h2, show r.2.1 = p.1.2 from congrArg Prod.snd h2, by show r.2.2 - _ = p.2 - _; rw [h3]⟩, fun r2 hr2 e1 e2 => ?_, c.2⟩
      have := h4 r2 hr2 (Prod.ext e1 e2)
      show r2.2.2 - aOf bs p.1.1 ≤ p.2 - aOf bs p.1.1
      omega
    · cases e
  · rintro ⟨h1, ⟨r, h2, h3, h4, h5⟩, h6, h7⟩
    obtain ⟨p, hp, e⟩ := G.all r h2
    obtain ⟨⟨r0, g1, g2, g3⟩, g4⟩ := G.is p hp
    have e1 : p.1.1 = x.1 := by rw [e]; exact h3
    have e2 : p.1.2 = x.2.1 := by rw [e]; exact h4
    have hle := g4 r h2 e.symm
    have hge := h6 r0 g1 ((congrArg Prod.fst g2).trans e1) ((congrArg Prod.snd g2).trans e2)
    have ev : p.2 - aOf bs x.1 = x.2.2 := by omega
    refine ⟨p, hp, ?_⟩
    unfold plOf
    rw [e1, e2, ev, if_pos ⟨h1, h7⟩]
theorem pl_ll {rs : List Rw} {bs : List Bd} {n : Nat} (hn : ∀ r ∈ rs, r.1 ≤ n) (x : Rw) : x ∈ plL rs bs ↔ x ∈ llL rs bs n := by
  rw [pl_mem, ll_mem]
  have tpos : 1 ≤ thr x.1 x.2.1 := by
    unfold thr
    split <;> decide
  have wm : ∀ y, y ∈ waitsL rs bs x.1 x.2.1 ↔ ∃ r ∈ rs, r.1 = x.1 ∧ r.2.1 = x.2.1 ∧ r.2.2 - aOf bs x.1 = y := fun y => by
    unfold waitsL
    rw [List.mem_map]
    constructor
    · rintro ⟨r, hr, e⟩
      obtain ⟨h1, h2⟩ := List.mem_filter.mp hr
      rw [Bool.and_eq_true, decide_eq_true_eq, decide_eq_true_eq] at h2
      exact ⟨r, h1, h2.1, h2.2, e⟩
    · rintro ⟨r, h1, h2, h3, h4⟩
      exact ⟨r, List.mem_filter.mpr ⟨h1, by rw [Bool.and_eq_true, decide_eq_true_eq, decide_eq_true_eq]; exact ⟨h2, h3⟩⟩, h4⟩
  have T := tw_is rs bs x.1 x.2.1
  constructor
  · rintro ⟨h1, ⟨r, h2, h3, h4, h5⟩, h6, h7⟩
    refine ⟨by omega, by have := hn r h2; omega, h1, max_uniq ⟨List.mem_cons_of_mem _ ((wm _).mpr ⟨r, h2, h3, h4, h5⟩), fun y hy => ?_⟩ T, h7⟩
    rcases List.mem_cons.mp hy with e | hy
    · omega
    · obtain ⟨r2, g1, g2, g3, g4⟩ := (wm y).mp hy
      rw [← g4]
      exact h6 r2 g1 g2 g3
  · rintro ⟨h1, h2, h3, h4, h5⟩
    rw [← h4] at T
    have hin : x.2.2 ∈ waitsL rs bs x.1 x.2.1 := by
      rcases List.mem_cons.mp T.1 with e | e
      · omega
      · exact e
    exact ⟨h3, (wm _).mp hin, fun r g1 g2 g3 => T.2 _ (List.mem_cons_of_mem _ ((wm _).mpr ⟨r, g1, g2, g3, rfl⟩)), h5⟩
/-! ### both in order -/
def kjLt (a b : Rw) : Prop := a.1 < b.1 ∨ (a.1 = b.1 ∧ a.2.1 < b.2.1)
theorem eq_of_strict {α : Type} {R : α → α → Prop} (ha : ∀ a b, R a b → ¬ R b a) : ∀ {l m : List α}, l.Pairwise R → m.Pairwise R → (∀ x, x ∈ l ↔ x ∈ m) → l = m
  | [], m, _, _, h => by
    cases m with
    | nil => rfl
    | cons b m => exact absurd ((h b).mpr List.mem_cons_self) (by simp)
  | a :: l, [], _, _, h => absurd ((h a).mp List.mem_cons_self) (by simp)
  | a :: l, b :: m, hl, hm, h => by
    rw [List.pairwise_cons] at hl hm
    have e : a = b := by
      rcases List.mem_cons.mp ((h a).mp List.mem_cons_self) with e | h1
      · exact e
      rcases List.mem_cons.mp ((h b).mpr List.mem_cons_self) with e | h2
      · exact e.symm
      exact absurd (hl.1 b h2) (ha _ _ (hm.1 a h1))
    subst e
    rw [eq_of_strict ha hl.2 hm.2 fun x => ?_]
    constructor
    · intro hx
      rcases List.mem_cons.mp ((h x).mp (List.mem_cons_of_mem _ hx)) with e | h1
      · rw [e] at hx
        exact absurd (hl.1 a hx) (ha _ _ (hl.1 a hx))
      · exact h1
    · intro hx
      rcases List.mem_cons.mp ((h x).mpr (List.mem_cons_of_mem _ hx)) with e | h1
      · rw [e] at hx
        exact absurd (hm.1 a hx) (ha _ _ (hm.1 a hx))
      · exact h1
theorem kjLt_asym (a b : Rw) (h : kjLt a b) : ¬ kjLt b a := by
  unfold kjLt at *
  omega
theorem ll_sorted (rs : List Rw) (bs : List Bd) (n : Nat) : (llL rs bs n).Pairwise kjLt := by
  unfold llL
  rw [List.pairwise_flatMap]
  refine ⟨fun i hi => ?_, List.Pairwise.imp_of_mem (fun {a b} ha hb hab x hx y hy => ?_) (List.pairwise_lt_range)⟩
  · unfold llRow
    rw [List.pairwise_filterMap]
    refine List.Pairwise.imp (fun {a b} hab x hx y hy => ?_) (List.pairwise_lt_range)
    unfold llOf at hx hy
    split at hx
    · split at hy
      · have hx := Option.some.inj hx
        have hy := Option.some.inj hy
        subst hx hy
        exact .inr ⟨rfl, hab⟩
      · cases hy
    · cases hx
  · unfold llRow at hx hy
    obtain ⟨j, _, e1⟩ := List.mem_filterMap.mp hx
    obtain ⟨j2, _, e2⟩ := List.mem_filterMap.mp hy
    unfold llOf at e1 e2
    split at e1
    · split at e2
      · have e1 := Option.some.inj e1
        have e2 := Option.some.inj e2
        subst e1 e2
        exact .inl (by show a + 1 < b + 1; omega)
      · cases e2
    · cases e1
def rwL (r : Rw) : List Int := [(r.1 : Int), (r.2.1 : Int), r.2.2]
def rwLe (a b : Rw) : Bool := !decide (rwL b < rwL a)
theorem rwLe_data (a b : Rw) : rwLe a b = dataLe false id (rwD a) (rwD b) := by
  rw [PySem.W.dataLe_eq]
  show _ = !dataLt (rwD b) (rwD a)
  unfold rwLe
  rw [← PySem.W.dataLt_ints]
  rfl
theorem rwL_lt (a b : Rw) : rwL a < rwL b ↔ ((a.1 : Int) < b.1 ∨ ((a.1 : Int) = b.1 ∧ ((a.2.1 : Int) < b.2.1 ∨ ((a.2.1 : Int) = b.2.1 ∧ a.2.2 < b.2.2)))) := by
  unfold rwL
  rw [List.cons_lt_cons_iff, List.cons_lt_cons_iff, List.cons_lt_cons_iff]
  simp
def srtRw (l : List Rw) : List Rw := l.mergeSort rwLe
theorem srtRw_eq (l : List Rw) : srtD (l.map rwD) = (srtRw l).map rwD := (sort_maps rwD fun a _ b _ => rwLe_data a b).symm
theorem rwLe_iff (a b : Rw) : rwLe a b = true ↔ ¬ rwL b < rwL a := by
  unfold rwLe
  simp
theorem srt_sorted (l : List Rw) : (srtRw l).Pairwise fun a b => rwLe a b = true := by
  refine List.pairwise_mergeSort (fun a b c h1 h2 => ?_) (fun a b => ?_) l
  · rw [rwLe_iff, rwL_lt] at *
    omega
  · rw [Bool.or_eq_true, rwLe_iff, rwLe_iff, rwL_lt, rwL_lt]
    omega
theorem pl_nodup (rs : List Rw) (bs : List Bd) : (plL rs bs).Pairwise fun a b => (a.1, a.2.1) ≠ (b.1, b.2.1) := by
  unfold plL
  rw [List.pairwise_filterMap]
  have h := (gw_all rs).nd
  rw [List.Nodup, List.pairwise_map] at h
  refine List.Pairwise.imp (fun {a b} hab x hx y hy => ?_) h
  unfold plOf at hx hy
  split at hx
  · split at hy
    · have hx := Option.some.inj hx
      have hy := Option.some.inj hy
      subst hx hy
      exact fun e => hab e
    · cases hy
  · cases hx
theorem srt_pl {rs : List Rw} {bs : List Bd} {n : Nat} (hn : ∀ r ∈ rs, r.1 ≤ n) : srtRw (plL rs bs) = llL rs bs n := by
  have hp : (srtRw (plL rs bs)).Perm (plL rs bs) := List.mergeSort_perm _ _
  refine eq_of_strict kjLt_asym ?_ (ll_sorted rs bs n) fun x => hp.mem_iff.trans (pl_ll hn x)
  have h1 := srt_sorted (plL rs bs)
  have h2 : (srtRw (plL rs bs)).Pairwise fun a b => (a.1, a.2.1) ≠ (b.1, b.2.1) := (hp.pairwise_iff fun {a b} h e => h e.symm).mpr (pl_nodup rs bs)
  refine (List.pairwise_and_iff.mpr ⟨h1, h2⟩).imp fun {a b} h => ?_
  obtain ⟨h3, h4⟩ := h
  rw [rwLe_iff, rwL_lt] at h3
  have h4 : ¬ (a.1 = b.1 ∧ a.2.1 = b.2.1) := fun e => h4 (Prod.ext e.1 e.2)
  unfold kjLt
  omega
open PySem PySem.Spec PyProof.Rows L2
open PySem.W (EachIs AllAlike Sortable)
/-- an own new dict is changed -/
theorem Ext.ownT {T : List (Addr × Str)} {ms : List Addr} {H H1 : Hp} {p : Addr} {kvs : List (List L2.Key × V)} {u : HO} (e : Ext T ms H H1) (hn : Nw H p) (h : H1 p = some (.dT kvs)) : Ext T ms H (upd H1 p u) := ⟨fun b x hb hx q => by
  rw [upd_ne (hn.ne q hx)]
  exact e.keep b x hb hx q, fun t => by
  intro q hq
  obtain ⟨ps, h1, h2, h3⟩ := e.tabs t q hq
  refine ⟨ps, ?_, h2, fun pos cv hc => ?_⟩
  · rw [upd_ne]
    · exact h1
    · intro z
      rw [z, h] at h1
      cases h1
  · obtain ⟨c, e1, e2⟩ := h3 pos cv hc
    refine ⟨c, e1, ?_⟩
    rw [upd_ne]
    · exact e2
    · intro z
      rw [z, h] at e2
      unfold LamX.CodeO at e2
      cases e2⟩
theorem dT.x {T : List (Addr × Str)} {H H' : Hp} {a : Addr} {kvs : List (List L2.Key × V)} (h : H a = some (.dT kvs)) (e : Ext T [] H H') : H' a = some (.dT kvs) := e.keep a _ (by simp) (fun _ z => by cases z) h
section
variable {K : PySem.W.Frag} {σ : L2.St} {H : Hp} {Q : VK} {td ty tv tx te : TE} {nx bk ct : L2.St → Hp → Prop} {rt : VK}
theorem rd_dput (q : tv σ H fun v H1 => td σ H1 fun x H2 => ty σ H2 fun y H3 => ∃ a H4, x = .ref a ∧ DPut H3 a y v H4 ∧ nx σ H4) : sDPut td ty tv ⟨nx, rt, bk, ct⟩ σ H := q
theorem rd_dget2 (q : td σ H fun x H1 => ∃ a, x = .ref a ∧ IsD H1 a ∧ ty σ H1 fun y H2 => tx σ H2 fun z H3 => ∃ o, DGet H3 a y o ∧ Q (o.getD z) H3) : tDGet2 td ty tx σ H Q := q
theorem rd_dnewT (q : ∀ p, H p = none → Q (.ref p) (upd H p (.dT []))) : tDNewT σ H Q := q
theorem rd_itemsT {R : It → Hp → Prop} (q : te σ H fun x H1 => ∃ (d : Addr) (kvs : List (List L2.Key × V)), x = .ref d ∧ H1 d = some (.dT kvs) ∧ ∀ o, R (ItiT d o kvs) (upd H1 d (.frz o (.dT kvs)))) : iItemsT te σ H R := q
end
def impB (r : Rw) : Bool := (decide (r.1 = r.2.1) && decide (r.2.2 > 0)) || (decide (0 < r.1) && decide (r.1 < r.2.1) && decide (r.2.2 > (r.1 : Int) - (r.2.1 : Int)))
noncomputable def torF (rs : List Rw) (bs : List Bd) (n : Nat) : Option (List Rw) :=
  if (rs.any impB) = true then none else if (rs.all fun r => !(decide (r.1 = 0) && decide (0 < r.2.1) && decide ((runF (llL rs bs n) [] [] (bs.map (·.2))).2.getD (r.2.1 - 1) 0 > 0 - r.2.2))) = true then some (llL rs bs n) else none
def opT : Option (List Rw) → PyData
  | none => .none
  | some t => .tuple (t.map rwD)
section
variable (T : List (Addr × Str)) (K : PySem.W.Frag)
def spGreat : Sp := fun vs H Q _ => ∃ (a : Addr) (kd : Bool) (rs : List Rw), vs = [.ref a] ∧ DsK K kd H a (rs.map rwD) ∧ rs.length ≤ 100 ∧ ∀ p H', Nw H p → Ext T [] H H' → H' p = some (.dT (kvG (gw rs))) → Q (.ref p) H'
def spImp : Sp := fun vs H Q _ => ∃ (v : V) (r : Rw), vs = [v] ∧ Im H v (rwD r) ∧ Q (.bl (impB r)) H
def spWaits : Sp := fun vs H Q _ => ∃ (a : Addr) (kd : Bool) (vb : V) (rs : List Rw) (bs : List Bd), vs = [.ref a, vb] ∧ DsK K kd H a (rs.map rwD) ∧ Im H vb (.tuple (bs.map bdD)) ∧ RwIn bs.length rs ∧ rs.length ≤ 100 ∧
  ∀ v H', Ext T [] H H' → Im H' v (.tuple ((llL rs bs bs.length).map rwD)) → Q v H'
def spMost : Sp := fun vs H Q _ => ∃ (vb : V) (bs : List Bd), vs = [vb] ∧ Im H vb (.tuple (bs.map bdD)) ∧ bs.length ≤ 100 ∧ ∀ v H', Ext T [] H H' → Im H' v (.tuple ((bs.map (·.2)).map .int)) → Q v H'
def spTor : Sp := fun vs H Q _ => ∃ (a : Addr) (kd : Bool) (vb : V) (rs : List Rw) (bs : List Bd), vs = [.ref a, vb] ∧ DsK K kd H a (rs.map rwD) ∧ Im H vb (.tuple (bs.map bdD)) ∧ RwIn bs.length rs ∧ rs.length ≤ 100 ∧ BdOk bs ∧ bs.length ≤ 6 ∧
  ∀ v H', Ext T [] H H' → Im H' v (opT (torF rs bs bs.length)) → Q v H'
def keepsB2 (rs : List Rw) (ms : List Int) : Bool := rs.all fun r => decide (fn (0 :: ms) r.1 - fn (0 :: ms) r.2.1 ≥ r.2.2)
def spKeeps2 : Sp := fun vs H Q _ => ∃ (a b : Addr) (k1 k2 : Bool) (rs : List Rw) (ms : List Int), vs = [.ref a, .ref b] ∧ DsK K k1 H a (rs.map rwD) ∧ SqK K k2 H b (ms.map V.int) ∧ RwIn ms.length rs ∧ ms.length ≤ 12 ∧ rs.length ≤ 100 ∧
  ∀ H', Ext T [] H H' → Q (.bl (keepsB2 rs ms)) H'
end
theorem bls_of2 {H : Hp} {g : Rw → Bool} : ∀ {ys xs : List V} {rs : List Rw}, EachIs (fun y x => ∃ r, Im H x (rwD r) ∧ y = V.bl (g r)) ys xs → ImAll H xs (rs.map rwD) → ys = (rs.map g).map V.bl
  | _, _, [], h1, h2 => by
    cases h2
    cases h1
    rfl
  | _, _, r :: rs, h1, h2 => by
    cases h2 with
    | cons a b =>
      cases h1 with
      | cons c d =>
        obtain ⟨r', c1, c2⟩ := c
        have e := rwD_inj (Im.inj _ _ _ a c1)
        rw [bls_of2 d b, c2, ← e]
        rfl
theorem alike_rw (l : List Rw) : AllAlike (l.map rwD) := fun d hd e he => by
  obtain ⟨y, _, rfl⟩ := List.mem_map.mp hd
  obtain ⟨z, _, rfl⟩ := List.mem_map.mp he
  rfl
theorem sortable_rw (l : List Rw) : Sortable (l.map rwD) := .inl fun d hd => by
  obtain ⟨y, _, rfl⟩ := List.mem_map.mp hd
  exact ⟨_, _, rfl⟩
theorem depth_rws (l : List Rw) : ∀ d ∈ l.map rwD, d.depth ≤ 60 := fun d hd => by
  obtain ⟨y, _, rfl⟩ := List.mem_map.mp hd
  show 0 + 1 ≤ 60
  omega
open PySem PySem.Spec PyProof.Rows L2
open PySem.W (EachIs AllAlike Sortable)
theorem eachs_of {α : Type} {f : α → PyData} (hf : ∀ a b, f a = f b → a = b) {H : Hp} {g : α → V} : ∀ {ys xs : List V} {as : List α}, EachIs (fun y x => ∃ r, Im H x (f r) ∧ y = g r) ys xs → ImAll H xs (as.map f) → ys = as.map g
  | _, _, [], h1, h2 => by
    cases h2
    cases h1
    rfl
  | _, _, r :: rs, h1, h2 => by
    cases h2 with
    | cons a b =>
      cases h1 with
      | cons c d =>
        obtain ⟨r', c1, c2⟩ := c
        have e := hf _ _ (Im.inj _ _ _ a c1)
        rw [eachs_of hf d b, c2, ← e]
        rfl
theorem bdD_inj (a b : Bd) (h : bdD a = bdD b) : a = b := by
  unfold bdD at h
  injection h with h
  injection h with h1 h
  injection h with h2 _
  injection h1 with h1
  injection h2 with h2
  exact Prod.ext h1 h2
theorem rd_any {K : PySem.W.Frag} {H : Hp} {Q : VK} {a : Addr} {bs : List Bool} (h : SqL K H a (bs.map V.bl)) (q : Q (.bl (bs.any id)) H) : rAny K [.ref a] H Q := ⟨a, bs, rfl, h, q⟩
theorem runF_len {tb : List Rw} : ∀ (ds as dn : List Int), (runF tb as dn ds).2.length = dn.length + ds.length
  | [], as, dn => rfl
  | d :: ds, as, dn => by
    show (runF tb (as ++ [askF tb dn]) (dn ++ [askF tb dn + d]) ds).2.length = _
    rw [runF_len ds]
    simp only [List.length_append, List.length_cons, List.length_nil]
    omega
theorem areD_most {bs : List Bd} (h : BdOk bs) : areD bs (bs.map (·.2)) = true := by
  refine areD_iff.mpr ⟨by rw [List.length_map], fun j hj => ?_⟩
  rw [List.length_map] at hj
  have hb := h bs[j] (List.getElem_mem hj)
  have e1 : bs.getD j (0, 0) = bs[j] := getD_of (List.getElem?_eq_getElem hj)
  have e2 : (bs.map (·.2)).getD j 0 = bs[j].2 := getD_of (by rw [List.getElem?_map, List.getElem?_eq_getElem hj]; rfl)
  rw [e1, e2]
  omega
theorem fn_cons {done : List Int} {j : Nat} (h : 0 < j) : fn (0 :: done) j = done.getD (j - 1) 0 := by
  unfold fn
  obtain ⟨i, rfl⟩ : ∃ i, j = i + 1 := ⟨j - 1, by omega⟩
  rfl
theorem tor_keeps {rs : List Rw} {done : List Int} (h : rs.any impB = false) :
    keepsB2 (rs.filter fun r => decide (r.1 = 0)) done = rs.all fun r => !(decide (r.1 = 0) && decide (0 < r.2.1) && decide (done.getD (r.2.1 - 1) 0 > 0 - r.2.2)) := by
  unfold keepsB2
  rw [List.all_filter]
  have all_c : ∀ {f g : Rw → Bool}, (∀ r ∈ rs, f r = g r) → rs.all f = rs.all g := by
    intro f g h
    rw [Bool.eq_iff_iff, List.all_eq_true, List.all_eq_true]
    exact ⟨fun h2 r hr => by rw [← h r hr]; exact h2 r hr, fun h2 r hr => by rw [h r hr]; exact h2 r hr⟩
  refine all_c fun r hr => ?_
  have hi : impB r = false := by
    cases e : impB r with
    | false => rfl
    | true => exact absurd (List.any_eq_true.mpr ⟨r, hr, e⟩) (by rw [h]; decide)
  by_cases c0 : r.1 = 0
  · have f0 : fn (0 :: done) r.1 = 0 := by rw [c0]; rfl
    rw [f0, decide_eq_true c0]
    by_cases c1 : 0 < r.2.1
    · rw [fn_cons c1, decide_eq_true c1]
      by_cases c2 : done.getD (r.2.1 - 1) 0 > 0 - r.2.2
      · rw [decide_eq_true c2, decide_eq_false (show ¬ 0 - done.getD (r.2.1 - 1) 0 ≥ r.2.2 by omega)]
        rfl
      · rw [decide_eq_false c2, decide_eq_true (show 0 - done.getD (r.2.1 - 1) 0 ≥ r.2.2 by omega)]
        rfl
    · have c1' : r.2.1 = 0 := by omega
      rw [decide_eq_false c1]
      have f1 : fn (0 :: done) r.2.1 = 0 := by rw [c1']; rfl
      rw [f1]
      have hl : r.2.2 ≤ 0 := by
        unfold impB at hi
        rw [Bool.or_eq_false_iff] at hi
        have h2 := hi.1
        rw [decide_eq_true (show r.1 = r.2.1 by omega), Bool.true_and] at h2
        have := of_decide_eq_false h2
        omega
      rw [decide_eq_true (show (0 : Int) - 0 ≥ r.2.2 by omega)]
      rfl
  · rw [decide_eq_false c0]
    rfl
theorem opT_dep (o : Option (List Rw)) : (opT o).depth ≤ 64 := by
  cases o with
  | none => show 0 ≤ 64; decide
  | some t =>
    show PyData.depthAll (t.map rwD) + 1 ≤ 64
    have := dep_map dep_rw2 t
    omega
open PySem PySem.Spec PyProof.Rows L2
theorem rd_cutT {c : TT} {σ : L2.St} {H : Hp} {Q : Bool → Hp → Prop} (Mid : Bool → Hp → Prop) (h1 : ∀ Q' : Bool → Hp → Prop, (∀ b H', Mid b H' → Q' b H') → c σ H Q') (h2 : ∀ b H', Mid b H' → Q b H') : c σ H Q := h1 Q h2
theorem rd_isnN {x : V} {H : Hp} {Q : VK} (q : Q (.bl (!decide (x = .non))) H) : rIsNU x .non H Q := .inr ⟨rfl, q⟩
theorem rd_neLs2 {K : PySem.W.Frag} {H : Hp} {Q : VK} {a b : Addr} {ds : List PyData} (ha : Ls H a ds) (hb : Ls H b ds) (hd : PyData.depth (.list ds) ≤ 64) (q : Q (.bl false) H) : rNeU K (.ref a) (.ref b) H Q := by
  have hs : SeqAt.shaped (.list ds) = true := by
    obtain ⟨xs, _, e2⟩ := ha
    unfold SeqAt.shaped
    rw [show PyData.canLay0 (.list ds) = true from ImAll.lay ds _ e2, decide_eq_true hd]
    rfl
  refine .inr ⟨_, _, ha.dp, hb.dp, hs, hs, ?_⟩
  have he : PyData.eqv (.list ds) (.list ds) = true := by
    obtain ⟨xs, _, e2⟩ := ha
    exact (ImAll.eqv ds ds _ _ e2 e2).mpr rfl
  rw [he]
  exact q
theorem dep_rws2 (rs : List Rw) : PyData.depth (.list (rs.map rwD)) ≤ 64 := by
  have h := dep_map (f := rwD) dep_rw2 rs
  show PyData.depthAll (rs.map rwD) + 1 ≤ 64
  omega
def spRows2 (T : List (Addr × Str)) : Sp := fun vs H Q _ => ∃ (l t : Addr) (n : Nat), vs = [.ref t, .int (n : Int)] ∧ 1 ≤ n ∧ n ≤ 6 ∧ Tape l H t ∧
  ∀ p H' rs, Nw H p → Ext T [t] H H' → Tape l H' t → Ls H' p (rs.map rwD) → RwIn n rs → rs.length ≤ 30 → Q (.ref p) H'

open PySem PySem.Spec PyProof.Rows L2
open PySem.W (ksFn ks_superIn)
theorem exm_selfE {K : PySem.W.Frag} {S : Addr} (h1 : PySem.W.subIn K (.ref S) (.type "BaseException") = some true) (h2 : PySem.W.hasDictIn K S = true) (h3 : PySem.W.typeIn K (.ref S) = some (.type "type")) (h4 : PySem.W.subIn K (.ref S) (.ref S) = some true) :
    PySem.W.exmOne K (.ref S) (.ref S) = some true := PySem.W.exm_ref h1 h2 h3 h4
/-- what the head has written of the code of a def of a class -/
structure InitIn (P : Program) (K : PySem.W.Frag) (fld : Str) (C fI : Addr) (parts : List Expr) (ps : List Pos) (p1 p2 q1 q2 q3 q4 : Pos) (qual : Str) : Prop where
  ex : ∃ (oc : Value) (od : Option Addr) (doc pm kV : Value) (an : Option Addr) (cda cc : Addr) (ct : Value) (osl : Array (Option Value)),
    K.lookup fI = some ⟨oc, od, .func (ksFn "__init__" qual (supA fld p1 p2) (supB fld parts ps q1 q2 q3 q4) (supS fld) .none kV doc pm an (.ref cda) ct cc), osl⟩ ∧ PySem.W.codeIn K (.ref cda) qual = true ∧
    (∃ ccl cdd vs ccs file tf, K.lookup cda = some ⟨ccl, cdd, .fields vs, ccs⟩ ∧ vs[2]? = some (.str file tf) ∧ ((P.main.file : Str) == file) = true) ∧
    (∃ cl cld csl, K.lookup cc = some ⟨cl, cld, .cell (some (.ref C)), csl⟩)
theorem InitIn.of {P : Program} {K : PySem.W.Frag} {fld : Str} {C fI : Addr} {parts : List Expr} {ps : List Pos} {p1 p2 q1 q2 q3 q4 : Pos} {qual : Str} {oc : Value} {od : Option Addr} {doc pm kV : Value} {an : Option Addr} {cda cc : Addr} {ct : Value} {osl : Array (Option Value)} {ccl : Value} {cdd : Option Addr} {vs : Array Value} {ccs : Array (Option Value)} {file : Str} {tf : Tok} {cl : Value} {cld : Option Addr} {csl : Array (Option Value)}
    (h1 : K.lookup fI = some ⟨oc, od, .func (ksFn "__init__" qual (supA fld p1 p2) (supB fld parts ps q1 q2 q3 q4) (supS fld) .none kV doc pm an (.ref cda) ct cc), osl⟩) (h2 : PySem.W.codeIn K (.ref cda) qual = true)
    (h3 : K.lookup cda = some ⟨ccl, cdd, .fields vs, ccs⟩) (h4 : vs[2]? = some (.str file tf)) (h5 : ((P.main.file : Str) == file) = true) (h6 : K.lookup cc = some ⟨cl, cld, .cell (some (.ref C)), csl⟩) : InitIn P K fld C fI parts ps p1 p2 q1 q2 q3 q4 qual :=
  ⟨oc, od, doc, pm, kV, an, cda, cc, ct, osl, h1, h2, ⟨ccl, cdd, vs, ccs, file, tf, h3, h4, h5⟩, ⟨cl, cld, csl, h6⟩⟩
structure ClsIn (P : Program) (K : PySem.W.Frag) (nm fld : Str) (C fI CN : Addr) : Prop where
  aC : PySem.W.nsIn K mainGlobals nm = some (some (.ref C))
  cls : ∃ nm q N bs sn sub ab col dd k0 k1 k2 k3 k5, K.lookup C = some (excClassObj nm q C N bs [.ref CN, .type "ValueError", .type "Exception", .type "BaseException", .type "object"] true sn sub ab col dd k0 k1 k2 k3 k5 "ValueError.__new__")
  sa : PySem.W.findIn K (.ref C) "__setattr__" = some (some (.builtin "object.__setattr__"))
  ga : PySem.W.findIn K (.ref C) "__getattribute__" = some (some (.builtin "BaseException.__getattribute__"))
  gg : PySem.W.findIn K (.ref C) "__getattr__" = some none
  noN : PySem.W.findIn K (.ref C) fld = some none
  iC : PySem.W.findIn K (.ref C) "__init__" = some (some (.ref fI))
  tC : PySem.W.typeIn K (.ref fI) = some (.type "function")
  kC : PySem.W.keepIn K (.ref C) = true
  exC : PySem.W.subIn K (.ref C) (.type "BaseException") = some true
  tyC : PySem.W.typeIn K (.ref C) = some (.type "type")
  hdC : PySem.W.hasDictIn K C = true
  sC : PySem.W.subIn K (.ref C) (.ref C) = some true
  sup : ks_superIn K C C "__init__" = some (some (.builtin "ValueError.__init__"))
  subV : PySem.W.subIn K (.ref C) (.type "ValueError") = some true
  selfC : PySem.W.mroIn K C (.ref C) = some true
  gsup : PySem.W.nsIn K mainGlobals "super" = some none
  opq : PySem.W.nsIn K cStatics "thirdparty.any" = some none
  ha : PySem.W.findIn K (.ref C) "__class__" = some (some (.builtin "object.__class__"))
  hn : PySem.W.specialIn K (.builtin "object.__class__") "__get__" = some (some (.builtin "getset_descriptor.__get__"))
  ht : PySem.W.takesIn K (.builtin "object.__class__") = some true
  hm : PySem.W.mroIn K C (.type "object") = some true
theorem ClsIn.of {P : Program} {K : PySem.W.Frag} {nm fld : Str} {C fI CN : Addr} {nm' q : Str} {N : Addr} {bs : List Value} {sn : List Str} {sub : List Value} {ab : Bool} {col : Option Bool} {dd : Option Addr} {k0 k1 k2 k3 k5 : Option Value}
    (aC : PySem.W.nsIn K mainGlobals nm = some (some (.ref C)))
    (cls : K.lookup C = some (excClassObj nm' q C N bs [.ref CN, .type "ValueError", .type "Exception", .type "BaseException", .type "object"] true sn sub ab col dd k0 k1 k2 k3 k5 "ValueError.__new__"))
    (sa : PySem.W.findIn K (.ref C) "__setattr__" = some (some (.builtin "object.__setattr__")))
    (ga : PySem.W.findIn K (.ref C) "__getattribute__" = some (some (.builtin "BaseException.__getattribute__")))
    (gg : PySem.W.findIn K (.ref C) "__getattr__" = some none)
    (noN : PySem.W.findIn K (.ref C) fld = some none)
    (iC : PySem.W.findIn K (.ref C) "__init__" = some (some (.ref fI)))
    (tC : PySem.W.typeIn K (.ref fI) = some (.type "function"))
    (kC : PySem.W.keepIn K (.ref C) = true)
    (exC : PySem.W.subIn K (.ref C) (.type "BaseException") = some true)
    (tyC : PySem.W.typeIn K (.ref C) = some (.type "type"))
    (hdC : PySem.W.hasDictIn K C = true)
    (sC : PySem.W.subIn K (.ref C) (.ref C) = some true)
    (sup : ks_superIn K C C "__init__" = some (some (.builtin "ValueError.__init__")))
    (subV : PySem.W.subIn K (.ref C) (.type "ValueError") = some true)
    (selfC : PySem.W.mroIn K C (.ref C) = some true)
    (gsup : PySem.W.nsIn K mainGlobals "super" = some none)
    (opq : PySem.W.nsIn K cStatics "thirdparty.any" = some none)
    (ha : PySem.W.findIn K (.ref C) "__class__" = some (some (.builtin "object.__class__")))
    (hn : PySem.W.specialIn K (.builtin "object.__class__") "__get__" = some (some (.builtin "getset_descriptor.__get__")))
    (ht : PySem.W.takesIn K (.builtin "object.__class__") = some true)
    (hm : PySem.W.mroIn K C (.type "object") = some true) : ClsIn P K nm fld C fI CN :=
  ⟨aC, ⟨nm', q, N, bs, sn, sub, ab, col, dd, k0, k1, k2, k3, k5, cls⟩, sa, ga, gg, noN, iC, tC, kC, exC, tyC, hdC, sC, sup, subV, selfC, gsup, opq, ha, hn, ht, hm⟩
theorem ExcT.of {P : Program} {K : PySem.W.Frag} {h : Heap} {mg : Str → Option Value} {nm fld : Str} {C fI CN : Addr} {parts : List Expr} {ps : List Pos} {p1 p2 q1 q2 q3 q4 : Pos} {qual : Str} (X : K.In h) (G : h.Ns mainGlobals mg) (c : ClsIn P K nm fld C fI CN) (i : InitIn P K fld C fI parts ps p1 p2 q1 q2 q3 q4 qual)
    (htop : (P.main.scope.names.lookup ("super" : Str)).isSome = false) (hp : PartsOk fld parts (pz ps 3)) (hc : CallOk fld parts ps) : ExcT P K mg nm fld C fI where
  gC := PySem.W.mg_of X G c.aC
  cls := by
    obtain ⟨nm, q, N, bs, sn, sub, ab, col, dd, k0, k1, k2, k3, k5, e⟩ := c.cls
    exact ⟨nm, q, N, bs, _, sn, sub, ab, col, dd, k0, k1, k2, k3, k5, e, rfl⟩
  sa := c.sa
  ga := c.ga
  gg := c.gg
  noN := c.noN
  iC := c.iC
  tC := c.tC
  kC := c.kC
  exC := c.exC
  tyC := c.tyC
  hdC := c.hdC
  te := exm_selfE c.exC c.hdC c.tyC c.sC
  sup := c.sup
  subV := c.subV
  selfC := c.selfC
  gsup := c.gsup
  opq := c.opq
  htop := htop
  fn := by
    obtain ⟨oc, od, doc, pm, kV, an, cda, cc, ct, osl, h1, h2, h3, h4⟩ := i.ex
    exact ⟨oc, od, doc, pm, kV, an, cda, cc, ct, osl, p1, p2, q1, q2, q3, q4, ps, parts, qual, h1, h2, h3, h4, hp, hc⟩
  ec := ⟨c.ga, c.gg, c.exC, c.hdC, c.ha, c.hn, c.ht, c.hm⟩
theorem parts2 {fld c1 : Str} {k1 : Nat} {p1 p2 p3 jp : Pos} (FO : FldOk fld) (hc : c1.length ≤ 100) : PartsOk fld [.Constant (.str c1) k1 p1, .FormattedValue (.Name fld p2) (-1) none p3] jp :=
  fun _ _ _ _ _ _ _ _ _ _ _ _ _ hn hv hs h => join2 hn hv hs FO.fl FO.db hc h
theorem parts3 {fld c1 c2 : Str} {k1 k2 : Nat} {p1 p2 p3 p4 jp : Pos} (FO : FldOk fld) (hc : c1.length ≤ 100) (hc2 : c2.length ≤ 100) : PartsOk fld [.Constant (.str c1) k1 p1, .FormattedValue (.Name fld p2) (-1) none p3, .Constant (.str c2) k2 p4] jp :=
  fun _ _ _ _ _ _ _ _ _ _ _ _ _ hn hv hs h => join3 hn hv hs FO.fl FO.db hc hc2 h

open PySem PySem.Spec PyProof.Rows L2
/-! enumerate(list, start=1) -/
def Ite1 (K : PySem.W.Frag) (a : Addr) : It :=
  ⟨fun i H => ∃ (xs : List V) (x : V), SqL K H a xs ∧ xs[i]? = some x, fun i H v H' => ∃ T x, v = .ref T ∧ H T = none ∧ H' = upd H T (.tup [.int ((i : Nat) + 1), x]) ∧ ∀ xs, SqL K H a xs → xs[i]? = some x, fun i H => ∃ xs : List V, SqL K H a xs ∧ xs.length = i⟩
theorem ne_iter {h : Heap} {it a : Addr} {i : Nat} {its : Array Value} (h1 : h.IsListIter it a i) (h2 : h.IsList a its) : a ≠ it := fun z => by
  subst z
  obtain ⟨o, q1, q2, _⟩ := h1
  obtain ⟨o2, q3, q4, _⟩ := h2
  rw [q1] at q3
  cases q3
  rw [q2] at q4
  injection q4 with q5
  exact absurd q5 (by decide)
theorem ne_enum {h : Heap} {e it a : Addr} {k : Int} {old : Value} {its : Array Value} (h1 : IsEnum h e it k old) (h2 : h.IsList a its) : e ≠ a := fun z => by
  subst z
  obtain ⟨o2, q3, q4, _⟩ := h2
  have h1 : h.get? e = some _ := h1
  rw [h1] at q3
  cases q3
  injection q4 with q5
  exact absurd q5 (by decide)
theorem turn_enum1 {P : Program} {w : World} {K : PySem.W.Frag} {elts : List Expr} {kk : Nat} {tpos : Pos} (a e it : Addr) :
    Turn P w K (.Tuple elts kk tpos) (Ite1 K a) [e, it] e (fun i h => (∃ old, IsEnum h e it ((i : Nat) + 1 : Int) old) ∧ h.IsListIter it a i ∧ e ≠ it) where
  mem := by simp
  obj := fun i h st b hb => by
    obtain ⟨⟨old, he⟩, ⟨o, ho, hc, hd⟩, _⟩ := st
    have e' : b = e ∨ b = it := by simpa using hb
    rcases e' with z | z
    · rw [z]; exact ⟨_, he, fun v q => nomatch q⟩
    · rw [z]; exact ⟨o, ho, fun v q => by rw [hd] at q; cases q⟩
  keep := fun i h h' st k => let ⟨⟨old, he⟩, hi, hne⟩ := st; ⟨⟨old, k e (by simp) _ he⟩, hi.at fun o q => k it (by simp) o q, hne⟩
  item := by
    intro X hP hw hK hc i pins s σ H E I hf st hg
    subst hP hw hK
    obtain ⟨⟨old, he⟩, hit, hne⟩ := st
    obtain ⟨xs, x, hq, hx⟩ := hg
    obtain ⟨its, rv, p, hz⟩ := I.list hq
    obtain ⟨u, hu, ru⟩ := rv.get hx
    have hel : e < s.heap.objs.size := Heap.lt_size he
    have hil : it < s.heap.objs.size := by obtain ⟨_, q, _⟩ := hit; exact Heap.lt_size q
    have hu0 : its.toArray[i]? = some u := by simpa using hu
    have hx2 : i < its.toArray.size := (Array.getElem?_eq_some_iff.mp hu0).1
    have hae : a ≠ it := ne_iter hit p.isList
    have hea : e ≠ a := ne_enum he p.isList
    refine wpAny_pyNext_enum_itemC (Draws.list (A := X.A.in1) (I.ok.hd hc) it a hae its.toArray) he ⟨hit, p.isList⟩ hx2 hne (by simp [hne, hea]) fun u' h' tk hu' ho hit' hT hsz hk => ?_
    have eu : u' = u := by
      have := hu'.symm.trans hu0
      exact Option.some.inj this
    subst eu
    refine ⟨_, rfl, wpAny_letOwnedTupleGo_enum (s := { s with heap := h', toks := tk + 1 }) ho fun h'' he' sb => ?_⟩
    have hT2 : h''.get? s.heap.objs.size = some { cls := .type "tuple", data := .seq #[.int ((i : Nat) + 1) tk, u'] } := (sb.2 _ (Nat.ne_of_gt hel)).trans hT
    have new : ObjOk X.prog X.w (upd H s.heap.objs.size (.tup [.int ((i : Nat) + 1), x])) h'' s.heap.objs.size (.tup [.int ((i : Nat) + 1), x]) :=
      ⟨by show 2 ≤ sizeLine; decide, [.int ((i : Nat) + 1) tk, u'], .cons ⟨_, rfl⟩ (.cons ru .nil), ⟨_, hT2, rfl, _, rfl⟩⟩
    have I1 : Inv X pins σ (upd H s.heap.objs.size (.tup [.int ((i : Nat) + 1), x])) { s with heap := h'', toks := tk + 1 } :=
      I.turnedNew (ch := [e, it]) (fun b ob hb q => (sb.2 b (fun z => hb (by simp [z]))).trans (hk b ob (fun z => hb (by simp [z])) (fun z => hb (by simp [z])) q)) hf (Nat.le_refl _) new
    refine ⟨.ref s.heap.objs.size, _, I1, rfl, ⟨_, x, rfl, I.hok.fresh (Nat.le_refl _), rfl, fun ys hy => by rw [I.list_inj hy hq]; exact hx⟩, ⟨⟨u', ?_⟩, hit'.1.at fun o q => (sb.2 it (Ne.symm hne)).trans q, hne⟩, fun b hb => ?_⟩
    · have e1 : ((i + 1 : Nat) : Int) + 1 = (i : Int) + 1 + 1 := by omega
      rw [e1]; exact he'
    · have hb' : b < s.heap.objs.size := by
        have e' : b = e ∨ b = it := by simpa using hb
        rcases e' with z | z
        · rw [z]; exact hel
        · rw [z]; exact hil
      rw [upd_ne (Nat.ne_of_lt hb')]
      exact (hf b hb).1
  done := by
    intro X hP hw hK hc i pins s σ H E I hf st hg
    subst hP hw hK
    obtain ⟨⟨old, he⟩, hit, hne⟩ := st
    obtain ⟨xs, hq, hx⟩ := hg
    obtain ⟨its, rv, p, hz⟩ := I.list hq
    obtain ⟨f0, f1, f2, f3, f4, f5⟩ := hf it (by simp)
    have hl := rv.length
    have hae : a ≠ it := ne_iter hit p.isList
    refine wpAny_pyNext_enum_endD (Draws.list (A := X.A.in1) (I.ok.hd hc) it a hae its.toArray) he ⟨?_, p.isList⟩ fun h' eb => ⟨rfl, I.turned (t' := s.toks) (fun b o hb q => eb b o hb q) f0 f1 f3 f4 f5⟩
    have e : its.toArray.size = i := by simp; omega
    rw [e]
    exact hit
  self := fun A i s Q E st h => let ⟨⟨_, he⟩, _⟩ := st; wpAny_pyIter_enum he h
def iEnum1 (K : PySem.W.Frag) (ta : TA) : TI := fun σ H R => ta σ H fun vs H1 => ∃ a xs, vs = [.ref a] ∧ SqL K H1 a xs ∧ R (Ite1 K a) H1
theorem pi_enum1 {X : Cx} {e : Expr} {ta : TA} {p pos tpos kp kpos : Pos} {elts : List Expr} {kk kc : Nat} (hg : Gl X "enumerate") (hm : X.mg "enumerate" = none) (ha : PA X [e] ta) (hs : starEach [e] X.env = [(false, eval e X.env)] := by rfl)
    (hall : (backToKw pos (keywordEach [⟨some "start", .Constant (.int 1) kc kp, kpos⟩] X.env)).all (·.1.isSome) = true := by rfl)
    (hkw : (backToKw pos (keywordEach [⟨some "start", .Constant (.int 1) kc kp, kpos⟩] X.env)).any (·.1.isNone) = false := by rfl) :
    PI X (.Tuple elts kk tpos) (.Call (.Name "enumerate" p) [e] [⟨some "start", .Constant (.int 1) kc kp, kpos⟩] pos) (iEnum1 X.K ta) := by
  refine ⟨fun pins s σ H R I h => ?_⟩
  refine wpAny_Call_Name_kw (ld_blt I hg hm boot_enumerate ?_)
  have hpl : ((backTo pos (starEach [e] X.env)).any (·.1) || (backToKw pos (keywordEach [⟨some "start", .Constant (.int 1) kc kp, kpos⟩] X.env)).any (·.1.isNone)) = false := by
    rw [hkw, hs]
    rfl
  refine PySem.W.callWith_of (P := fun _ => True) hpl (fun h _ => ⟨.machine, .inr (.inl rfl), PySem.W.Looks.of_pure rfl⟩) (evalArgs_kw2 hall (thn (ha.run pos pins s σ H _ I h) fun us s1 ⟨vs, H1, I1, r1, q1⟩ => ?_) hs)
  obtain ⟨a, xs, ex, hq, q⟩ := q1
  subst ex
  cases r1 with
  | cons r rr =>
    cases rr
    cases r
    show wpAny _ _ (evalAll [do let v ← eval (.Constant (.int 1) kc kp) X.env; standAt pos; pure v]) _ _ s1
    refine wpAny_evalAll_cons (wpAny_bind ?_)
    obtain ⟨its, rv, p', hz⟩ := I1.list hq
    refine wpAny_Constant_int ?_
    refine wpAny_bind (wpAny_standAt (wpAny_pure (wpAny_evalAll_nil ?_)))
    refine ⟨trivial, ?_⟩
    refine enum_begins_start (begins_list a its.toArray) p'.isList (by decide) (by decide) fun h' he hit hsz hk => wpAny_pyIter_enum he ?_
    have I2 : Inv X pins σ H1 { s1 with heap := h', toks := s1.toks + 1 } := I1.kept (t' := s1.toks + 1) hk
    refine ⟨s1.heap.objs.size + 1, [s1.heap.objs.size + 1, s1.heap.objs.size], _, _, H1, rfl, I2, turn_enum1 a (s1.heap.objs.size + 1) s1.heap.objs.size, ⟨⟨.none, ?_⟩, ⟨_, hit, rfl, rfl⟩, Nat.succ_ne_self _⟩, fun b hb => ?_, q⟩
    · exact he
    have e' : b = s1.heap.objs.size + 1 ∨ b = s1.heap.objs.size := by simpa using hb
    have hle : s1.heap.objs.size ≤ b := by
      rcases e' with z | z
      · rw [z]; exact Nat.le_add_right _ _
      · rw [z]; exact Nat.le_refl _
    exact I1.fpOk hle (I1.hok.fresh hle)
/-- enumerate(xs, start=1), turn by turn -/
theorem walk_enum1 {K : PySem.W.Frag} {a : Addr} {xs : List V} : Walk (Ite1 K a) xs.length (fun H => SqL K H a xs) (YPair (fun i => some (.int ((i : Nat) + 1))) (fun i => xs[i]?)) := by
  refine ⟨fun i _ hi q => ⟨xs, xs[i], q, by simp [hi]⟩, fun _ q => ⟨xs, q, rfl⟩, fun i H v H' _ q y => ?_⟩
  obtain ⟨T, x, h1, h2, h3, h4⟩ := y
  exact ⟨T, .int ((i : Nat) + 1), x, h1, h2, h3, rfl, h4 xs q⟩

open PySem PySem.Spec PyProof.Rows L2
abbrev S (l : List Nat) : Str := ⟨l.toArray⟩
theorem S_sg (x : Str) : S (sg x) = x := TL.mk_tl x
theorem sg_S (l : List Nat) : sg (S l) = l := rfl
/-! the text of a book: lines of entries -/
abbrev Ent := Str × Nat × Nat
def entD (e : Ent) : PyData := .tuple [.str e.1, .int (e.2.1 : Int), .int (e.2.2 : Int)]
def askedS : Str := "asked"
def doneS : Str := "done"
def digB (c : Nat) : Bool := decide (48 ≤ c) && decide (c ≤ 57)
def numBL (b : List Nat) : Bool := (decide (1 ≤ b.length) && (decide (b.length ≤ 5) && b.all digB)) && (decide (b = [48]) || !decide (b.head? = some 48))
def lastM (es : List Ent) : Nat := match es.getLast? with | none => 0 | some e => e.2.2
def lastK (es : List Ent) : Nat := match es.getLast? with | none => 0 | some e => e.2.1
def isEntV (es : List Ent) (e : Ent) : Bool :=
  if es.length % 2 = 0 then decide (e.1 = askedS) && (decide (lastM es < e.2.2) && decide (e.2.1 = es.length / 2 + 1))
  else decide (e.1 = doneS) && (decide (lastM es ≤ e.2.2) && decide (e.2.1 = lastK es))
def entL : List (List Nat) → Option Ent
  | [a, b, c] => if numBL b && numBL c then some (S a, NumText.digitsVal b, NumText.digitsVal c) else none
  | _ => none
def isEntL (es : List Ent) (ps : List (List Nat)) : Bool := match entL ps with | some e => isEntV es e | none => false
def wordsL (l : List Nat) : List (List Nat) := TL.spl [32] 0 [] l
def rdL : List (List Nat) → List Ent → Nat → Except Nat (List Ent)
  | [], es, _ => .ok es
  | l :: ls, es, k => match entL (wordsL l) with
    | some e => if isEntV es e = true then rdL ls (es ++ [e]) (k + 1) else .error k
    | none => .error k
def linesL (z : List Nat) : List (List Nat) := (TL.spl [10] 0 [] z).dropLast
def lineP (e : Ent) : List (List Nat) := [sg e.1, TL.numL e.2.1, TL.numL e.2.2]
def lineL (e : Ent) : List Nat := TL.joinL [32] (lineP e)
def nls (ls : List (List Nat)) : List Nat := (ls.map (· ++ [10])).flatten
theorem nls_cons (l : List Nat) (r : List (List Nat)) : nls (l :: r) = l ++ (10 :: nls r) := by
  unfold nls
  simp
theorem nls_app (a b : List (List Nat)) : nls (a ++ b) = nls a ++ nls b := by
  unfold nls
  simp
theorem spl_nls : ∀ (ls : List (List Nat)) (t : List Nat), (∀ l ∈ ls, 10 ∉ l) → 10 ∉ t → TL.spl [10] 0 [] (nls ls ++ t) = ls ++ [t]
  | [], t, _, ht => by
    have := TL.spl_last1 (s := 10) (S := []) (acc := []) ht
    exact this
  | l :: r, t, h, ht => by
    have h1 := TL.spl_part1 (s := 10) (S := []) (acc := []) (rest := nls r ++ t) (h l List.mem_cons_self)
    rw [nls_cons]
    have e : l ++ 10 :: nls r ++ t = l ++ ([10] ++ (nls r ++ t)) := by simp
    rw [e]
    refine h1.trans ?_
    rw [spl_nls r t (fun x hx => h x (List.mem_cons_of_mem _ hx)) ht]
    rfl
theorem lines_nls {ls : List (List Nat)} {t : List Nat} (h : ∀ l ∈ ls, 10 ∉ l) (ht : 10 ∉ t) : linesL (nls ls ++ t) = ls := by
  unfold linesL
  rw [spl_nls ls t h ht, List.dropLast_concat]
theorem take_nls : ∀ (ls : List (List Nat)) (m : Nat), (∀ l ∈ ls, 10 ∉ l) → ∃ w t, w ≤ ls.length ∧ 10 ∉ t ∧ (nls ls).take m = nls (ls.take w) ++ t
  | [], m, _ => ⟨0, [], Nat.le_refl _, by simp, by unfold nls; simp⟩
  | l :: r, m, h => by
    by_cases hm : m ≤ l.length
    · refine ⟨0, l.take m, Nat.zero_le _, fun hx => h l List.mem_cons_self (List.mem_of_mem_take hx), ?_⟩
      rw [nls_cons, List.take_append_of_le_length hm]
      rfl
    · obtain ⟨w, t, h1, h2, h3⟩ := take_nls r (m - (l.length + 1)) fun x hx => h x (List.mem_cons_of_mem _ hx)
      refine ⟨w + 1, t, by simpa using h1, h2, ?_⟩
      obtain ⟨d, rfl⟩ : ∃ d, m = l.length + (d + 1) := ⟨m - l.length - 1, by omega⟩
      have ed : l.length + (d + 1) - (l.length + 1) = d := by omega
      rw [ed] at h3
      rw [nls_cons, List.take_length_add_append, List.take_succ_cons, h3, List.take_succ_cons, nls_cons]
      simp
/-! numbers -/
theorem num_dig (n : Nat) : (TL.numL n).all digB = true := by
  have h := TL.numL_digits n
  rw [List.all_eq_true]
  intro c hc
  have := h c hc
  unfold digB
  rw [Bool.and_eq_true, decide_eq_true_eq, decide_eq_true_eq]
  exact this
theorem num_head : ∀ (n : Nat), 0 < n → (TL.numL n).head? ≠ some 48
  | n, h => by
    by_cases h1 : n < 10
    · rw [TL.numL_lt h1]
      intro e
      have e := Option.some.inj e
      omega
    · rw [TL.numL_step (by omega)]
      have ih := num_head (n / 10) (by omega)
      have hne := TL.numL_ne (n / 10)
      cases hl : TL.numL (n / 10) with
      | nil => exact absurd hl hne
      | cons a r =>
        rw [hl] at ih
        exact ih
theorem num_ok {n : Nat} (h : n < 100000) : numBL (TL.numL n) = true := by
  unfold numBL
  have h1 : 1 ≤ (TL.numL n).length := by
    have := TL.numL_ne n
    have := List.length_pos_iff.mpr this
    omega
  have h2 : (TL.numL n).length ≤ 5 := TL.numL_len (by decide) (by simpa using h)
  rw [decide_eq_true h1, decide_eq_true h2, num_dig]
  by_cases h0 : n = 0
  · subst h0
    rfl
  · rw [decide_eq_false (num_head n (by omega))]
    simp
theorem num_free {n s : Nat} (h : s < 48 ∨ 57 < s) : s ∉ TL.numL n := TL.numL_free h
/-! an entry's line -/
def freeP (ps : List (List Nat)) : Prop := ∀ p ∈ ps, 32 ∉ p ∧ 10 ∉ p
theorem words_join {ps : List (List Nat)} (hne : ps ≠ []) (h : freeP ps) : wordsL (TL.joinL [32] ps) = ps := TL.spl_join hne fun p hp => (h p hp).1
theorem join_free : ∀ {ps : List (List Nat)}, freeP ps → 10 ∉ TL.joinL [32] ps
  | [], _ => by simp [TL.joinL]
  | [p], h => (h p List.mem_cons_self).2
  | p :: q :: r, h => by
    show 10 ∉ p ++ ([32] ++ TL.joinL [32] (q :: r))
    have ih := join_free (ps := q :: r) fun x hx => h x (List.mem_cons_of_mem _ hx)
    intro hx
    rcases List.mem_append.mp hx with hx | hx
    · exact (h p List.mem_cons_self).2 hx
    · rcases List.mem_append.mp hx with hx | hx
      · simp at hx
      · exact ih hx
def EntOk (e : Ent) : Prop := (e.1 = askedS ∨ e.1 = doneS) ∧ e.2.1 < 100000 ∧ e.2.2 < 100000
theorem word_free {a : Str} (h : a = askedS ∨ a = doneS) : 32 ∉ sg a ∧ 10 ∉ sg a := by
  rcases h with rfl | rfl <;> decide +kernel
theorem line_free {e : Ent} (h : EntOk e) : freeP (lineP e) := fun p hp => by
  rcases List.mem_cons.mp hp with rfl | hp
  · exact word_free h.1
  rcases List.mem_cons.mp hp with rfl | hp
  · exact ⟨num_free (.inl (by decide)), num_free (.inl (by decide))⟩
  rw [List.mem_singleton.mp hp]
  exact ⟨num_free (.inl (by decide)), num_free (.inl (by decide))⟩
theorem line_words {e : Ent} (h : EntOk e) : entL (wordsL (lineL e)) = some e := by
  unfold lineL
  rw [words_join (by unfold lineP; simp) (line_free h)]
  show (if (numBL (TL.numL e.2.1) && numBL (TL.numL e.2.2)) = true then some (S (sg e.1), NumText.digitsVal (TL.numL e.2.1), NumText.digitsVal (TL.numL e.2.2)) else none) = some e
  rw [num_ok h.2.1, num_ok h.2.2, if_pos (show (true && true) = true from rfl)]
  rw [TL.numL_val, TL.numL_val, S_sg]
/-- a history that a book may hold -/
def Good (es : List Ent) : Prop := ∀ i e, es[i]? = some e → EntOk e ∧ isEntV (es.take i) e = true
theorem Good.take {es : List Ent} (h : Good es) (n : Nat) : Good (es.take n) := fun i e hi => by
  have hl : i < (es.take n).length := (List.getElem?_eq_some_iff.mp hi).1
  rw [List.length_take] at hl
  rw [List.getElem?_take_of_lt (by omega)] at hi
  have := h i e hi
  rw [List.take_take, Nat.min_eq_left (by omega)]
  exact this
theorem rdL_good {es : List Ent} (h : Good es) (rest : List (List Nat)) : ∀ (n : Nat), n ≤ es.length → ∀ k, rdL ((es.drop (es.length - n)).map lineL ++ rest) (es.take (es.length - n)) k = rdL rest es (k + n)
  | 0, _, k => by
    rw [Nat.sub_zero, List.drop_length, List.take_length]
    rfl
  | n + 1, hn, k => by
    have hi : es.length - (n + 1) < es.length := by omega
    have e1 : es.length - (n + 1) + 1 = es.length - n := by omega
    have hd := List.drop_eq_getElem_cons hi
    obtain ⟨g1, g2⟩ := h _ _ (List.getElem?_eq_getElem hi)
    rw [hd]
    show (match entL (wordsL (lineL es[es.length - (n + 1)])) with
      | some e => if isEntV (es.take (es.length - (n + 1))) e = true then rdL ((es.drop (es.length - (n + 1) + 1)).map lineL ++ rest) (es.take (es.length - (n + 1)) ++ [e]) (k + 1) else .error k
      | none => .error k) = _
    rw [line_words g1]
    show (if isEntV (es.take (es.length - (n + 1))) es[es.length - (n + 1)] = true then _ else _) = _
    rw [if_pos g2, List.take_append_getElem hi, e1, rdL_good h rest n (by omega) (k + 1)]
    congr 1
    omega
theorem rdL_all {es : List Ent} (h : Good es) (rest : List (List Nat)) : rdL (es.map lineL ++ rest) [] 1 = rdL rest es (es.length + 1) := by
  have := rdL_good h rest es.length (Nat.le_refl _) 1
  rw [Nat.sub_self] at this
  rw [Nat.add_comm]
  exact this
theorem rdL_one {es : List Ent} (h : Good es) : rdL (es.map lineL) [] 1 = .ok es := by
  have := rdL_all h []
  rw [List.append_nil] at this
  exact this
theorem Good.free {es : List Ent} (h : Good es) : ∀ l ∈ es.map lineL, 10 ∉ l := fun l hl => by
  obtain ⟨e, he, rfl⟩ := List.mem_map.mp hl
  obtain ⟨i, hi⟩ := List.getElem?_of_mem he
  exact join_free (line_free (h i e hi).1)
/-! lines that are no entry -/
theorem last_take {es : List Ent} {j : Nat} {e : Ent} (h : es[j]? = some e) : (es.take (j + 1)).getLast? = some e := by
  have hj := (List.getElem?_eq_some_iff.mp h).1
  rw [List.getLast?_eq_getElem?, List.length_take, Nat.min_eq_left (by omega), Nat.add_sub_cancel, List.getElem?_take_of_lt (by omega)]
  exact h
theorem lastM_take {es : List Ent} {j : Nat} {e : Ent} (h : es[j]? = some e) : lastM (es.take (j + 1)) = e.2.2 := by
  unfold lastM
  rw [last_take h]
theorem lastK_take {es : List Ent} {j : Nat} {e : Ent} (h : es[j]? = some e) : lastK (es.take (j + 1)) = e.2.1 := by
  unfold lastK
  rw [last_take h]
theorem entV_even {es : List Ent} {e : Ent} (h : es.length % 2 = 0) : isEntV es e = true ↔ e.1 = askedS ∧ lastM es < e.2.2 ∧ e.2.1 = es.length / 2 + 1 := by
  unfold isEntV
  rw [if_pos h, Bool.and_eq_true, Bool.and_eq_true, decide_eq_true_eq, decide_eq_true_eq, decide_eq_true_eq]
theorem entV_odd {es : List Ent} {e : Ent} (h : ¬ es.length % 2 = 0) : isEntV es e = true ↔ e.1 = doneS ∧ lastM es ≤ e.2.2 ∧ e.2.1 = lastK es := by
  unfold isEntV
  rw [if_neg h, Bool.and_eq_true, Bool.and_eq_true, decide_eq_true_eq, decide_eq_true_eq, decide_eq_true_eq]
theorem take_len {es : List Ent} {i : Nat} {e : Ent} (h : es[i]? = some e) : (es.take i).length = i := by
  have := (List.getElem?_eq_some_iff.mp h).1
  rw [List.length_take]
  omega
theorem good_pos {es : List Ent} (h : Good es) : ∀ (i : Nat) (e : Ent), es[i]? = some e → 1 ≤ e.2.1 ∧ 1 ≤ e.2.2 := by
  have even : ∀ (i : Nat) (e : Ent), i % 2 = 0 → es[i]? = some e → 1 ≤ e.2.1 ∧ 1 ≤ e.2.2 := fun i e hi he => by
    obtain ⟨_, g⟩ := h i e he
    rw [entV_even (by rw [take_len he]; exact hi)] at g
    omega
  intro i e he
  by_cases hi : i % 2 = 0
  · exact even i e hi he
  · obtain ⟨_, g⟩ := h i e he
    rw [entV_odd (by rw [take_len he]; exact hi)] at g
    obtain ⟨j, rfl⟩ : ∃ j, i = j + 1 := ⟨i - 1, by omega⟩
    have hj := (List.getElem?_eq_some_iff.mp he).1
    have hp : es[j]? = some es[j] := List.getElem?_eq_getElem (by omega)
    have g2 := even j _ (by omega) hp
    rw [lastM_take hp, lastK_take hp] at g
    omega
def otherS (a : Str) : Str := if a = askedS then doneS else askedS
def earlyN (pre : List Ent) (a : Str) : Nat := if a = doneS then lastM pre - 1 else lastM pre
def badP (pre : List Ent) (e : Ent) : List (List (List Nat)) :=
  let a := sg e.1
  let k := TL.numL e.2.1
  let m := TL.numL e.2.2
  [[sg (otherS e.1), k, m], [a, TL.numL (e.2.1 + 1), m], [a, k], [a, k, m, []], [[]], [a, 48 :: k, m], [a, [], k, m], [a, k, m ++ [120]], [a, k, 48 :: m],
   [a, k, TL.numL (earlyN pre e.1)], [a, TL.numL (e.2.1 - 1), m], [a, k, TL.numL 100000], [(sg e.1).map PyProof.Rows.up1]]
theorem num_zero {l : List Nat} (h : l ≠ []) : numBL (48 :: l) = false := by
  unfold numBL
  have e : (48 :: l = [48]) = False := by simpa using h
  rw [show decide (48 :: l = [48]) = false from decide_eq_false (by simpa using h), show decide ((48 :: l).head? = some 48) = true from decide_eq_true rfl]
  simp
theorem num_x (l : List Nat) : numBL (l ++ [120]) = false := by
  unfold numBL
  rw [List.all_append, show [120].all digB = false from by decide, Bool.and_false, Bool.and_false, Bool.and_false, Bool.false_and]
theorem entL3 {a b c : List Nat} (h : (numBL b && numBL c) = false) (pre : List Ent) : isEntL pre [a, b, c] = false := by
  unfold isEntL
  show (match (if (numBL b && numBL c) = true then some (S a, NumText.digitsVal b, NumText.digitsVal c) else none) with | some e => isEntV pre e | none => false) = false
  rw [h]
  rfl
theorem entL3t {a : Str} {k m : Nat} (hk : k < 100000) (hm : m < 100000) {pre : List Ent} (h : isEntV pre (a, k, m) = false) : isEntL pre [sg a, TL.numL k, TL.numL m] = false := by
  unfold isEntL
  show (match (if (numBL (TL.numL k) && numBL (TL.numL m)) = true then some (S (sg a), NumText.digitsVal (TL.numL k), NumText.digitsVal (TL.numL m)) else none) with | some e => isEntV pre e | none => false) = false
  rw [num_ok hk, num_ok hm, TL.numL_val, TL.numL_val, S_sg]
  exact h
theorem bad_not {es : List Ent} (h : Good es) {i : Nat} {e : Ent} (he : es[i]? = some e) : ∀ ps ∈ badP (es.take i) e, isEntL (es.take i) ps = false := by
  obtain ⟨⟨hw, hk, hm⟩, g⟩ := h i e he
  obtain ⟨p1, p2⟩ := good_pos h i e he
  have hlen := take_len he
  have key : (i % 2 = 0 ∧ e.1 = askedS ∧ lastM (es.take i) < e.2.2 ∧ e.2.1 = i / 2 + 1) ∨ (¬ i % 2 = 0 ∧ e.1 = doneS ∧ lastM (es.take i) ≤ e.2.2 ∧ e.2.1 = lastK (es.take i) ∧ 1 ≤ lastM (es.take i)) := by
    by_cases hi : i % 2 = 0
    · rw [entV_even (by rw [hlen]; exact hi), hlen] at g
      exact .inl ⟨hi, g⟩
    · rw [entV_odd (by rw [hlen]; exact hi)] at g
      refine .inr ⟨hi, g.1, g.2.1, g.2.2, ?_⟩
      obtain ⟨j, rfl⟩ : ∃ j, i = j + 1 := ⟨i - 1, by omega⟩
      have hj := (List.getElem?_eq_some_iff.mp he).1
      have hp : es[j]? = some es[j] := List.getElem?_eq_getElem (by omega)
      rw [lastM_take hp]
      exact (good_pos h j _ hp).2
  have had : ¬ askedS = doneS := by decide
  have hda : ¬ doneS = askedS := by decide
  have no : ∀ {a : Str} {k m : Nat}, (i % 2 = 0 → ¬ (a = askedS ∧ lastM (es.take i) < m ∧ k = i / 2 + 1)) → (¬ i % 2 = 0 → ¬ (a = doneS ∧ lastM (es.take i) ≤ m ∧ k = lastK (es.take i))) → isEntV (es.take i) (a, k, m) = false := by
    intro a k m h1 h2
    cases hv : isEntV (es.take i) (a, k, m) with
    | false => rfl
    | true =>
      by_cases hi : i % 2 = 0
      · rw [entV_even (by rw [hlen]; exact hi), hlen] at hv
        exact absurd hv (h1 hi)
      · rw [entV_odd (by rw [hlen]; exact hi)] at hv
        exact absurd hv (h2 hi)
  intro ps hps
  unfold badP at hps
  rcases List.mem_cons.mp hps with rfl | hps
  · refine entL3t hk hm (no (fun hi => ?_) (fun hi => ?_))
    · rcases key with ⟨_, ka, _⟩ | ⟨kn, _⟩
      · rw [ka]
        unfold otherS
        rw [if_pos rfl]
        exact fun x => hda x.1
      · exact absurd hi kn
    · rcases key with ⟨kn, _⟩ | ⟨_, ka, _⟩
      · exact absurd kn hi
      · rw [ka]
        unfold otherS
        rw [if_neg hda]
        exact fun x => had x.1
  rcases List.mem_cons.mp hps with rfl | hps
  · by_cases hk2 : e.2.1 + 1 < 100000
    · refine entL3t hk2 hm (no (fun hi => ?_) (fun hi => ?_))
      · rcases key with ⟨_, _, _, kk⟩ | ⟨kn, _⟩
        · omega
        · exact absurd hi kn
      · rcases key with ⟨kn, _⟩ | ⟨_, _, _, kk, _⟩
        · exact absurd kn hi
        · omega
    · have e1 : e.2.1 + 1 = 100000 := by omega
      rw [e1]
      exact entL3 (by rw [show numBL (TL.numL 100000) = false from by decide +kernel]; rfl) _
  rcases List.mem_cons.mp hps with rfl | hps
  · rfl
  rcases List.mem_cons.mp hps with rfl | hps
  · rfl
  rcases List.mem_cons.mp hps with rfl | hps
  · rfl
  rcases List.mem_cons.mp hps with rfl | hps
  · exact entL3 (by rw [num_zero (TL.numL_ne _)]; rfl) _
  rcases List.mem_cons.mp hps with rfl | hps
  · rfl
  rcases List.mem_cons.mp hps with rfl | hps
  · exact entL3 (by rw [num_x, Bool.and_false]) _
  rcases List.mem_cons.mp hps with rfl | hps
  · exact entL3 (by rw [num_zero (TL.numL_ne _), Bool.and_false]) _
  rcases List.mem_cons.mp hps with rfl | hps
  · refine entL3t hk (by unfold earlyN; split <;> omega) (no (fun hi => ?_) (fun hi => ?_))
    · rcases key with ⟨_, ka, _⟩ | ⟨kn, _⟩
      · rw [ka]
        unfold earlyN
        rw [if_neg had]
        omega
      · exact absurd hi kn
    · rcases key with ⟨kn, _⟩ | ⟨_, ka, _, _, kp⟩
      · exact absurd kn hi
      · rw [ka]
        unfold earlyN
        rw [if_pos rfl]
        omega
  rcases List.mem_cons.mp hps with rfl | hps
  · refine entL3t (by omega) hm (no (fun hi => ?_) (fun hi => ?_))
    · rcases key with ⟨_, _, _, kk⟩ | ⟨kn, _⟩
      · omega
      · exact absurd hi kn
    · rcases key with ⟨kn, _⟩ | ⟨_, _, _, kk, _⟩
      · exact absurd kn hi
      · omega
  rcases List.mem_cons.mp hps with rfl | hps
  · exact entL3 (by rw [show numBL (TL.numL 100000) = false from by decide +kernel, Bool.and_false]) _
  rw [List.mem_singleton.mp hps]
  rfl
theorem bad_free {es : List Ent} (h : Good es) {i : Nat} {e : Ent} (he : es[i]? = some e) : ∀ ps ∈ badP (es.take i) e, freeP ps ∧ ps ≠ [] := by
  obtain ⟨⟨hw, hk, hm⟩, g⟩ := h i e he
  have fn : ∀ n, 32 ∉ TL.numL n ∧ 10 ∉ TL.numL n := fun n => ⟨num_free (.inl (by decide)), num_free (.inl (by decide))⟩
  have fw := word_free hw
  have fo : 32 ∉ sg (otherS e.1) ∧ 10 ∉ sg (otherS e.1) := word_free (by unfold otherS; split <;> simp)
  have f0 : 32 ∉ ([] : List Nat) ∧ 10 ∉ ([] : List Nat) := by simp
  have fz : ∀ n, 32 ∉ 48 :: TL.numL n ∧ 10 ∉ 48 :: TL.numL n := fun n => by
    have := fn n
    simp [this.1, this.2]
  have fx : 32 ∉ TL.numL e.2.2 ++ [120] ∧ 10 ∉ TL.numL e.2.2 ++ [120] := by
    have := fn e.2.2
    simp [this.1, this.2]
  have fu : 32 ∉ (sg e.1).map PyProof.Rows.up1 ∧ 10 ∉ (sg e.1).map PyProof.Rows.up1 := by
    rcases hw with h | h <;> rw [h] <;> decide +kernel
  intro ps hps
  unfold badP at hps
  simp only [List.mem_cons, List.not_mem_nil, or_false] at hps
  rcases hps with rfl | rfl | rfl | rfl | rfl | rfl | rfl | rfl | rfl | rfl | rfl | rfl | rfl <;> refine ⟨?_, by simp⟩ <;> intro p hp <;> simp only [List.mem_cons, List.not_mem_nil, or_false] at hp
  · rcases hp with rfl | rfl | rfl
    · exact fo
    · exact fn _
    · exact fn _
  · rcases hp with rfl | rfl | rfl
    · exact fw
    · exact fn _
    · exact fn _
  · rcases hp with rfl | rfl
    · exact fw
    · exact fn _
  · rcases hp with rfl | rfl | rfl | rfl
    · exact fw
    · exact fn _
    · exact fn _
    · exact f0
  · rw [hp]
    exact f0
  · rcases hp with rfl | rfl | rfl
    · exact fw
    · exact fz _
    · exact fn _
  · rcases hp with rfl | rfl | rfl | rfl
    · exact fw
    · exact f0
    · exact fn _
    · exact fn _
  · rcases hp with rfl | rfl | rfl
    · exact fw
    · exact fn _
    · exact fx
  · rcases hp with rfl | rfl | rfl
    · exact fw
    · exact fn _
    · exact fz _
  · rcases hp with rfl | rfl | rfl
    · exact fw
    · exact fn _
    · exact fn _
  · rcases hp with rfl | rfl | rfl
    · exact fw
    · exact fn _
    · exact fn _
  · rcases hp with rfl | rfl | rfl
    · exact fw
    · exact fn _
    · exact fn _
  · rw [hp]
    exact fu
open PySem PySem.Spec PyProof.Rows L2
section
variable (T : List (Addr × Str)) (K : PySem.W.Frag)
def spEntLine : Sp := fun vs H Q _ => ∃ (v : V) (e : Ent), vs = [v] ∧ Im H v (entD e) ∧ EntOk e ∧ Q (.str (S (lineL e ++ [10]))) H
def spIsEnt : Sp := fun vs H Q _ => ∃ (a b : Addr) (es : List Ent) (ws : List (List Nat)), vs = [.ref a, .ref b] ∧ Ls H a (es.map entD) ∧ H b = some (.lst ((ws.map S).map V.str)) ∧ es.length ≤ 1000 ∧ ws.length ≤ 1001 ∧ (∀ x ∈ ws, x.length ≤ 1000) ∧
  ∀ H', Ext T [] H H' → Q (.bl (isEntL es ws)) H'
def lineS : Str := "line"
def spRead (C : Addr) : Sp := fun vs H Q E => ∃ z : Str, vs = [.str z] ∧ z.length ≤ 1000 ∧
  (∀ es, rdL (linesL (sg z)) [] 1 = .ok es → ∀ p H', Nw H p → Ext T [] H H' → Ls H' p (es.map entD) → Q (.ref p) H') ∧
  (∀ k, rdL (linesL (sg z)) [] 1 = .error k → ∀ d H', Ext T [] H H' → H' d = none → E (.ref C) (some d) (upd H' d (.xd [(lineS, .int (k : Int))])))
end
theorem Im.ent' {H : Hp} {v : V} {e : Ent} (h : Im H v (entD e)) : ∃ a, v = .ref a ∧ SqP H a [.str e.1, .int (e.2.1 : Int), .int (e.2.2 : Int)] := by
  obtain ⟨a, xs, rfl, h1, h2⟩ := h.tup'
  cases h2 with
  | cons a1 h2 =>
    cases h2 with
    | cons a2 h2 =>
      cases h2 with
      | cons a3 h2 =>
        cases h2
        cases a1
        cases a2
        cases a3
        exact ⟨a, rfl, h1⟩
theorem app_len2 (a b : Str) : (a ++ b).length = a.length + b.length := by rw [← sg_len, sg_app, List.length_append, sg_len, sg_len]
theorem num_len {n : Nat} (h : n < 100000) : (Str.ofString (toString ((n : Nat) : Int))).length ≤ 5 := by
  rw [← sg_len]
  show (TL.tl _).length ≤ 5
  rw [TL.tl_num]
  exact TL.numL_len (by decide) (by simpa using h)
theorem word_len {a : Str} (h : a = askedS ∨ a = doneS) : a.length ≤ 5 := by
  rcases h with rfl | rfl <;> decide +kernel
theorem sg_num (n : Nat) : sg (Str.ofString (toString ((n : Nat) : Int))) = TL.numL n := TL.tl_num n
theorem sg_sp : sg (Str.ofString " ") = [32] := by decide +kernel
theorem sg_nl : sg (Str.ofString "\n") = [10] := by decide +kernel
theorem sg_em : sg Str.empty = [] := rfl
open PySem PySem.Spec PyProof.Rows L2
/-! texts made of parts -/
theorem fs_s {y : Str} {C : Prop} {P : Str → Prop} (h : y.length ≤ sizeLine) (q : P y) : (∃ z : Str, V.str y = .str z ∧ z.length ≤ sizeLine ∧ P z) ∨ C := .inl ⟨y, rfl, h, q⟩
theorem fs_i {n : Nat} {C : Prop} {P : Int → Prop} (h : n < 2 ^ 64) (q : P (n : Int)) : C ∨ ∃ i : Int, V.int (n : Int) = .int i ∧ i.natAbs.log2 < 1920 ∧ P i := .inr ⟨_, rfl, by
  show n.log2 < 1920
  by_cases h0 : n = 0
  · subst h0; decide
  · exact Nat.lt_of_lt_of_le ((Nat.log2_lt h0).mpr h) (by decide), q⟩
theorem fs_y {y : Str} {P : Str → Prop} (q : P y) : ∃ z : Str, V.str y = .str z ∧ P z := ⟨y, rfl, q⟩
theorem sp_len : (Str.ofString " ").length = 1 := by decide +kernel
theorem nl_len : (Str.ofString "\n").length = 1 := by decide +kernel
theorem em_len : Str.empty.length = 0 := by decide +kernel
open PySem PySem.Spec PyProof.Rows L2
theorem rd_iteN {p A B : Prop} [Decidable p] (h1 : ¬ p → A) (h2 : p → B) : if (!decide p) = true then A else B := by
  by_cases h : p
  · rw [decide_eq_true h, if_neg (by decide)]
    exact h2 h
  · rw [decide_eq_false h, if_pos (by decide)]
    exact h1 h
theorem lastM_of {es : List Ent} {e : Ent} (h : es.getLast? = some e) : lastM es = e.2.2 := by
  unfold lastM
  rw [h]
theorem lastK_of {es : List Ent} {e : Ent} (h : es.getLast? = some e) : lastK es = e.2.1 := by
  unfold lastK
  rw [h]
theorem ent_last {H : Hp} {xs : List V} {es : List Ent} (h : ImAll H xs (es.map entD)) (hne : es ≠ []) : ∃ e a, es.getLast? = some e ∧ atI xs (-1) = some (.ref a) ∧ SqP H a [.str e.1, .int (e.2.1 : Int), .int (e.2.2 : Int)] := by
  have hl : es.length - 1 < es.length := by have := List.length_pos_iff.mpr hne; omega
  have e1 : (es.map entD)[es.length - 1]? = some (entD es[es.length - 1]) := by rw [List.getElem?_map, List.getElem?_eq_getElem hl]; rfl
  obtain ⟨u, h1, h2⟩ := h.get e1
  obtain ⟨a, rfl, h3⟩ := h2.ent'
  refine ⟨_, a, ?_, at_last ?_, h3⟩
  · rw [List.getLast?_eq_getElem?, List.getElem?_eq_getElem hl]
  · rw [List.getLast?_eq_getElem?, h.len, List.length_map]
    exact h1
theorem rd_iteNB {b : Bool} {A B : Prop} (h1 : b = false → A) (h2 : b = true → B) : if (!b) = true then A else B := by
  cases b with
  | true =>
    rw [if_neg (by decide)]
    exact h2 rfl
  | false =>
    rw [if_pos (by decide)]
    exact h1 rfl
theorem rd_iteB {b : Bool} {A B : Prop} (h1 : b = true → A) (h2 : b = false → B) : if b = true then A else B := by
  cases b with
  | true =>
    rw [if_pos rfl]
    exact h1 rfl
  | false =>
    rw [if_neg (by decide)]
    exact h2 rfl
open PySem PySem.Spec PyProof.Rows L2
theorem spl_hit1 {s : Nat} (acc r : List Nat) : TL.spl [s] 0 acc (s :: r) = acc :: TL.spl [s] 0 [] r := by
  have h := TL.spl_part1 (s := s) (S := []) (p := []) (acc := acc) (rest := r) (by simp)
  rw [List.append_nil] at h
  exact h
theorem spl_miss1 {s c : Nat} (h : c ≠ s) (acc r : List Nat) : TL.spl [s] 0 acc (c :: r) = TL.spl [s] 0 (acc ++ [c]) r := TL.spl_miss (TL.pre_of_head [] r h)
theorem spl_size (s : Nat) : ∀ (l acc : List Nat), (TL.spl [s] 0 acc l).length ≤ l.length + 1
  | [], acc => by rw [TL.spl_nil]; simp
  | c :: r, acc => by
    by_cases h : c = s
    · subst h
      rw [spl_hit1, List.length_cons, List.length_cons]
      have := spl_size c r []
      omega
    · rw [spl_miss1 h, List.length_cons]
      have := spl_size s r (acc ++ [c])
      omega
theorem spl_each (s : Nat) : ∀ (l acc : List Nat) (x : List Nat), x ∈ TL.spl [s] 0 acc l → x.length ≤ acc.length + l.length
  | [], acc, x, h => by
    rw [TL.spl_nil, List.mem_singleton] at h
    rw [h]
    simp
  | c :: r, acc, x, h => by
    by_cases hc : c = s
    · subst hc
      rw [spl_hit1] at h
      rcases List.mem_cons.mp h with h | h
      · rw [h]
        omega
      · have := spl_each c r [] x h
        simp only [List.length_nil, List.length_cons] at this ⊢
        omega
    · rw [spl_miss1 hc] at h
      have := spl_each s r _ x h
      simp only [List.length_append, List.length_cons, List.length_nil] at this ⊢
      omega
theorem map_S_sg : ∀ l : List Str, (l.map sg).map S = l
  | [] => rfl
  | a :: r => by
    rw [List.map_cons, List.map_cons, S_sg, map_S_sg r]
theorem split_nl (z : Str) : Txt.split z (Str.ofString "\n") = (TL.spl [10] 0 [] (sg z)).map S := by
  have h := TL.split_spl z (Str.ofString "\n") (by rw [show TL.tl (Str.ofString "\n") = [10] from sg_nl]; simp) (TL.kind_ok (by decide +kernel))
  rw [show TL.tl (Str.ofString "\n") = [10] from sg_nl] at h
  rw [← map_S_sg (Txt.split z (Str.ofString "\n"))]
  exact congrArg (List.map S) h
theorem split_sp (l : List Nat) : Txt.split (S l) (Str.ofString " ") = (wordsL l).map S := by
  have h := TL.split_spl (S l) (Str.ofString " ") (by rw [show TL.tl (Str.ofString " ") = [32] from sg_sp]; simp) (TL.kind_ok (by decide +kernel))
  rw [show TL.tl (Str.ofString " ") = [32] from sg_sp] at h
  rw [← map_S_sg (Txt.split (S l) (Str.ofString " "))]
  exact congrArg (List.map S) h
theorem lines_len (z : List Nat) : (linesL z).length ≤ z.length := by
  unfold linesL
  rw [List.length_dropLast]
  have := spl_size 10 z []
  omega
theorem lines_each {z x : List Nat} (h : x ∈ linesL z) : x.length ≤ z.length := by
  have := spl_each 10 z [] x ((List.dropLast_sublist _).mem h)
  simpa using this
theorem words_len (l : List Nat) : (wordsL l).length ≤ l.length + 1 := spl_size 32 l []
theorem words_each {l x : List Nat} (h : x ∈ wordsL l) : x.length ≤ l.length := by
  have := spl_each 32 l [] x h
  simpa using this
theorem entL_cases {ps : List (List Nat)} {e : Ent} (h : entL ps = some e) : ∃ a b c, ps = [a, b, c] ∧ numBL b = true ∧ numBL c = true ∧ e = (S a, NumText.digitsVal b, NumText.digitsVal c) := by
  unfold entL at h
  split at h
  · rename_i a b c
    split at h
    · rename_i hb
      rw [Bool.and_eq_true] at hb
      exact ⟨a, b, c, rfl, hb.1, hb.2, (Option.some.inj h).symm⟩
    · cases h
  · cases h
theorem ent_new {H : Hp} {e : Ent} {a : Addr} (h : H a = some (.tup [.str e.1, .int (e.2.1 : Int), .int (e.2.2 : Int)])) (hs : PyData.strOk e.1 = true) : Im H (.ref a) (entD e) := .new3 (.str _ hs) (.int _) (.int _) h
open PySem L2
theorem rd_enum1 {K : PySem.W.Frag} {ta : TA} {σ : L2.St} {H : Hp} {R : It → Hp → Prop} (q : ta σ H fun vs H1 => ∃ a xs, vs = [.ref a] ∧ SqL K H1 a xs ∧ R (Ite1 K a) H1) : iEnum1 K ta σ H R := q

open PySem PySem.Spec PyProof.Rows L2
/-! own classes: methods that may raise, called under a try -/
section
def MeX (P : Program) (w : World) (K : PySem.W.Frag) (mg : Str → Option Value) (base : Heap) (k : Nat) (C : Addr) (m : Str) (ps : List Str) (sp : Sp) : Prop :=
  ∃ (f : Addr) (fd : FuncData), (Cls K C ∧ Meth K C m f) ∧ FnOk P w K mg base (L2.CX P w) k f fd ps sp ∧ Binds K fd ps []
/-- such a method called with exceptions going to E -/
def tMethS (C : Addr) (m : Str) (sp : Sp) (E : L2.St → XK) (ta : TE) (t : TA) : TE := fun σ H Q => ta σ H fun x H1 => ∃ (a dx : Addr) (fs : List (Str × V)), x = .ref a ∧ H1 a = some (.ins C dx fs) ∧ fs.lookup m = none ∧ t σ H1 fun vs H2 => sp (.ref a :: vs) H2 Q (E σ)
variable {X : Cx} {C : Addr} {m : Str} {k : Nat} {ps : List Str} {sp : Sp} {W : WX}
theorem pe_methX {pos apos : Pos} {e o : Expr} {es : List Expr} {ta : TE} {t : TA} {pl : Sem Bool} (h : MeX X.prog X.w X.K X.mg X.base k C m ps sp) (hr : Room k X.A) (tk : Takes X W) (ho : PE X o ta) (ha : PA X (e :: es) t)
    (hs : starEach (e :: es) X.env = (false, eval e X.env) :: starEach es X.env := by rfl) (hp : (backTo pos (starEach es X.env)).any (·.1) = false := by rfl)
    (hev : eval ((o.Attribute m apos).Call (e :: es) [] pos) X.env = (do
      let ov ← eval o X.env
      standAt apos.atName
      let y ← holding [ov] (getMethod ov m pl)
      match y with
        | (f, first) => callWith pos f first (backTo pos (starEach (e :: es) X.env)) (backToKw pos (keywordEach [] X.env))) := by rfl) :
    PE X ((o.Attribute m apos).Call (e :: es) [] pos) (tMethS C m sp (WE W) ta t) := by
  obtain ⟨f, fd, ⟨c, M⟩, F, hb⟩ := h
  constructor
  intro pins s σ H Q I q0
  refine PySem.W.methodCall_KW (pl := pl) (thn (ho.run pins s σ H _ I q0) fun u s1 h1 => ?_) hev
  obtain ⟨x, H1, I1, rx, a, dx, fs, ex, ea, lk, q⟩ := h1
  subst ex
  cases rx
  refine getmeth_ok I1 ea c M lk (PySem.W.callWith_K (h₀ := X.base) I.ok.mod.kin M.kp (thn (ha.run pos pins s1 σ H1 _ I1 q) fun us s2 h2 => ?_) hs hp)
  obtain ⟨vs, H2, I2, r, q2⟩ := h2
  exact ⟨I2.kIn, run_fnS (us := .ref a :: us) (vs := .ref a :: vs) F hr hb (passAt tk σ) I2 (.cons rfl r) q2⟩
end
section
variable {K : PySem.W.Frag} {σ : L2.St} {H : Hp} {Q : VK} {ta : TE}
theorem rd_methS {C : Addr} {m : Str} {sp : Sp} {E : L2.St → XK} {t : TA} (q : ta σ H fun x H1 => ∃ (a dx : Addr) (fs : List (Str × V)), x = V.ref a ∧ H1 a = some (HO.ins C dx fs) ∧ fs.lookup m = none ∧ t σ H1 fun vs H2 => sp (.ref a :: vs) H2 Q (E σ)) : tMethS C m sp E ta t σ H Q := q
end
/-! ### an own class: made, its fields, its methods -/
section
variable {P : Program} {w : World} {K : PySem.W.Frag} {mg : Str → Option Value} {base : Heap}
def MkO (P : Program) (w : World) (K : PySem.W.Frag) (mg : Str → Option Value) (base : Heap) (k : Nat) (x : Str) (C : Addr) (ps : List Str) (sp : Sp) : Prop :=
  ∃ (f : Addr) (fd : FuncData), Mk K C f ∧ FnOk P w K mg base CX0 k f fd ps sp ∧ mg x = some (.ref C) ∧ Binds K fd ps []
def MeO (P : Program) (w : World) (K : PySem.W.Frag) (mg : Str → Option Value) (base : Heap) (k : Nat) (C : Addr) (m : Str) (ps : List Str) (sp : Sp) : Prop :=
  ∃ (f : Addr) (fd : FuncData), Cls K C ∧ Meth K C m f ∧ FnOk P w K mg base CX0 k f fd ps sp ∧ Binds K fd ps []
variable {X : Cx}
theorem pe_makeO {k : Nat} {C : Addr} {ps : List Str} {sp : Sp} {x : Str} {p pos : Pos} {e : Expr} {es : List Expr} {t : TA} (h : MkO X.prog X.w X.K X.mg X.base k x C ps sp) (hr : Room (k + 1) X.A) (hg : Gl X x) (ha : PA X (e :: es) t)
    (hdb : (x == ("__debug__" : Str)) = false := by decide) (he : starEach (e :: es) X.env = (false, eval e X.env) :: starEach es X.env := by rfl) (hpl : (backTo pos (starEach es X.env)).any (·.1) = false := by rfl) :
    PE X (.Call (.Name x p) (e :: es) [] pos) (tMake C sp [] E0 t) := by
  obtain ⟨f, fd, M, F, hm, hb⟩ := h
  exact pe_make M F hr hg hm hb .nil pass0 ha hdb he hpl
theorem pe_methO0 {k : Nat} {C : Addr} {ps : List Str} {sp : Sp} {m : Str} {pos apos : Pos} {o : Expr} {ta : TE} {pl : Sem Bool} (h : MeO X.prog X.w X.K X.mg X.base k C m ps sp) (hr : Room k X.A) (ho : PE X o ta)
    (hev : eval ((o.Attribute m apos).Call [] [] pos) X.env = (do
      let ov ← eval o X.env
      standAt apos.atName
      let y ← holding [ov] (getMethod ov m pl)
      match y with
        | (f, first) => callWith pos f first (backTo pos (starEach [] X.env)) (backToKw pos (keywordEach [] X.env))) := by rfl) :
    PE X ((o.Attribute m apos).Call [] [] pos) (tMeth C m sp [] E0 ta tNil) := by
  obtain ⟨f, fd, c, M, F, hb⟩ := h
  exact pe_meth0 ho c M F hr hb .nil pass0 hev
theorem pe_methO {k : Nat} {C : Addr} {ps : List Str} {sp : Sp} {m : Str} {pos apos : Pos} {e o : Expr} {es : List Expr} {ta : TE} {t : TA} {pl : Sem Bool} (h : MeO X.prog X.w X.K X.mg X.base k C m ps sp) (hr : Room k X.A) (ho : PE X o ta) (ha : PA X (e :: es) t)
    (he : starEach (e :: es) X.env = (false, eval e X.env) :: starEach es X.env := by rfl) (hpl : (backTo pos (starEach es X.env)).any (·.1) = false := by rfl)
    (hev : eval ((o.Attribute m apos).Call (e :: es) [] pos) X.env = (do
      let ov ← eval o X.env
      standAt apos.atName
      let __x ← holding [ov] (getMethod ov m pl)
      match __x with
        | (f, first) => callWith pos f first (backTo pos (starEach (e :: es) X.env)) (backToKw pos (keywordEach [] X.env))) := by rfl) :
    PE X ((o.Attribute m apos).Call (e :: es) [] pos) (tMeth C m sp [] E0 ta t) := by
  obtain ⟨f, fd, c, M, F, hb⟩ := h
  exact pe_meth ho c M F hr hb .nil pass0 ha he hpl hev
end
section
variable {K : PySem.W.Frag} {σ : L2.St} {H : Hp} {Q : VK} {ta : TE}
theorem rd_fld {f : Str} (q : ta σ H fun x H1 => ∃ a C dx fs v, x = V.ref a ∧ H1 a = some (HO.ins C dx fs) ∧ Cls K C ∧ NoAttr K C f ∧ fs.lookup f = some v ∧ Q v H1) : tFld K ta f σ H Q := q
theorem rd_meth {C : Addr} {m : Str} {sp : Sp} {E : XK} {t : TA} (q : ta σ H fun x H1 => ∃ a dx fs, x = V.ref a ∧ H1 a = some (HO.ins C dx fs) ∧ fs.lookup m = none ∧ t σ H1 fun vs H2 => sp (x :: (vs ++ [])) H2 Q E) : tMeth C m sp [] E ta t σ H Q := q
theorem rd_make {C : Addr} {sp : Sp} {E : XK} {t : TA} (q : t σ H fun vs H1 => ∀ x dx, H1 x = none → H1 dx = none → dx ≠ x → sp (.ref x :: (vs ++ [])) (upd (upd H1 dx (.own x)) x (.ins C dx [])) (fun v H2 => v = .non ∧ Q (.ref x) H2) E) : tMake C sp [] E t σ H Q := q
end

open PySem PySem.Spec PyProof.Rows L2
/-! own classes: made under a try; methods where nothing is raised -/
section
def MkX (P : Program) (w : World) (K : PySem.W.Frag) (mg : Str → Option Value) (base : Heap) (k : Nat) (x : Str) (C : Addr) (ps : List Str) (sp : Sp) : Prop :=
  ∃ (f : Addr) (fd : FuncData), Mk K C f ∧ FnOk P w K mg base (L2.CX P w) k f fd ps sp ∧ mg x = some (.ref C) ∧ Binds K fd ps []
def tMakeS (C : Addr) (sp : Sp) (E : L2.St → XK) (t : TA) : TE := fun σ H Q => t σ H fun vs H1 => ∀ x dx, H1 x = none → H1 dx = none → dx ≠ x →
  sp (.ref x :: vs) (upd (upd H1 dx (.own x)) x (.ins C dx [])) (fun v H2 => v = .non ∧ Q (.ref x) H2) (E σ)
variable {X : Cx} {C : Addr} {k : Nat} {ps : List Str} {sp : Sp} {W : WX}
theorem runs_make {pn : List (Addr × Obj)} {σ : L2.St} {H : Hp} {sh : Shared} {Q : VK} {ws : List Value} {vs : List V} {f : Addr} {fd : FuncData} {E : XK} (M : Mk X.K C f) (F : FnOk X.prog X.w X.K X.mg X.base (L2.CX X.prog X.w) k f fd ps sp) (hr : Room (k + 1) X.A) (hb : Binds X.K fd ps [])
    (hx : PassesAt (L2.CX X.prog X.w) X σ E) (I : Inv X pn σ H sh) (r : Vals vs ws)
    (h : ∀ x dx, H x = none → H dx = none → dx ≠ x → sp (.ref x :: vs) (upd (upd H dx (.own x)) x (.ins C dx [])) (fun v H2 => v = .non ∧ Q (.ref x) H2) E) :
    wpAny (model X.prog X.w) X.A (call (.ref C) ws) (EP X pn σ Q) X.xe sh := by
  have q0 := h _ _ (I.hok.fresh (Nat.le_succ sh.heap.objs.size)) (I.hok.fresh (Nat.le_refl sh.heap.objs.size)) (Nat.ne_of_lt (Nat.lt_succ_self sh.heap.objs.size))
  have J := Inv.made (C := C) I
  have rr : Vals (V.ref (sh.heap.objs.size + 1) :: vs) (Value.ref (sh.heap.objs.size + 1) :: ws) := .cons rfl r
  have len : (Value.ref (sh.heap.objs.size + 1) :: ws ++ []).length = ps.length := by
    rw [List.append_nil, ← rr.length]
    exact F.len _ _ _ _ q0
  have b := hb _ (Value.ref (sh.heap.objs.size + 1) :: ws) J.kIn len
  rw [List.append_nil] at b
  have go := F.run _ X.stack _ _ ⟨Value.ref (sh.heap.objs.size + 1) :: ws, []⟩ _ _ _ E (hr.make C ws []) (J.env0.make C ws []) b rr q0
  refine wpAny_call (make_map (f := f) I.kIn M.makes M.init (beq_iff_eq.mp M.fn) (codeAny_mono go fun r s2 hq => ?_))
  cases r with
  | error e => exact hx pn _ _ e s2 J hq
  | ok fl =>
    cases fl with
    | ret u =>
      obtain ⟨v, H2, J2, rv, ev, q3⟩ := J.after hq
      cases ev
      exact ⟨rv, ⟨V.ref _, H2, J2, rfl, q3⟩⟩
    | next => exact hq.elim
    | brk => exact hq.elim
    | cont => exact hq.elim
theorem pe_makeX {x : Str} {p pos : Pos} {e : Expr} {es : List Expr} {t : TA} (h : MkX X.prog X.w X.K X.mg X.base k x C ps sp) (hr : Room (k + 1) X.A) (hg : Gl X x) (tk : Takes X W) (ha : PA X (e :: es) t)
    (hdb : (x == ("__debug__" : Str)) = false := by decide) (he : starEach (e :: es) X.env = (false, eval e X.env) :: starEach es X.env := by rfl) (hpl : (backTo pos (starEach es X.env)).any (·.1) = false := by rfl) :
    PE X (.Call (.Name x p) (e :: es) [] pos) (tMakeS C sp (WE W) t) := by
  obtain ⟨f, fd, M, F, hm, hb⟩ := h
  constructor
  intro pn sh σ H Q I q
  refine wpAny_Call_Name_kw (ld_glob I hg hm ?_ hdb)
  refine PySem.W.callWith_K (h₀ := X.base) I.ok.mod.kin M.kp (thn (ha.run pos pn sh σ H _ I q) fun us s1 hh => ?_) he hpl
  obtain ⟨vs, H1, I1, r, q1⟩ := hh
  exact ⟨I1.kIn, runs_make M F hr hb (passAt tk σ) I1 r q1⟩
end
section
variable {K : PySem.W.Frag} {σ : L2.St} {H : Hp} {Q : VK}
theorem rd_makeS {C : Addr} {sp : Sp} {E : L2.St → XK} {t : TA} (q : t σ H fun vs H1 => ∀ x dx, H1 x = none → H1 dx = none → dx ≠ x → sp (.ref x :: vs) (upd (upd H1 dx (.own x)) x (.ins C dx [])) (fun v H2 => v = .non ∧ Q (.ref x) H2) (E σ)) : tMakeS C sp E t σ H Q := q
end
section
variable {P : Program} {w : World} {K : PySem.W.Frag} {mg : Str → Option Value} {base : Heap}
theorem fnOk0 {k : Nat} {f : Addr} {fd : FuncData} {ps : List Str} {sp : Sp} (F : FnOk P w K mg base (L2.CX P w) k f fd ps sp) : FnOk P w K mg base CX0 k f fd ps (sp0 sp) := by
  refine ⟨fun vs H Q E h => F.len vs H Q _ h, fun A outer s H args us vs Q E hr e0 hb rv hsp => ?_⟩
  refine codeAny_mono (F.run A outer s H args us vs Q _ hr e0 hb rv hsp) fun r s2 hq => ?_
  cases r with
  | ok fl => cases fl <;> exact hq
  | error e =>
    obtain ⟨_, _, _, _, _, _, _, _, _, _, _, _, z⟩ := hq
    exact z.elim
/-- a method where nothing is raised -/
theorem MeX.me0 {k : Nat} {C : Addr} {m : Str} {ps : List Str} {sp : Sp} (h : MeX P w K mg base k C m ps sp) : MeO P w K mg base k C m ps (sp0 sp) := by
  obtain ⟨f, fd, ⟨c, M⟩, F, hb⟩ := h
  exact ⟨f, fd, c, M, fnOk0 F, hb⟩
end

open PySem PySem.Spec PyProof.Rows L2
open PySem.W (EachIs)
def topS (i : Nat) : Stmt := PySem.Challenge.pw_neverdark_k78_whole_falls_of_a_hand.main.body.getD i (.Pass ⟨0, 0, 0, 0⟩)
abbrev s_is_word : Stmt := topS 7
abbrev N_is_word : List Str := ["text", "letters", "most", "letter"]
theorem sc_is_word : FnScope ["text", "letters", "most", "letter"] ["text", "letters", "most"] (defScope s_is_word) := ⟨rfl, rfl, rfl, by decide +kernel, rfl, by decide +kernel, by decide +kernel⟩
abbrev s_is_number : Stmt := topS 8
abbrev N_is_number : List Str := ["text"]
theorem sc_is_number : FnScope ["text"] ["text"] (defScope s_is_number) := ⟨rfl, rfl, rfl, by decide +kernel, rfl, by decide +kernel, by decide +kernel⟩
abbrev s_entry_line : Stmt := topS 10
abbrev N_entry_line : List Str := ["entry", "word", "k", "moment"]
theorem sc_entry_line : FnScope ["entry", "word", "k", "moment"] ["entry"] (defScope s_entry_line) := ⟨rfl, rfl, rfl, by decide +kernel, rfl, by decide +kernel, by decide +kernel⟩
abbrev s_is_entry : Stmt := topS 11
abbrev N_is_entry : List Str := ["entries", "words", "last"]
theorem sc_is_entry : FnScope ["entries", "words", "last"] ["entries", "words"] (defScope s_is_entry) := ⟨rfl, rfl, rfl, by decide +kernel, rfl, by decide +kernel, by decide +kernel⟩
abbrev s_read_book : Stmt := topS 12
abbrev N_read_book : List Str := ["text", "entries", "at", "line", "words"]
theorem sc_read_book : FnScope ["text", "entries", "at", "line", "words"] ["text"] (defScope s_read_book) := ⟨rfl, rfl, rfl, by decide +kernel, rfl, by decide +kernel, by decide +kernel⟩
abbrev s_ask_moment : Stmt := topS 14
abbrev N_ask_moment : List Str := ["table", "done", "moments", "waits", "k", "j", "wait"]
theorem sc_ask_moment : FnScope ["table", "done", "moments", "waits", "k", "j", "wait"] ["table", "done"] (defScope s_ask_moment) := ⟨rfl, rfl, rfl, by decide +kernel, rfl, by decide +kernel, by decide +kernel⟩
abbrev s_follows_table : Stmt := topS 16
abbrev N_follows_table : List Str := ["table", "count", "entries", "done", "word", "k", "moment"]
theorem sc_follows_table : FnScope ["table", "count", "entries", "done", "word", "k", "moment"] ["table", "count", "entries"] (defScope s_follows_table) := ⟨rfl, rfl, rfl, by decide +kernel, rfl, by decide +kernel, by decide +kernel⟩
abbrev s_law_mix : Stmt := topS 19
abbrev N_law_mix : List Str := ["number"]
theorem sc_law_mix : FnScope ["number"] ["number"] (defScope s_law_mix) := ⟨rfl, rfl, rfl, by decide +kernel, rfl, by decide +kernel, by decide +kernel⟩
abbrev s_law_tape : Stmt := topS 20
abbrev N_law_tape : List Str := ["script", "budget"]
theorem sc_law_tape : FnScope ["script", "budget"] ["script", "budget"] (defScope s_law_tape) := ⟨rfl, rfl, rfl, by decide +kernel, rfl, by decide +kernel, by decide +kernel⟩
abbrev s_law_take : Stmt := topS 21
abbrev N_law_take : List Str := ["tape", "many", "cell", "digit"]
theorem sc_law_take : FnScope ["tape", "many", "cell", "digit"] ["tape", "many"] (defScope s_law_take) := ⟨rfl, rfl, rfl, by decide +kernel, rfl, by decide +kernel, by decide +kernel⟩
abbrev s_law_table : Stmt := topS 22
abbrev N_law_table : List Str := ["tape", "count", "rows", "k", "j"]
theorem sc_law_table : FnScope ["tape", "count", "rows", "k", "j"] ["tape", "count"] (defScope s_law_table) := ⟨rfl, rfl, rfl, by decide +kernel, rfl, by decide +kernel, by decide +kernel⟩
abbrev s_law_first : Stmt := topS 23
abbrev N_law_first : List Str := ["table", "done", "k", "full", "row"]
theorem sc_law_first : FnScope ["table", "done", "k", "full", "row"] ["table", "done"] (defScope s_law_first) := ⟨rfl, rfl, rfl, by decide +kernel, rfl, by decide +kernel, by decide +kernel⟩
abbrev s_law_lines : Stmt := topS 24
abbrev N_law_lines : List Str := ["entries", "entry"]
theorem sc_law_lines : FnScope ["entries", "entry"] ["entries"] (defScope s_law_lines) := ⟨rfl, rfl, rfl, by decide +kernel, rfl, by decide +kernel, by decide +kernel⟩
abbrev s_law_run : Stmt := topS 25
abbrev N_law_run : List Str := ["table", "delays", "entries", "done", "delay", "asked"]
theorem sc_law_run : FnScope ["table", "delays", "entries", "done", "delay", "asked"] ["table", "delays"] (defScope s_law_run) := ⟨rfl, rfl, rfl, by decide +kernel, rfl, by decide +kernel, by decide +kernel⟩
abbrev s_law_drop : Stmt := topS 26
abbrev N_law_drop : List Str := ["tape", "text", "moment", "lines", "kept", "many", "line"]
theorem sc_law_drop : FnScope ["tape", "text", "moment", "lines", "kept", "many", "line"] ["tape", "text", "moment"] (defScope s_law_drop) := ⟨rfl, rfl, rfl, by decide +kernel, rfl, by decide +kernel, by decide +kernel⟩
abbrev s_law_act : Stmt := topS 27
abbrev N_law_act : List Str := ["hand", "asked", "delays", "moment", "turn", "told", "k", "due"]
theorem sc_law_act : FnScope ["hand", "asked", "delays", "moment", "turn", "told", "k", "due"] ["hand", "asked", "delays", "moment"] (defScope s_law_act) := ⟨rfl, rfl, rfl, by decide +kernel, rfl, by decide +kernel, by decide +kernel⟩
abbrev s_law_turn : Stmt := topS 28
abbrev N_law_turn : List Str := ["tape", "hand", "world", "delays", "moment", "table", "count", "asked", "turn"]
theorem sc_law_turn : FnScope ["tape", "hand", "world", "delays", "moment", "table", "count", "asked", "turn"] ["tape", "hand", "world", "delays", "moment"] (defScope s_law_turn) := ⟨rfl, rfl, rfl, by decide +kernel, rfl, by decide +kernel, by decide +kernel⟩
abbrev s_law : Stmt := topS 29
abbrev N_law : List Str := ["script", "tape", "count", "table", "delays", "due", "hand", "asked", "moments", "entry", "near", "moment", "last", "k"]
theorem sc_law : FnScope ["script", "tape", "count", "table", "delays", "due", "hand", "asked", "moments", "entry", "near", "moment", "last", "k"] ["script"] (defScope s_law) := ⟨rfl, rfl, rfl, by decide +kernel, rfl, by decide +kernel, by decide +kernel⟩
abbrev s_Hand_init : Stmt := inClass (topS 17) 0
abbrev N_Hand_init : List Str := ["self", "table", "count", "text"]
theorem sc_Hand_init : FnScope ["self", "table", "count", "text"] ["self", "table", "count", "text"] (defScope s_Hand_init) := ⟨rfl, rfl, rfl, by decide +kernel, rfl, by decide +kernel, by decide +kernel⟩
abbrev s_Hand_next : Stmt := inClass (topS 17) 1
abbrev N_Hand_next : List Str := ["self", "moment", "done", "k", "least"]
theorem sc_Hand_next : FnScope ["self", "moment", "done", "k", "least"] ["self", "moment"] (defScope s_Hand_next) := ⟨rfl, rfl, rfl, by decide +kernel, rfl, by decide +kernel, by decide +kernel⟩
abbrev s_Hand_see : Stmt := inClass (topS 17) 2
abbrev N_Hand_see : List Str := ["self", "moment"]
theorem sc_Hand_see : FnScope ["self", "moment"] ["self", "moment"] (defScope s_Hand_see) := ⟨rfl, rfl, rfl, by decide +kernel, rfl, by decide +kernel, by decide +kernel⟩
abbrev s_Hand_book : Stmt := inClass (topS 17) 3
abbrev N_Hand_book : List Str := ["self", "entry"]
theorem sc_Hand_book : FnScope ["self", "entry"] ["self"] (defScope s_Hand_book) := ⟨rfl, rfl, rfl, by decide +kernel, rfl, by decide +kernel, by decide +kernel⟩
abbrev s_Hand_done : Stmt := inClass (topS 17) 4
abbrev N_Hand_done : List Str := ["self", "word", "_", "moment"]
theorem sc_Hand_done : FnScope ["self", "word", "_", "moment"] ["self"] (defScope s_Hand_done) := ⟨rfl, rfl, rfl, by decide +kernel, rfl, by decide +kernel, by decide +kernel⟩
abbrev s_Hand_latest : Stmt := inClass (topS 17) 5
abbrev N_Hand_latest : List Str := ["self"]
theorem sc_Hand_latest : FnScope ["self"] ["self"] (defScope s_Hand_latest) := ⟨rfl, rfl, rfl, by decide +kernel, rfl, by decide +kernel, by decide +kernel⟩
abbrev s_Hand_is_open : Stmt := inClass (topS 17) 6
abbrev N_Hand_is_open : List Str := ["self"]
theorem sc_Hand_is_open : FnScope ["self"] ["self"] (defScope s_Hand_is_open) := ⟨rfl, rfl, rfl, by decide +kernel, rfl, by decide +kernel, by decide +kernel⟩
local macro_rules | `(tactic| walk_at "szl") => `(tactic| first
  | assumption
  | exact Nat.lt_of_le_of_lt (by assumption) (by decide)
  | (refine Nat.lt_of_le_of_lt ?_ (show (100000 : Nat) < sizeLine by decide); (try simp only [List.length_map, List.length_cons, List.length_nil, List.length_append]); omega))
local macro_rules | `(tactic| walk_at "sz") => `(tactic| first
  | assumption
  | exact Nat.le_trans (by assumption) (by decide)
  | (show _ ≤ sizeLine; decide)
  | (refine Nat.le_trans ?_ (show (100000 : Nat) ≤ sizeLine by decide); (try simp only [List.length_map, List.length_cons, List.length_nil, List.length_append]); omega))
local macro_rules | `(tactic| walk_at "hp") => `(tactic| first
  | assumption
  | exact upd_same
  | (refine (upd_ne ?hne).trans ?_; (case hne => first | assumption | exact Ne.symm (by assumption)); walk_at "hp"))
local macro_rules | `(tactic| walk_at "pl") => `(tactic| (refine Nat.le_trans (?plx : _ ≤ 1000) (by decide); (case plx => (try simp only [app_len, dot_len, dotS_len, w_len]); omega)))
local macro_rules | `(tactic| walk_at "rd1") => `(tactic| first
  | with_reducible refine rd_seq ?_
  | with_reducible refine rd_asg ?_
  | with_reducible refine rd_ret ?_
  | with_reducible refine rd_if ?_
  | with_reducible refine rd_drop ?_
  | with_reducible refine rd_next ?_
  | with_reducible refine rd_B ?_
  | with_reducible refine rd_ifE ?_
  | with_reducible refine rd_T ?_
  | with_reducible refine rd_tnot ?_
  | with_reducible refine rd_tand ?_
  | with_reducible refine rd_tor ?_
  | with_reducible refine rd_chain ?_
  | with_reducible refine rd_rng2 ?_
  | with_reducible refine rd_zipA ?_
  | with_reducible refine rd_star ?_
  | with_reducible refine rd_op ?_
  | with_reducible refine rd_un ?_
  | with_reducible refine rd_call ?_
  | with_reducible refine rd_cons ?_
  | with_reducible refine rd_nil ?_
  | with_reducible refine rd_cb ?_
  | with_reducible refine rd_c ?_
  | with_reducible refine rd_not ?_
  | with_reducible refine rd_and ?_
  | with_reducible refine rd_or ?_
  | with_reducible refine rd_sub ?_
  | with_reducible refine rd_lc ?_
  | with_reducible refine rd_iStr ?_
  | with_reducible refine rd_exStr ?_
  | with_reducible refine rd_iSeq ?_
  | with_reducible refine rd_rng ?_
  | with_reducible refine rd_exRef ?_
  | with_reducible refine rd_exInt ?_
  | with_reducible refine rd_exInts ?_
  | ((with_reducible refine' rd_seqL (xs := ?rxs) ?rxh ?_); (case rxh => exact SqL.of (by walk_at "hp")))
  | with_reducible refine rd_tyes ?_
  | with_reducible refine rd_eqStr ?_
  | with_reducible refine rd_neStr ?_
  | with_reducible refine rd_eqInt ?_
  | with_reducible refine rd_neInt ?_
  | with_reducible refine rd_eqBl ?_
  | with_reducible refine rd_rev ?_
  | with_reducible refine rd_exA ?_
  | with_reducible refine rd_fs ?_
  | with_reducible refine rd_jc ?_
  | with_reducible refine rd_jn ?_
  | with_reducible refine rd_fmt ?_
  | with_reducible refine rd_for ?_
  | with_reducible refine rd_bm ?_
  | ((with_reducible refine' rd_tyL (xs := ?rxs) ?rxh ?_); (case rxh => walk_at "hp"))
  | ((with_reducible refine' rd_app (xs := ?rxs) ?rxh ?rxc ?_); (case rxh => walk_at "hp"); (case rxc => walk_at "szl"))
  | ((with_reducible refine rd_fmtS ?rdc ?_); (case rdc => walk_at "sz"))
  | with_reducible refine rd_isBool ?_
  | with_reducible refine rd_sl ?_
  | with_reducible refine rd_noP ?_
  | with_reducible refine rd_part ?_
  | ((with_reducible refine rd_slS ?rdc ?_); (case rdc => walk_at "sz"))
  | with_reducible refine rd_sortLam ?_
  | with_reducible refine iteT ?_
  | with_reducible refine rd_ntt ?_
  | with_reducible refine rd_nff ?_
  | with_reducible refine iteF ?_
  | with_reducible refine rd_m1 ?_
  | (with_reducible refine ⟨⟨_, rfl⟩, ?_⟩)
  | ((with_reducible refine rd_len ?rdc ?_); (case rdc => walk_at "sz"))
  | with_reducible refine rd_gcons ?_
  | ((with_reducible refine rd_plusS ?rdc ?_); (case rdc => walk_at "pl"))
  | with_reducible refine rd_gnil ?_
  | ((with_reducible refine' rd_inWs (zs := ?rxs) ?rxh ?_); (case rxh => walk_at "hp"))
  | ((with_reducible refine' rd_ninWs (zs := ?rxs) ?rxh ?_); (case rxh => walk_at "hp"))
  | with_reducible refine rd_ends ?_
  | with_reducible refine rd_inS ?_
  | with_reducible refine rd_ninS ?_
  | with_reducible refine rd_isStr ?_
  | with_reducible refine rd_lst ?_
  | with_reducible refine rd_tup ?_
  | with_reducible refine rd_name ?_
  | with_reducible refine rd_bl ?_
  | with_reducible refine rd_i0 ?_
  | with_reducible refine rd_uI ?_
  | with_reducible refine rd_plusI ?_
  | with_reducible refine rd_int1 ?_
  | ((with_reducible refine rd_i ?rdc ?_); (case rdc => first | decide | (constructor <;> decide) | (left; constructor <;> decide) | (right; constructor <;> decide) | omega | (left; constructor <;> omega) | (right; constructor <;> omega) | (constructor <;> omega)))
  | ((with_reducible refine' rd_ixL (v := ?rxv) (xs := ?rxs) ?rxh ?rxa ?_); (case rxh => exact SqL.of (by walk_at "hp")); (case rxa => rfl))
  | ((with_reducible refine' rd_lenL (ys := ?rxs) ?rxh ?_); (case rxh => exact SqL.of (by walk_at "hp")))
  | ((with_reducible refine' rd_set (xs := ?rxs) (j := ?rxj) ?rxh ?rxa ?_); (case rxh => walk_at "hp"); (case rxa => rfl))
  | ((with_reducible refine' rd_var (v := ?rdw) ?rdv ?_); (case rdv => rfl)))
local macro_rules | `(tactic| walk_at "rdn1") => `(tactic| first
  | with_reducible refine rd_asg ?_
  | with_reducible refine rd_ret ?_
  | with_reducible refine rd_if ?_
  | with_reducible refine rd_drop ?_
  | with_reducible refine rd_next ?_
  | with_reducible refine rd_B ?_
  | with_reducible refine rd_ifE ?_
  | with_reducible refine rd_T ?_
  | with_reducible refine rd_tnot ?_
  | with_reducible refine rd_tand ?_
  | with_reducible refine rd_tor ?_
  | with_reducible refine rd_chain ?_
  | with_reducible refine rd_rng2 ?_
  | with_reducible refine rd_zipA ?_
  | with_reducible refine rd_star ?_
  | with_reducible refine rd_op ?_
  | with_reducible refine rd_un ?_
  | with_reducible refine rd_call ?_
  | with_reducible refine rd_cons ?_
  | with_reducible refine rd_nil ?_
  | with_reducible refine rd_cb ?_
  | with_reducible refine rd_c ?_
  | with_reducible refine rd_not ?_
  | with_reducible refine rd_and ?_
  | with_reducible refine rd_or ?_
  | with_reducible refine rd_sub ?_
  | with_reducible refine rd_lc ?_
  | with_reducible refine rd_iStr ?_
  | with_reducible refine rd_exStr ?_
  | with_reducible refine rd_iSeq ?_
  | with_reducible refine rd_rng ?_
  | with_reducible refine rd_exRef ?_
  | with_reducible refine rd_exInt ?_
  | with_reducible refine rd_exInts ?_
  | ((with_reducible refine' rd_seqL (xs := ?rxs) ?rxh ?_); (case rxh => exact SqL.of (by walk_at "hp")))
  | with_reducible refine rd_tyes ?_
  | with_reducible refine rd_eqStr ?_
  | with_reducible refine rd_neStr ?_
  | with_reducible refine rd_eqInt ?_
  | with_reducible refine rd_neInt ?_
  | with_reducible refine rd_eqBl ?_
  | with_reducible refine rd_rev ?_
  | with_reducible refine rd_exA ?_
  | with_reducible refine rd_fs ?_
  | with_reducible refine rd_jc ?_
  | with_reducible refine rd_jn ?_
  | with_reducible refine rd_fmt ?_
  | with_reducible refine rd_for ?_
  | with_reducible refine rd_bm ?_
  | ((with_reducible refine' rd_tyL (xs := ?rxs) ?rxh ?_); (case rxh => walk_at "hp"))
  | ((with_reducible refine' rd_app (xs := ?rxs) ?rxh ?rxc ?_); (case rxh => walk_at "hp"); (case rxc => walk_at "szl"))
  | ((with_reducible refine rd_fmtS ?rdc ?_); (case rdc => walk_at "sz"))
  | with_reducible refine rd_isBool ?_
  | with_reducible refine rd_sl ?_
  | with_reducible refine rd_noP ?_
  | with_reducible refine rd_part ?_
  | ((with_reducible refine rd_slS ?rdc ?_); (case rdc => walk_at "sz"))
  | with_reducible refine rd_sortLam ?_
  | with_reducible refine iteT ?_
  | with_reducible refine rd_ntt ?_
  | with_reducible refine rd_nff ?_
  | with_reducible refine iteF ?_
  | with_reducible refine rd_m1 ?_
  | (with_reducible refine ⟨⟨_, rfl⟩, ?_⟩)
  | ((with_reducible refine rd_len ?rdc ?_); (case rdc => walk_at "sz"))
  | with_reducible refine rd_gcons ?_
  | ((with_reducible refine rd_plusS ?rdc ?_); (case rdc => walk_at "pl"))
  | with_reducible refine rd_gnil ?_
  | ((with_reducible refine' rd_inWs (zs := ?rxs) ?rxh ?_); (case rxh => walk_at "hp"))
  | ((with_reducible refine' rd_ninWs (zs := ?rxs) ?rxh ?_); (case rxh => walk_at "hp"))
  | with_reducible refine rd_ends ?_
  | with_reducible refine rd_inS ?_
  | with_reducible refine rd_ninS ?_
  | with_reducible refine rd_isStr ?_
  | with_reducible refine rd_lst ?_
  | with_reducible refine rd_tup ?_
  | with_reducible refine rd_name ?_
  | with_reducible refine rd_bl ?_
  | with_reducible refine rd_i0 ?_
  | with_reducible refine rd_uI ?_
  | with_reducible refine rd_plusI ?_
  | with_reducible refine rd_int1 ?_
  | ((with_reducible refine rd_i ?rdc ?_); (case rdc => first | decide | (constructor <;> decide) | (left; constructor <;> decide) | (right; constructor <;> decide) | omega | (left; constructor <;> omega) | (right; constructor <;> omega) | (constructor <;> omega)))
  | ((with_reducible refine' rd_ixL (v := ?rxv) (xs := ?rxs) ?rxh ?rxa ?_); (case rxh => exact SqL.of (by walk_at "hp")); (case rxa => rfl))
  | ((with_reducible refine' rd_lenL (ys := ?rxs) ?rxh ?_); (case rxh => exact SqL.of (by walk_at "hp")))
  | ((with_reducible refine' rd_set (xs := ?rxs) (j := ?rxj) ?rxh ?rxa ?_); (case rxh => walk_at "hp"); (case rxa => rfl))
  | ((with_reducible refine' rd_var (v := ?rdw) ?rdv ?_); (case rdv => rfl)))
local macro_rules | `(tactic| walk_at "rd") => `(tactic| repeat walk_at "rd1")
local macro_rules | `(tactic| walk_at "ext") => `(tactic| first
  | exact Ext.refl
  | assumption
  | (refine Ext.trans ?_ (Ext.mut (by simp) (by walk_at "hp")); walk_at "ext")
  | (refine Ext.trans ?_ (Ext.new (by assumption)); walk_at "ext"))
local macro_rules | `(tactic| walk_at "rdn") => `(tactic| repeat walk_at "rdn1")
section
variable {T : List (Addr × Str)} {P : Program} {w : World} {K : PySem.W.Frag} {mg : Str → Option Value} {base : Heap}
def bltns : List Str := ["isinstance", "len", "all", "any", "range", "list", "tuple", "int", "max", "min", "enumerate", "str", "sorted"]
theorem ok_law_mix (D : Def K mg "_law_mix" s_law_mix ["number"]) (mb : ∀ x ∈ bltns, mg x = none) : Ok P w K mg base 1 "_law_mix" ["number"] spMix := by
  refine D.ok sc_law_mix (fun vs H Q E h => ?_) (fun cdv f A outer s H vs Q E hr h => ?_)
  · obtain ⟨n, rfl, _⟩ := h
    rfl
  · obtain ⟨n, rfl, q⟩ := h
    refine ⟨_, (pss_cons (ps_set (i := 0) sc_law_mix.nd rfl (.inl rfl) (pe_op op_mod (pe_callTy call_int1U (by rfl) (mb _ (by decide)) (by decide +kernel) (pa_cons (pe_op (op_plus K rfl) (pe_op op_mul (pv 0) pe_int) pe_int) pa_nil)) pe_int))
   (pss_one (ps_ret (pe_op op_mod (pe_callTy call_int1U (by rfl) (mb _ (by decide)) (by decide +kernel) (pa_cons (pe_op (op_plus K rfl) (pe_op op_fdivW (pe_op op_mul (pv 0) (pv 0)) pe_int) (pe_op op_mul (pv 0) pe_int)) pa_nil)) pe_int)))), ?_⟩
    walk_at "rd"
    exact q
theorem ok_law_tape (D : Def K mg "_law_tape" s_law_tape ["script", "budget"]) (mb : ∀ x ∈ bltns, mg x = none) : Ok P w K mg base 1 "_law_tape" ["script", "budget"] (spTape T K) := by
  refine D.ok sc_law_tape (fun vs H Q E h => ?_) (fun cdv f A outer s H vs Q E hr h => ?_)
  · obtain ⟨a, ns, b, rfl, _⟩ := h
    rfl
  · obtain ⟨a, ns, b, rfl, ha, hl, q⟩ := h
    refine ⟨_, (pss_one (ps_ret (pe_lst (pa_cons (pe_callTy (call_listU K rfl) (by rfl) (mb _ (by decide)) (by decide +kernel) (pa_cons (pv 0) pa_nil)) (pa_cons pe_int (pa_cons pe_int (pa_cons pe_int (pa_cons (pv 1) pa_nil)))))))), ?_⟩
    walk_at "rd"
    refine rd_listL ha fun l nl => ?_
    walk_at "rd"
    refine ⟨by show 5 ≤ sizeLine; decide, fun t nt => ?_⟩
    have hlt : l ≠ t := fun z => by
      rw [← z, upd_same] at nt
      cases nt
    have ntH : H t = none := by
      rw [upd_ne (Ne.symm hlt)] at nt
      exact nt
    exact q t l _ (.of ntH) ((Ext.new nl).trans (.new nt)) ⟨ns, 0, 0, 1, b, upd_same, by rw [upd_ne hlt]; exact upd_same, hlt, by decide, by decide⟩
theorem ok_law_take (D : Def K mg "_law_take" s_law_take ["tape", "many"]) (G_law_mix : Ok P w K mg base 1 "_law_mix" ["number"] spMix) (mb : ∀ x ∈ bltns, mg x = none) : Ok P w K mg base 2 "_law_take" ["tape", "many"] (spTake T) := by
  refine D.ok sc_law_take (fun vs H Q E h => ?_) (fun cdv f A outer s H vs Q E hr h => ?_)
  · obtain ⟨l, t, m, rfl, _⟩ := h
    rfl
  · obtain ⟨l, t, m, rfl, hm, hm2, hT, q⟩ := h
    obtain ⟨ns, pos, rest, st, bud, ht, hlh, hlt, hr0, hs0⟩ := hT
    refine ⟨_, (pss_cons (ps_if (pt_cmpR op_lt (pe_ix (ix_U K rfl) (pv 0) pe_int (fun _ _ => rfl)) (pv 1) (nomark _)) (pss_one (ps_if (pt_cmpR op_lt (pe_ix (ix_U K rfl) (pv 0) pe_int (fun _ _ => rfl)) (pe_callB (call_lenU K rfl) (by rfl) (mb _ (by decide)) (by decide +kernel) (pa_cons (pe_ix (ix_U K rfl) (pv 0) pe_int (fun _ _ => rfl)) pa_nil)) (nomark _)) (pss_cons (ps_set (i := 2) sc_law_take.nd rfl (.inl rfl) (pe_ix (ix_U K rfl) (pe_ix (ix_U K rfl) (pv 0) pe_int (fun _ _ => rfl)) (pe_ix (ix_U K rfl) (pv 0) pe_int (fun _ _ => rfl)) (fun _ _ => rfl)))
   (pss_cons (ps_set (i := 2) sc_law_take.nd rfl (.inl rfl) (pe_ifExp (pt_cmpR op_ge (pv 2) pe_int (nomark _)) (pe_op op_mul pe_int (pv 2)) (pe_op op_sub (pe_op op_mul (pe_un un_neg pe_int) (pv 2)) pe_int)))
   (pss_cons (ps_asg (pe_op (op_plus K rfl) (pe_ix (ix_U K rfl) (pv 0) pe_int (fun _ _ => rfl)) pe_int) (pg_sub (pv 0) pe_int set_list))
   (pss_cons (ps_asg (pe_callO G_law_mix (hr.mono (by decide)) (by rfl) (pa_cons (pe_op (op_plus K rfl) (pe_ix (ix_U K rfl) (pv 0) pe_int (fun _ _ => rfl)) (pv 2)) pa_nil)) (pg_sub (pv 0) pe_int set_list))
   (pss_one (ps_asg (pe_ifExp (pt_cmpR op_ge (pv 2) (pe_op op_pow pe_int pe_int) (nomark _)) (pv 2) (pe_callO G_law_mix (hr.mono (by decide)) (by rfl) (pa_cons (pe_callO G_law_mix (hr.mono (by decide)) (by rfl) (pa_cons (pv 2) pa_nil)) pa_nil))) (pg_sub (pv 0) pe_int set_list))))))) (pss_cons (ps_asg (pe_callO G_law_mix (hr.mono (by decide)) (by rfl) (pa_cons (pe_op (op_plus K rfl) (pe_ix (ix_U K rfl) (pv 0) pe_int (fun _ _ => rfl)) pe_int) pa_nil)) (pg_sub (pv 0) pe_int set_list))
   (pss_one (ps_asg (pe_ix (ix_U K rfl) (pv 0) pe_int (fun _ _ => rfl)) (pg_sub (pv 0) pe_int set_list)))))) pss_nil)
   (pss_cons (ps_set (i := 3) sc_law_take.nd rfl (.inl rfl) (pe_op op_mod (pe_callTy call_int1U (by rfl) (mb _ (by decide)) (by decide +kernel) (pa_cons (pe_ix (ix_U K rfl) (pv 0) pe_int (fun _ _ => rfl)) pa_nil)) (pv 1)))
   (pss_cons (ps_asg (pe_op op_fdivW (pe_ix (ix_U K rfl) (pv 0) pe_int (fun _ _ => rfl)) (pv 1)) (pg_sub (pv 0) pe_int set_list))
   (pss_one (ps_ret (pv 3)))))), ?_⟩
    have fin : ∀ (H1 : Hp) (po : Nat) (re sm : Int) (σ' : L2.St), H1 t = some (.lst [.ref l, .int (po : Int), .int re, .int sm, .int bud]) → H1 l = some (.lst (ns.map V.int)) → 0 ≤ re → 0 ≤ sm → Ext T [t] H H1 →
        ∀ d, 0 ≤ d → d < m → Q (.int d) (upd H1 t (.lst [.ref l, .int (po : Int), .int (re / m), .int sm, .int bud])) := fun H1 po re sm σ' e1 e2 h1 h2 ex d h3 h4 =>
      q d _ h3 h4 (ex.trans (.mut (by simp) e1)) ⟨ns, po, re / m, sm, bud, upd_same, by rw [upd_ne hlt]; exact e2, hlt, Int.ediv_nonneg h1 (by omega), h2⟩
    have wm : ∀ i, CDivW i m := fun i => wide_div hm (b := 64) (by omega) (by decide) (by decide)
    have tail : ∀ (H1 : Hp) (po : Nat) (re sm : Int) (xs : List V), xs = [.ref l, .int (po : Int), .int re, .int sm, .int bud] → H1 t = some (.lst xs) → H1 l = some (.lst (ns.map V.int)) → 0 ≤ re → 0 ≤ sm → Ext T [t] H H1 →
        Q (.int (re % m)) (upd H1 t (.lst (xs.set 2 (.int (re / m))))) := fun H1 po re sm xs exs e1 e2 h1 h2 ex => by
      subst exs
      exact fin H1 po re sm [] e1 e2 h1 h2 ex _ (Int.emod_nonneg _ (by omega)) (Int.emod_lt_of_pos _ hm)
    walk_at "rd"
    refine rd_ite (fun h1 => ?_) (fun h1 => ?_)
    · walk_at "rd"
      refine rd_ite (fun h2 => ?_) (fun h2 => ?_)
      · walk_at "rd"
        have hp : pos < ns.length := by
          rw [List.length_map] at h2
          omega
        refine rd_ixL (v := .int ns[pos]) (SqL.of hlh) (atI_nat (by rw [List.getElem?_map, List.getElem?_eq_getElem hp]; rfl)) ?_
        walk_at "rd"
        refine rd_ite (fun h3 => ?_) (fun h3 => ?_)
        · walk_at "rd"
          refine ⟨_, rfl, ?_⟩
          walk_at "rd"
          refine rd_ite (fun h4 => ?_) (fun h4 => ?_)
          · walk_at "rd"
            refine rd_i (wm _) ?_
            walk_at "rd"
            exact tail _ (pos + 1) _ _ _ rfl upd_same (by walk_at "hp") (by omega) (mixI_nn _) (by walk_at "ext")
          · walk_at "rd"
            refine ⟨_, rfl, ?_⟩
            walk_at "rd"
            refine ⟨_, rfl, ?_⟩
            walk_at "rd"
            refine rd_i (wm _) ?_
            walk_at "rd"
            exact tail _ (pos + 1) _ _ _ rfl upd_same (by walk_at "hp") (mixI_nn _) (mixI_nn _) (by walk_at "ext")
        · walk_at "rd"
          refine ⟨_, rfl, ?_⟩
          walk_at "rd"
          refine rd_ite (fun h4 => ?_) (fun h4 => ?_)
          · walk_at "rd"
            refine rd_i (wm _) ?_
            walk_at "rd"
            exact tail _ (pos + 1) _ _ _ rfl upd_same (by walk_at "hp") (by omega) (mixI_nn _) (by walk_at "ext")
          · walk_at "rd"
            refine ⟨_, rfl, ?_⟩
            walk_at "rd"
            refine ⟨_, rfl, ?_⟩
            walk_at "rd"
            refine rd_i (wm _) ?_
            walk_at "rd"
            exact tail _ (pos + 1) _ _ _ rfl upd_same (by walk_at "hp") (mixI_nn _) (mixI_nn _) (by walk_at "ext")
      · walk_at "rd"
        refine ⟨_, rfl, ?_⟩
        walk_at "rd"
        refine rd_i (wm _) ?_
        walk_at "rd"
        exact tail _ pos _ _ _ rfl upd_same (by walk_at "hp") (mixI_nn _) (mixI_nn _) (by walk_at "ext")
    · walk_at "rd"
      refine rd_i (wm _) ?_
      walk_at "rd"
      exact tail H pos rest st _ rfl ht hlh hr0 hs0 .refl
end

open PySem PySem.Spec PyProof.Rows L2
open PySem.W (EachIs)
def digitsS : Str := "0123456789"
structure Cst (mg : Str → Option Value) : Prop where
  c_DIGITS : ∃ t, mg "DIGITS" = some (.str digitsS t)
  c_MAX_DIGITS : ∃ t, mg "MAX_DIGITS" = some (.int 5 t)
section
variable {T : List (Addr × Str)} {P : Program} {w : World} {K : PySem.W.Frag} {mg : Str → Option Value} {base : Heap}
local macro_rules | `(tactic| walk_at "tr") => `(tactic| first
  | assumption
  | exact Ext.refl
  | ((with_reducible refine' Im.x (T := T) (H := ?trH) ?tra ?tre); (case tre => assumption); (case tra => walk_at "tr"))
  | ((with_reducible refine' Im.y (T := T) (H := ?trH) ?tra ?tre ?trt); (case tre => assumption); (case trt => walk_at "tr"); (case tra => walk_at "tr"))
  | ((with_reducible refine' ImAll.x (T := T) (H := ?trH) ?tra ?tre); (case tre => assumption); (case tra => walk_at "tr"))
  | ((with_reducible refine' ImAll.y (T := T) (H := ?trH) ?tra ?tre ?trt); (case tre => assumption); (case trt => walk_at "tr"); (case tra => walk_at "tr"))
  | ((with_reducible refine' Ls.x (T := T) (H := ?trH) ?tra ?tre); (case tre => assumption); (case tra => walk_at "tr"))
  | ((with_reducible refine' Ls.y (T := T) (H := ?trH) ?tra ?tre ?trn ?trt); (case tre => assumption); (case trt => walk_at "tr"); (case trn => walk_at "tr"); (case tra => walk_at "tr"))
  | ((with_reducible refine' SqP.x (T := T) (H := ?trH) ?tra ?tre); (case tre => assumption); (case tra => walk_at "tr"))
  | ((with_reducible refine' SqP.y (T := T) (H := ?trH) ?tra ?tre ?trt); (case tre => assumption); (case trt => walk_at "tr"); (case tra => walk_at "tr"))
  | ((with_reducible refine' StAt.x (T := T) (H := ?trH) ?tra ?tre); (case tre => assumption); (case tra => walk_at "tr"))
  | ((with_reducible refine' StAt.y (T := T) (H := ?trH) ?tra ?tre ?trt); (case tre => assumption); (case trt => walk_at "tr"); (case tra => walk_at "tr"))
  | ((with_reducible refine' Pools.ext0 (T := T) (H := ?trH) ?tra ?tre); (case tre => assumption); (case tra => walk_at "tr"))
  | ((with_reducible refine' Pools.ext (T := T) (H := ?trH) ?tra ?tre ?trt); (case tre => assumption); (case trt => walk_at "tr"); (case tra => walk_at "tr"))
  | ((with_reducible refine' CL.x (T := T) (H := ?trH) ?tra ?tre); (case tre => assumption); (case tra => walk_at "tr"))
  | ((with_reducible refine' CL.y (T := T) (H := ?trH) ?tra ?tre); (case tre => assumption); (case tra => walk_at "tr"))
  | ((with_reducible refine' Tape.ext (T := T) (H := ?trH) ?tra ?tre); (case tre => assumption); (case tra => walk_at "tr"))
  | ((with_reducible refine' lst.x (T := T) (H := ?trH) ?tra ?tre); (case tre => assumption); (case tra => walk_at "tr"))
  | ((with_reducible refine' lst.y (T := T) (H := ?trH) ?tra ?tre ?trn); (case tre => assumption); (case trn => walk_at "tr"); (case tra => walk_at "tr"))
  | ((with_reducible refine' tup.x (T := T) (H := ?trH) ?tra ?tre); (case tre => assumption); (case tra => walk_at "tr"))
  | ((with_reducible refine' tup.y (T := T) (H := ?trH) ?tra ?tre ?trt); (case tre => assumption); (case trt => walk_at "tr"); (case tra => walk_at "tr"))
  | ((with_reducible refine' frz.x (T := T) (H := ?trH) ?tra ?tre); (case tre => assumption); (case tra => walk_at "tr"))
  | ((with_reducible refine' frz.y (T := T) (H := ?trH) ?tra ?tre ?trt); (case tre => assumption); (case trt => walk_at "tr"); (case tra => walk_at "tr"))
  | ((with_reducible refine' Im.z (T := T) (H := ?trH) ?tra ?tre ?trt); (case tre => assumption); (case trt => assumption); (case tra => walk_at "tr"))
  | ((with_reducible refine' ImAll.z (T := T) (H := ?trH) ?tra ?tre ?trt); (case tre => assumption); (case trt => assumption); (case tra => walk_at "tr"))
  | ((with_reducible refine' StAt.z (T := T) (H := ?trH) ?tra ?tre ?trt); (case tre => assumption); (case trt => assumption); (case tra => walk_at "tr"))
  | ((with_reducible refine' SqP.z (T := T) (H := ?trH) ?tra ?tre ?trt); (case tre => assumption); (case trt => assumption); (case tra => walk_at "tr"))
  | ((with_reducible refine' tup.z (T := T) (H := ?trH) ?tra ?tre ?trt); (case tre => assumption); (case trt => assumption); (case tra => walk_at "tr"))
  | ((with_reducible refine' Ls.z (T := T) (H := ?trH) ?tra ?tre ?trt ?trn); (case tre => assumption); (case trt => assumption); (case trn => assumption); (case tra => walk_at "tr"))
  | ((with_reducible refine' lst.z (T := T) (H := ?trH) ?tra ?tre ?trn); (case tre => assumption); (case trn => assumption); (case tra => walk_at "tr"))
  | ((with_reducible refine' CL.z (T := T) (H := ?trH) ?tra ?tre ?trn); (case tre => assumption); (case trn => assumption); (case tra => walk_at "tr"))
  | ((with_reducible refine' Tape.ne1 (H := ?trH) ?trt ?trn); (case trn => assumption); (case trt => walk_at "tr"))
  | ((with_reducible refine' Ext.trans (H1 := ?trH) ?tra (Ext.any ?tre)); (case tre => assumption); (case tra => walk_at "tr"))
  | ((with_reducible refine' Ext.trans (H1 := ?trH) ?tra ?tre); (case tre => assumption); (case tra => walk_at "tr"))
  | ((with_reducible refine' Ext.back1 (T := T) (H1 := ?trH) ?tre ?trn ?tra); (case tra => assumption); (case trn => walk_at "tr"); (case tre => walk_at "tr"))
  | ((with_reducible refine' Ext.back0 (T := T) (H1 := ?trH) ?tre ?tra); (case tra => assumption); (case tre => walk_at "tr"))
  | ((with_reducible refine' SqT.of ?tra); (case tra => walk_at "tr"))
  | ((with_reducible refine' SqL.of ?tra); (case tra => walk_at "tr")))
local macro_rules | `(tactic| walk_at "al") => `(tactic| (refine ⟨by first | (show _ ≤ sizeLine; decide) | walk_at "sz", ?_⟩; intro alp aln; generalize alG : upd _ alp _ = alH; obtain ⟨aln2, alx, alh⟩ := al_of (T := T) aln alG; clear alG aln))
local macro_rules | `(tactic| walk_at "al0") => `(tactic| (intro alp aln; generalize alG : upd _ alp _ = alH; obtain ⟨aln2, alx, alh⟩ := al_of (T := T) aln alG; clear alG aln))

theorem ok_is_word (D : Def K mg "is_word" s_is_word ["text", "letters", "most"]) (mb : ∀ x ∈ bltns, mg x = none) : Ok P w K mg base 1 "is_word" ["text", "letters", "most"] (spWord T) := by
  refine D.ok sc_is_word (fun vs H Q E h => ?_) (fun cdv f A outer s H vs Q E hr h => ?_)
  · obtain ⟨z, ls, m, rfl, _⟩ := h
    rfl
  · obtain ⟨z, ls, m, rfl, hz, q⟩ := h
    have hz2 : z.length ≤ sizeLine := Nat.le_trans hz (by decide)
    refine ⟨_, (pss_one (ps_ret (pe_and (pe_callB (call_isiU K rfl) (by rfl) (mb _ (by decide)) (by decide +kernel) (pa_cons (pv 0) (pa_cons (pe_bltn (v := .ty "str") (u := .type "str") (by rfl) (mb _ (by decide)) (by decide +kernel) rfl) pa_nil))) (pe_and (pe_chain op_le op_le pe_int (pe_callB (call_lenU K rfl) (by rfl) (mb _ (by decide)) (by decide +kernel) (pa_cons (pv 0) pa_nil)) (pv 2)) (pe_one (pe_callB (call_allU K rfl rfl) (by rfl) (mb _ (by decide)) (by decide +kernel) (pa_cons (pe_lc (own := [("letter", 3)]) (g := gName 3) (tt := tYes) rfl sc_is_word.nd (pi_str (pv 0)) (blkOk_by (N := N_is_word) (sc := defScope s_is_word) (by decide +kernel)) (fun _ _ _ _ _ => (pg_name (i := 3) sc_is_word.nd rfl (Or.inl rfl))) (fun _ _ _ _ _ => pts_nil) (fun _ _ _ _ _ => (pe_cmpR (op_inW K rfl (Room.units65 hr)) (pv 3) (pv 1) rfl))) pa_nil))))))), ?_⟩
    have q' : ∀ (H' : Hp) {b : Bool}, Ext T [] H H' → wordB z ls m = b → Q (.bl b) H' := fun H' b e h => by
      rw [← h]
      exact q H' e
    unfold wordB at q'
    walk_at "rd"
    refine rd_ite (fun h1 => ?_) (fun h1 => ?_)
    · walk_at "rd"
      refine rd_ite (fun h2 => ?_) (fun h2 => ?_)
      · walk_at "rd"
        refine lcg_str T [] (fun _ => true) (fun v => .bl (match v with | .str x => decide ((sg x).headD 0 ∈ sg ls) | _ => false)) (Nat.lt_of_le_of_lt hz (by decide)) (by simp) (fun x hx H' e R S h1 h2 => ?_) (fun D H2 nw e hD => ?_)
        · obtain ⟨c, hc, rfl⟩ := List.mem_map.mp hx
          walk_at "rd"
          exact .inl (rd_inS (h1 rfl H' .refl))
        · walk_at "rd"
          refine rd_all (bs := (sg z).map fun c => decide (c ∈ sg ls)) (SqL.of (by rw [hD, filtT, chrs, List.map_map, List.map_map]; rfl)) (q' _ e ?_)
          rw [decide_eq_true h1, decide_eq_true h2, List.all_map]
          rfl
      · exact q' H .refl (by rw [decide_eq_false h2, Bool.false_and, Bool.and_false])
    · walk_at "rd"
      exact q' H .refl (by rw [decide_eq_false h1, Bool.false_and])
theorem dig_mem (c : Nat) : decide (c ∈ sg digitsS) = digB c := by
  have e : sg digitsS = [48, 49, 50, 51, 52, 53, 54, 55, 56, 57] := by decide +kernel
  rw [e]
  unfold digB
  rw [Bool.eq_iff_iff, decide_eq_true_eq, Bool.and_eq_true, decide_eq_true_eq, decide_eq_true_eq]
  simp only [List.mem_cons, List.not_mem_nil, or_false]
  omega
theorem word_num (z : Str) : wordB z digitsS 5 = (decide (1 ≤ (sg z).length) && (decide ((sg z).length ≤ 5) && (sg z).all digB)) := by
  unfold wordB
  rw [← sg_len z]
  congr 1
  · rw [Bool.eq_iff_iff, decide_eq_true_eq, decide_eq_true_eq]
    omega
  · congr 1
    · rw [Bool.eq_iff_iff, decide_eq_true_eq, decide_eq_true_eq]
      omega
    · congr 1
      funext c
      exact dig_mem c
theorem ok_is_number (D : Def K mg "is_number" s_is_number ["text"]) (mb : ∀ x ∈ bltns, mg x = none) (M : Cst mg) (G_is_word : Ok P w K mg base 1 "is_word" ["text", "letters", "most"] (spWord T)) : Ok P w K mg base 2 "is_number" ["text"] (spTB T fun z => numBL (sg z)) := by
  refine D.ok sc_is_number (fun vs H Q E h => ?_) (fun cdv f A outer s H vs Q E hr h => ?_)
  · obtain ⟨z, rfl, _⟩ := h
    rfl
  · obtain ⟨z, rfl, hz, q⟩ := h
    refine ⟨_, (pss_one (ps_ret (pe_and (pe_callO G_is_word (hr.mono (by decide)) (by rfl) (pa_cons (pv 0) (pa_cons (pe_glS (by rfl) M.c_DIGITS) (pa_cons (pe_glI (by rfl) M.c_MAX_DIGITS) pa_nil)))) (pe_one (pe_or (pe_cmpR (op_eqU K rfl hr.units) (pv 0) pe_str (nomark _)) (pe_one (pe_cmpR (op_neU K rfl hr.units) (pe_ix (ix_U K rfl) (pv 0) pe_int (fun _ _ => rfl)) pe_str (nomark _)))))))), ?_⟩
    walk_at "rd"
    refine ⟨z, digitsS, 5, rfl, hz, fun H1 e1 => ?_⟩
    have q' : ∀ {b : Bool}, numBL (sg z) = b → Q (.bl b) H1 := fun h => by
      rw [← h]
      exact q _ e1
    have eN : numBL (sg z) = (wordB z digitsS 5 && (decide (sg z = [48]) || !decide ((sg z).head? = some 48))) := by
      rw [word_num]
      rfl
    cases hw : wordB z digitsS 5 with
    | false =>
      walk_at "rd"
      exact q' (by rw [eN, hw, Bool.false_and])
    | true =>
      have hw2 := hw
      rw [word_num, Bool.and_eq_true, decide_eq_true_eq] at hw2
      have hz2 : z.length ≤ sizeLine := Nat.le_trans hz (by decide)
      obtain ⟨c, r, hcr⟩ : ∃ c r, sg z = c :: r := by
        cases hs : sg z with
        | nil =>
          rw [hs] at hw2
          exact absurd hw2.1 (by decide)
        | cons c r => exact ⟨c, r, rfl⟩
      have e0 : decide (z = Str.ofString "0") = decide (sg z = [48]) := by
        rw [Bool.eq_iff_iff, decide_eq_true_eq, decide_eq_true_eq]
        exact ⟨fun h => by rw [h]; decide +kernel, fun h => sg_inj (by rw [h]; decide +kernel)⟩
      have e1 : decide ((⟨#[c]⟩ : Str) = Str.ofString "0") = decide ((sg z).head? = some 48) := by
        rw [hcr, Bool.eq_iff_iff, decide_eq_true_eq, decide_eq_true_eq]
        constructor
        · intro h
          have := congrArg sg h
          have h2 : [c] = [48] := this.trans (by decide +kernel)
          rw [(List.cons.inj h2).1]
          rfl
        · intro h
          have h : some c = some 48 := h
          rw [Option.some.inj h]
          exact sg_inj (by decide +kernel)
      walk_at "rd"
      refine rd_ite (fun h1 => ?_) (fun h1 => ?_)
      · refine q' ?_
        rw [eN, hw, ← e0, decide_eq_true h1]
        rfl
      · walk_at "rd"
        refine rd_ixS hz2 (c := c) (by show atI (sg z) ((0 : Nat) : Int) = _; rw [hcr]; exact atI_nat rfl) ?_
        walk_at "rd"
        refine q' ?_
        rw [eN, hw, ← e0, ← e1, decide_eq_false h1]
        rfl
end

open PySem PySem.Spec PyProof.Rows L2
open PySem.W (EachIs)
local macro_rules | `(tactic| walk_at "fslC") => `(tactic| (refine Nat.le_trans (?_ : _ ≤ 100000) (by decide); (try simp only [app_len2, sp_len, nl_len, em_len]); omega))
local macro_rules | `(tactic| walk_at "fssC") => `(tactic| (refine fs_s (by walk_at "fslC") ?_; refine fs_y ⟨by walk_at "fslC", ?_⟩; walk_at "rd"))
local macro_rules | `(tactic| walk_at "fsiC") => `(tactic| (refine fs_i (by omega) ?_; refine fs_y ⟨by walk_at "fslC", ?_⟩; walk_at "rd"))
local macro_rules | `(tactic| walk_at "fscC") => `(tactic| (refine ⟨by walk_at "fslC", ?_⟩; walk_at "rd"))
section
variable {T : List (Addr × Str)} {P : Program} {w : World} {K : PySem.W.Frag} {mg : Str → Option Value} {base : Heap}
local macro_rules | `(tactic| walk_at "tr") => `(tactic| first
  | assumption
  | exact Ext.refl
  | ((with_reducible refine' Im.x (T := T) (H := ?trH) ?tra ?tre); (case tre => assumption); (case tra => walk_at "tr"))
  | ((with_reducible refine' Im.y (T := T) (H := ?trH) ?tra ?tre ?trt); (case tre => assumption); (case trt => walk_at "tr"); (case tra => walk_at "tr"))
  | ((with_reducible refine' ImAll.x (T := T) (H := ?trH) ?tra ?tre); (case tre => assumption); (case tra => walk_at "tr"))
  | ((with_reducible refine' ImAll.y (T := T) (H := ?trH) ?tra ?tre ?trt); (case tre => assumption); (case trt => walk_at "tr"); (case tra => walk_at "tr"))
  | ((with_reducible refine' Ls.x (T := T) (H := ?trH) ?tra ?tre); (case tre => assumption); (case tra => walk_at "tr"))
  | ((with_reducible refine' Ls.y (T := T) (H := ?trH) ?tra ?tre ?trn ?trt); (case tre => assumption); (case trt => walk_at "tr"); (case trn => walk_at "tr"); (case tra => walk_at "tr"))
  | ((with_reducible refine' SqP.x (T := T) (H := ?trH) ?tra ?tre); (case tre => assumption); (case tra => walk_at "tr"))
  | ((with_reducible refine' SqP.y (T := T) (H := ?trH) ?tra ?tre ?trt); (case tre => assumption); (case trt => walk_at "tr"); (case tra => walk_at "tr"))
  | ((with_reducible refine' StAt.x (T := T) (H := ?trH) ?tra ?tre); (case tre => assumption); (case tra => walk_at "tr"))
  | ((with_reducible refine' StAt.y (T := T) (H := ?trH) ?tra ?tre ?trt); (case tre => assumption); (case trt => walk_at "tr"); (case tra => walk_at "tr"))
  | ((with_reducible refine' Pools.ext0 (T := T) (H := ?trH) ?tra ?tre); (case tre => assumption); (case tra => walk_at "tr"))
  | ((with_reducible refine' Pools.ext (T := T) (H := ?trH) ?tra ?tre ?trt); (case tre => assumption); (case trt => walk_at "tr"); (case tra => walk_at "tr"))
  | ((with_reducible refine' CL.x (T := T) (H := ?trH) ?tra ?tre); (case tre => assumption); (case tra => walk_at "tr"))
  | ((with_reducible refine' CL.y (T := T) (H := ?trH) ?tra ?tre); (case tre => assumption); (case tra => walk_at "tr"))
  | ((with_reducible refine' Tape.ext (T := T) (H := ?trH) ?tra ?tre); (case tre => assumption); (case tra => walk_at "tr"))
  | ((with_reducible refine' lst.x (T := T) (H := ?trH) ?tra ?tre); (case tre => assumption); (case tra => walk_at "tr"))
  | ((with_reducible refine' lst.y (T := T) (H := ?trH) ?tra ?tre ?trn); (case tre => assumption); (case trn => walk_at "tr"); (case tra => walk_at "tr"))
  | ((with_reducible refine' tup.x (T := T) (H := ?trH) ?tra ?tre); (case tre => assumption); (case tra => walk_at "tr"))
  | ((with_reducible refine' tup.y (T := T) (H := ?trH) ?tra ?tre ?trt); (case tre => assumption); (case trt => walk_at "tr"); (case tra => walk_at "tr"))
  | ((with_reducible refine' frz.x (T := T) (H := ?trH) ?tra ?tre); (case tre => assumption); (case tra => walk_at "tr"))
  | ((with_reducible refine' frz.y (T := T) (H := ?trH) ?tra ?tre ?trt); (case tre => assumption); (case trt => walk_at "tr"); (case tra => walk_at "tr"))
  | ((with_reducible refine' Im.z (T := T) (H := ?trH) ?tra ?tre ?trt); (case tre => assumption); (case trt => assumption); (case tra => walk_at "tr"))
  | ((with_reducible refine' ImAll.z (T := T) (H := ?trH) ?tra ?tre ?trt); (case tre => assumption); (case trt => assumption); (case tra => walk_at "tr"))
  | ((with_reducible refine' StAt.z (T := T) (H := ?trH) ?tra ?tre ?trt); (case tre => assumption); (case trt => assumption); (case tra => walk_at "tr"))
  | ((with_reducible refine' SqP.z (T := T) (H := ?trH) ?tra ?tre ?trt); (case tre => assumption); (case trt => assumption); (case tra => walk_at "tr"))
  | ((with_reducible refine' tup.z (T := T) (H := ?trH) ?tra ?tre ?trt); (case tre => assumption); (case trt => assumption); (case tra => walk_at "tr"))
  | ((with_reducible refine' Ls.z (T := T) (H := ?trH) ?tra ?tre ?trt ?trn); (case tre => assumption); (case trt => assumption); (case trn => assumption); (case tra => walk_at "tr"))
  | ((with_reducible refine' lst.z (T := T) (H := ?trH) ?tra ?tre ?trn); (case tre => assumption); (case trn => assumption); (case tra => walk_at "tr"))
  | ((with_reducible refine' CL.z (T := T) (H := ?trH) ?tra ?tre ?trn); (case tre => assumption); (case trn => assumption); (case tra => walk_at "tr"))
  | ((with_reducible refine' Tape.ne1 (H := ?trH) ?trt ?trn); (case trn => assumption); (case trt => walk_at "tr"))
  | ((with_reducible refine' Ext.trans (H1 := ?trH) ?tra (Ext.any ?tre)); (case tre => assumption); (case tra => walk_at "tr"))
  | ((with_reducible refine' Ext.trans (H1 := ?trH) ?tra ?tre); (case tre => assumption); (case tra => walk_at "tr"))
  | ((with_reducible refine' Ext.back1 (T := T) (H1 := ?trH) ?tre ?trn ?tra); (case tra => assumption); (case trn => walk_at "tr"); (case tre => walk_at "tr"))
  | ((with_reducible refine' Ext.back0 (T := T) (H1 := ?trH) ?tre ?tra); (case tra => assumption); (case tre => walk_at "tr"))
  | ((with_reducible refine' SqT.of ?tra); (case tra => walk_at "tr"))
  | ((with_reducible refine' SqL.of ?tra); (case tra => walk_at "tr")))
local macro_rules | `(tactic| walk_at "al") => `(tactic| (refine ⟨by first | (show _ ≤ sizeLine; decide) | walk_at "sz", ?_⟩; intro alp aln; generalize alG : upd _ alp _ = alH; obtain ⟨aln2, alx, alh⟩ := al_of (T := T) aln alG; clear alG aln))
local macro_rules | `(tactic| walk_at "al0") => `(tactic| (intro alp aln; generalize alG : upd _ alp _ = alH; obtain ⟨aln2, alx, alh⟩ := al_of (T := T) aln alG; clear alG aln))

theorem ok_entry_line (D : Def K mg "entry_line" s_entry_line ["entry"]) (mb : ∀ x ∈ bltns, mg x = none) : Ok P w K mg base 1 "entry_line" ["entry"] spEntLine := by
  refine D.ok sc_entry_line (fun vs H Q E h => ?_) (fun cdv f A outer s H vs Q E hr h => ?_)
  · obtain ⟨v, e, rfl, _⟩ := h
    rfl
  · obtain ⟨v, e, rfl, hv, hok, q⟩ := h
    refine ⟨_, (pss_cons (ps_asg (pv 0) (pg_tupU (n := 3) K rfl rfl (pgs_cons (pg_name (i := 1) sc_entry_line.nd rfl (.inl rfl)) (pgs_cons (pg_name (i := 2) sc_entry_line.nd rfl (.inl rfl)) (pgs_cons (pg_name (i := 3) sc_entry_line.nd rfl (.inl rfl)) pgs_nil)))))
   (pss_one (ps_ret (pe_fstr (.cons (pe_fmt (pv 1)) (.cons pe_str (.cons (pe_fmt (pv 2)) (.cons pe_str (.cons (pe_fmt (pv 3)) (.cons pe_str PJ.nil)))))))))), ?_⟩
    obtain ⟨p, rfl, hp⟩ := hv.ent'
    walk_at "rdn"
    refine rd_seq ?_
    walk_at "rdn"
    refine rd_gtup (SqP.t hp) rfl (rd_gcons (rd_name (rd_gcons (rd_name (rd_gcons (rd_name (rd_gnil ?_)))))))
    walk_at "rd"
    have l1 := word_len hok.1
    have l2 := num_len hok.2.1
    have l3 := num_len hok.2.2
    have b2 := hok.2.1
    have b3 := hok.2.2
    walk_at "fssC"
    walk_at "fscC"
    walk_at "fsiC"
    walk_at "fscC"
    walk_at "fsiC"
    walk_at "fscC"
    have e1 : ((((((Str.empty ++ e.1) ++ Str.ofString " ") ++ Str.ofString (toString ((e.2.1 : Nat) : Int))) ++ Str.ofString " ") ++ Str.ofString (toString ((e.2.2 : Nat) : Int))) ++ Str.ofString "\n") = S (lineL e ++ [10]) := sg_inj (by
      rw [sg_app, sg_app, sg_app, sg_app, sg_app, sg_app, sg_num, sg_num, sg_sp, sg_nl, sg_em, sg_S]
      unfold lineL lineP
      simp [TL.joinL])
    rw [e1]
    exact q
theorem rd_intS {l : List Nat} {P : Int → Prop} (h : numBL l = true) (q : P (NumText.digitsVal l : Nat)) : ∃ (a : Str) (n : Int), [V.str (S l)] = [.str a] ∧ PySem.intText? a = some n ∧ a.length ≤ 640 ∧ P n := by
  unfold numBL at h
  rw [Bool.and_eq_true, Bool.and_eq_true, Bool.and_eq_true, decide_eq_true_eq, decide_eq_true_eq] at h
  obtain ⟨⟨h1, h2, h3⟩, _⟩ := h
  have hl : (S l).length = l.length := by rw [← sg_len]
  exact ⟨_, _, rfl, SX.int_S h3 (fun e => by rw [e] at h1; exact absurd h1 (by decide)) (by omega), by omega, q⟩
theorem isEnt3 (es : List Ent) (x y z : List Nat) : isEntL es [x, y, z] = if (numBL y && numBL z) = true then isEntV es (S x, NumText.digitsVal y, NumText.digitsVal z) else false := by
  unfold isEntL
  show (match (if (numBL y && numBL z) = true then some (S x, NumText.digitsVal y, NumText.digitsVal z) else none) with | some e => isEntV es e | none => false) = _
  cases numBL y && numBL z <;> rfl
theorem isEnt_len {es : List Ent} {ws : List (List Nat)} (h : ws.length ≠ 3) : isEntL es ws = false := by
  unfold isEntL entL
  split
  · rename_i e he
    split at he
    · exact absurd rfl h
    · cases he
  · rfl
theorem ok_is_entry (D : Def K mg "is_entry" s_is_entry ["entries", "words"]) (mb : ∀ x ∈ bltns, mg x = none) (G_is_number : Ok P w K mg base 2 "is_number" ["text"] (spTB T fun z => numBL (sg z))) : Ok P w K mg base 3 "is_entry" ["entries", "words"] (spIsEnt T) := by
  refine D.ok sc_is_entry (fun vs H Q E h => ?_) (fun cdv f A outer s H vs Q E hr h => ?_)
  · obtain ⟨a, b, es, ws, rfl, _⟩ := h
    rfl
  · obtain ⟨a, b, es, ws, rfl, ⟨xs, hxs, hxi⟩, hb, hel, hwl, hwx, q⟩ := h
    refine ⟨_, (pss_cons (ps_if (PW.pt (pw_or (pt_cmpR (op_neU K rfl hr.units) (pe_callB (call_lenU K rfl) (by rfl) (mb _ (by decide)) (by decide +kernel) (pa_cons (pv 1) pa_nil)) pe_int (nomark _)) (pw_or (pt_not (pt_E (pe_callO G_is_number (hr.mono (by decide)) (by rfl) (pa_cons (pe_ix (ix_U K rfl) (pv 1) pe_int (fun _ _ => rfl)) pa_nil)))) (pw_or1 (pt_not (pt_E (pe_callO G_is_number (hr.mono (by decide)) (by rfl) (pa_cons (pe_ix (ix_U K rfl) (pv 1) pe_int (fun _ _ => rfl)) pa_nil)))))))) (pss_one (ps_ret pe_bl)) pss_nil)
   (pss_cons (ps_set (i := 2) sc_is_entry.nd rfl (.inl rfl) (pe_ifExp (pt_truU K rfl (pv 0)) (pe_ix (ix_U K rfl) (pe_ix (ix_U K rfl) (pv 0) (pe_un un_neg pe_int) (fun _ _ => rfl)) pe_int (fun _ _ => rfl)) pe_int))
   (pss_cons (ps_if (pt_cmpR (op_eqU K rfl hr.units) (pe_op op_mod (pe_callB (call_lenU K rfl) (by rfl) (mb _ (by decide)) (by decide +kernel) (pa_cons (pv 0) pa_nil)) pe_int) pe_int (nomark _)) (pss_one (ps_ret (pe_and (pe_cmpR (op_eqU K rfl hr.units) (pe_ix (ix_U K rfl) (pv 1) pe_int (fun _ _ => rfl)) pe_str (nomark _)) (pe_and (pe_cmpR op_gt (pe_callTy call_int_str (by rfl) (mb _ (by decide)) (by decide +kernel) (pa_cons (pe_ix (ix_U K rfl) (pv 1) pe_int (fun _ _ => rfl)) pa_nil)) (pv 2) (nomark _)) (pe_one (pe_cmpR (op_eqU K rfl hr.units) (pe_callTy call_int_str (by rfl) (mb _ (by decide)) (by decide +kernel) (pa_cons (pe_ix (ix_U K rfl) (pv 1) pe_int (fun _ _ => rfl)) pa_nil)) (pe_op (op_plus K rfl) (pe_op op_fdivW (pe_callB (call_lenU K rfl) (by rfl) (mb _ (by decide)) (by decide +kernel) (pa_cons (pv 0) pa_nil)) pe_int) pe_int) (nomark _))))))) pss_nil)
   (pss_one (ps_ret (pe_and (pe_cmpR (op_eqU K rfl hr.units) (pe_ix (ix_U K rfl) (pv 1) pe_int (fun _ _ => rfl)) pe_str (nomark _)) (pe_and (pe_cmpR op_ge (pe_callTy call_int_str (by rfl) (mb _ (by decide)) (by decide +kernel) (pa_cons (pe_ix (ix_U K rfl) (pv 1) pe_int (fun _ _ => rfl)) pa_nil)) (pv 2) (nomark _)) (pe_one (pe_cmpR (op_eqU K rfl hr.units) (pe_callTy call_int_str (by rfl) (mb _ (by decide)) (by decide +kernel) (pa_cons (pe_ix (ix_U K rfl) (pv 1) pe_int (fun _ _ => rfl)) pa_nil)) (pe_ix (ix_U K rfl) (pe_ix (ix_U K rfl) (pv 0) (pe_un un_neg pe_int) (fun _ _ => rfl)) pe_int (fun _ _ => rfl)) (nomark _)))))))))), ?_⟩
    have hxl : xs.length = es.length := by rw [hxi.len, List.length_map]
    by_cases h3 : ws.length = 3
    · obtain ⟨x, y, z, rfl⟩ : ∃ x y z, ws = [x, y, z] := by
        match ws, h3 with
        | [x, y, z], _ => exact ⟨x, y, z, rfl⟩
      have hb' : H b = some (.lst [V.str (S x), .str (S y), .str (S z)]) := hb
      have hyl : (S y).length ≤ 1000 := by
        rw [← sg_len]
        exact hwx y (by simp)
      have hzl : (S z).length ≤ 1000 := by
        rw [← sg_len]
        exact hwx z (by simp)
      rw [isEnt3] at q
      refine rd_cut (fun σ' H' => σ' = [some (.ref a), some (.ref b), none] ∧ Ext T [] H H' ∧ numBL y = true ∧ numBL z = true) (fun nx' hnx => ?_) (fun σ' H' h => ?_)
      · walk_at "rd"
        refine rd_iteN (fun h => absurd rfl h) (fun _ => ?_)
        walk_at "rd"
        refine ⟨S y, rfl, hyl, fun H1 e1 => ?_⟩
        have hb1 := lst.x hb' e1
        refine ⟨_, rfl, ?_⟩
        refine rd_iteNB (b := numBL y) (fun hy => ?_) (fun hy => ?_)
        · rw [hy, Bool.false_and] at q
          walk_at "rd"
          exact q _ e1
        · walk_at "rd"
          refine ⟨S z, rfl, hzl, fun H2 e2 => ?_⟩
          refine ⟨_, rfl, ?_⟩
          refine rd_iteNB (b := numBL z) (fun hz => ?_) (fun hz => ?_)
          · rw [hz, Bool.and_false] at q
            walk_at "rd"
            exact q _ (e1.trans e2)
          · walk_at "rd"
            exact hnx _ _ ⟨rfl, e1.trans e2, hy, hz⟩
      · obtain ⟨rfl, e1, hy, hz⟩ := h
        rw [hy, hz, if_pos (show (true && true) = true from rfl)] at q
        have hxs1 := lst.x hxs e1
        have hxi1 := hxi.x e1
        have hb1 := lst.x hb' e1
        walk_at "rdn"
        refine rd_cut (fun σ' H2 => σ' = [some (.ref a), some (.ref b), some (.int (lastM es : Int))] ∧ H2 = H') (fun nx' hnx => ?_) (fun σ' H2 h => ?_)
        · walk_at "rd"
          refine rd_tru ?_
          walk_at "rd"
          refine rd_truL (SqL.of hxs1) ?_
          by_cases hne : es = []
          · subst hne
            have hxe : xs = [] := List.length_eq_zero_iff.mp (by rw [hxl]; rfl)
            subst hxe
            walk_at "rd"
            exact hnx _ _ ⟨rfl, rfl⟩
          · obtain ⟨e, p, hl1, hl2, hl3⟩ := ent_last hxi1 hne
            have hxe : (!xs.isEmpty) = true := by
              cases xs with
              | nil => exact absurd (List.length_eq_zero_iff.mp hxl.symm) hne
              | cons _ _ => rfl
            rw [hxe]
            walk_at "rd"
            refine rd_ixL (SqL.of hxs1) hl2 ?_
            walk_at "rd"
            refine rd_ixT (i := 2) (SqP.t hl3) (v := .int (e.2.2 : Int)) rfl ?_
            walk_at "rd"
            exact hnx _ _ ⟨by rw [lastM_of hl1]; rfl, rfl⟩
        · obtain ⟨rfl, rfl⟩ := h
          have eas : decide (S x = askedS) = decide (S x = Str.ofString "asked") := rfl
          have edn : decide (S x = doneS) = decide (S x = Str.ofString "done") := rfl
          unfold isEntV at q
          rw [eas, edn] at q
          walk_at "rd"
          refine rd_ite (fun hev => ?_) (fun hev => ?_)
          · have hev2 : es.length % 2 = 0 := by omega
            rw [if_pos hev2] at q
            walk_at "rd"
            refine rd_ite (fun c1 => ?_) (fun c1 => ?_)
            · rw [decide_eq_true c1, Bool.true_and] at q
              walk_at "rd"
              refine rd_intS hz ?_
              walk_at "rd"
              refine rd_ite (fun c2 => ?_) (fun c2 => ?_)
              · rw [decide_eq_true (show lastM es < NumText.digitsVal z by show _; omega), Bool.true_and] at q
                walk_at "rd"
                refine rd_intS hy ?_
                walk_at "rd"
                rw [hxl]
                have h := q _ e1
                have ed : decide ((NumText.digitsVal y : Int) = (es.length : Int) / 2 + 1) = decide (NumText.digitsVal y = es.length / 2 + 1) := by
                  rw [Bool.eq_iff_iff, decide_eq_true_eq, decide_eq_true_eq]
                  omega
                rw [ed]
                exact h
              · rw [decide_eq_false (show ¬ lastM es < NumText.digitsVal z by show _; omega), Bool.false_and] at q
                exact q _ e1
            · rw [decide_eq_false c1, Bool.false_and] at q
              exact q _ e1
          · have hev2 : ¬ es.length % 2 = 0 := by omega
            rw [if_neg hev2] at q
            walk_at "rd"
            refine rd_ite (fun c1 => ?_) (fun c1 => ?_)
            · rw [decide_eq_true c1, Bool.true_and] at q
              walk_at "rd"
              refine rd_intS hz ?_
              walk_at "rd"
              refine rd_ite (fun c2 => ?_) (fun c2 => ?_)
              · rw [decide_eq_true (show lastM es ≤ NumText.digitsVal z by show _; omega), Bool.true_and] at q
                walk_at "rd"
                refine rd_intS hy ?_
                walk_at "rd"
                have hne : es ≠ [] := fun e => by
                  rw [e] at hev2
                  exact hev2 rfl
                obtain ⟨e, p, hl1, hl2, hl3⟩ := ent_last hxi1 hne
                refine rd_ixL (SqL.of hxs1) hl2 ?_
                walk_at "rd"
                refine rd_ixT (i := 1) (SqP.t hl3) (v := .int (e.2.1 : Int)) rfl ?_
                walk_at "rd"
                have h := q _ e1
                rw [lastK_of hl1] at h
                have ed : decide ((NumText.digitsVal y : Int) = (e.2.1 : Int)) = decide (NumText.digitsVal y = e.2.1) := by
                  rw [Bool.eq_iff_iff, decide_eq_true_eq, decide_eq_true_eq]
                  omega
                rw [ed]
                exact h
              · rw [decide_eq_false (show ¬ lastM es ≤ NumText.digitsVal z by show _; omega), Bool.false_and] at q
                exact q _ e1
            · rw [decide_eq_false c1, Bool.false_and] at q
              exact q _ e1
    · walk_at "rd"
      refine rd_iteN (fun _ => ?_) (fun h => absurd (by rw [List.length_map, List.length_map] at h; omega) h3)
      walk_at "rd"
      rw [isEnt_len h3] at q
      exact q _ .refl
end

open PySem PySem.Spec PyProof.Rows L2
open PySem.W (EachIs)
section
variable {T : List (Addr × Str)} {P : Program} {w : World} {K : PySem.W.Frag} {mg : Str → Option Value} {base : Heap}
local macro_rules | `(tactic| walk_at "tr") => `(tactic| first
  | assumption
  | exact Ext.refl
  | ((with_reducible refine' Im.x (T := T) (H := ?trH) ?tra ?tre); (case tre => assumption); (case tra => walk_at "tr"))
  | ((with_reducible refine' Im.y (T := T) (H := ?trH) ?tra ?tre ?trt); (case tre => assumption); (case trt => walk_at "tr"); (case tra => walk_at "tr"))
  | ((with_reducible refine' ImAll.x (T := T) (H := ?trH) ?tra ?tre); (case tre => assumption); (case tra => walk_at "tr"))
  | ((with_reducible refine' ImAll.y (T := T) (H := ?trH) ?tra ?tre ?trt); (case tre => assumption); (case trt => walk_at "tr"); (case tra => walk_at "tr"))
  | ((with_reducible refine' Ls.x (T := T) (H := ?trH) ?tra ?tre); (case tre => assumption); (case tra => walk_at "tr"))
  | ((with_reducible refine' Ls.y (T := T) (H := ?trH) ?tra ?tre ?trn ?trt); (case tre => assumption); (case trt => walk_at "tr"); (case trn => walk_at "tr"); (case tra => walk_at "tr"))
  | ((with_reducible refine' SqP.x (T := T) (H := ?trH) ?tra ?tre); (case tre => assumption); (case tra => walk_at "tr"))
  | ((with_reducible refine' SqP.y (T := T) (H := ?trH) ?tra ?tre ?trt); (case tre => assumption); (case trt => walk_at "tr"); (case tra => walk_at "tr"))
  | ((with_reducible refine' StAt.x (T := T) (H := ?trH) ?tra ?tre); (case tre => assumption); (case tra => walk_at "tr"))
  | ((with_reducible refine' StAt.y (T := T) (H := ?trH) ?tra ?tre ?trt); (case tre => assumption); (case trt => walk_at "tr"); (case tra => walk_at "tr"))
  | ((with_reducible refine' Pools.ext0 (T := T) (H := ?trH) ?tra ?tre); (case tre => assumption); (case tra => walk_at "tr"))
  | ((with_reducible refine' Pools.ext (T := T) (H := ?trH) ?tra ?tre ?trt); (case tre => assumption); (case trt => walk_at "tr"); (case tra => walk_at "tr"))
  | ((with_reducible refine' CL.x (T := T) (H := ?trH) ?tra ?tre); (case tre => assumption); (case tra => walk_at "tr"))
  | ((with_reducible refine' CL.y (T := T) (H := ?trH) ?tra ?tre); (case tre => assumption); (case tra => walk_at "tr"))
  | ((with_reducible refine' Tape.ext (T := T) (H := ?trH) ?tra ?tre); (case tre => assumption); (case tra => walk_at "tr"))
  | ((with_reducible refine' lst.x (T := T) (H := ?trH) ?tra ?tre); (case tre => assumption); (case tra => walk_at "tr"))
  | ((with_reducible refine' lst.y (T := T) (H := ?trH) ?tra ?tre ?trn); (case tre => assumption); (case trn => walk_at "tr"); (case tra => walk_at "tr"))
  | ((with_reducible refine' tup.x (T := T) (H := ?trH) ?tra ?tre); (case tre => assumption); (case tra => walk_at "tr"))
  | ((with_reducible refine' tup.y (T := T) (H := ?trH) ?tra ?tre ?trt); (case tre => assumption); (case trt => walk_at "tr"); (case tra => walk_at "tr"))
  | ((with_reducible refine' frz.x (T := T) (H := ?trH) ?tra ?tre); (case tre => assumption); (case tra => walk_at "tr"))
  | ((with_reducible refine' frz.y (T := T) (H := ?trH) ?tra ?tre ?trt); (case tre => assumption); (case trt => walk_at "tr"); (case tra => walk_at "tr"))
  | ((with_reducible refine' Im.z (T := T) (H := ?trH) ?tra ?tre ?trt); (case tre => assumption); (case trt => assumption); (case tra => walk_at "tr"))
  | ((with_reducible refine' ImAll.z (T := T) (H := ?trH) ?tra ?tre ?trt); (case tre => assumption); (case trt => assumption); (case tra => walk_at "tr"))
  | ((with_reducible refine' StAt.z (T := T) (H := ?trH) ?tra ?tre ?trt); (case tre => assumption); (case trt => assumption); (case tra => walk_at "tr"))
  | ((with_reducible refine' SqP.z (T := T) (H := ?trH) ?tra ?tre ?trt); (case tre => assumption); (case trt => assumption); (case tra => walk_at "tr"))
  | ((with_reducible refine' tup.z (T := T) (H := ?trH) ?tra ?tre ?trt); (case tre => assumption); (case trt => assumption); (case tra => walk_at "tr"))
  | ((with_reducible refine' Ls.z (T := T) (H := ?trH) ?tra ?tre ?trt ?trn); (case tre => assumption); (case trt => assumption); (case trn => assumption); (case tra => walk_at "tr"))
  | ((with_reducible refine' lst.z (T := T) (H := ?trH) ?tra ?tre ?trn); (case tre => assumption); (case trn => assumption); (case tra => walk_at "tr"))
  | ((with_reducible refine' CL.z (T := T) (H := ?trH) ?tra ?tre ?trn); (case tre => assumption); (case trn => assumption); (case tra => walk_at "tr"))
  | ((with_reducible refine' Tape.ne1 (H := ?trH) ?trt ?trn); (case trn => assumption); (case trt => walk_at "tr"))
  | ((with_reducible refine' Ext.trans (H1 := ?trH) ?tra (Ext.any ?tre)); (case tre => assumption); (case tra => walk_at "tr"))
  | ((with_reducible refine' Ext.trans (H1 := ?trH) ?tra ?tre); (case tre => assumption); (case tra => walk_at "tr"))
  | ((with_reducible refine' Ext.back1 (T := T) (H1 := ?trH) ?tre ?trn ?tra); (case tra => assumption); (case trn => walk_at "tr"); (case tre => walk_at "tr"))
  | ((with_reducible refine' Ext.back0 (T := T) (H1 := ?trH) ?tre ?tra); (case tra => assumption); (case tre => walk_at "tr"))
  | ((with_reducible refine' SqT.of ?tra); (case tra => walk_at "tr"))
  | ((with_reducible refine' SqL.of ?tra); (case tra => walk_at "tr")))
local macro_rules | `(tactic| walk_at "al") => `(tactic| (refine ⟨by first | (show _ ≤ sizeLine; decide) | walk_at "sz", ?_⟩; intro alp aln; generalize alG : upd _ alp _ = alH; obtain ⟨aln2, alx, alh⟩ := al_of (T := T) aln alG; clear alG aln))
local macro_rules | `(tactic| walk_at "al0") => `(tactic| (intro alp aln; generalize alG : upd _ alp _ = alH; obtain ⟨aln2, alx, alh⟩ := al_of (T := T) aln alG; clear alG aln))

theorem rd_raise {C : Addr} {fld : Str} {W : WX} {ta : TA} {D : Ends} {σ : L2.St} {H : Hp} (q : ta σ H fun vs H1 => ∃ v, vs = [v] ∧ ShowV v ∧ ∀ d, H1 d = none → W (.ref C) (some d) σ (upd H1 d (.xd [(fld, v)]))) : tRaiseSup C fld W ta D σ H := q
theorem FO_BadText : FldOk "line" := fld_line
theorem ok_read_book {C fI : Addr} (D : Def K mg "read_book" s_read_book ["text"]) (mb : ∀ x ∈ bltns, mg x = none) (T_BadText : ExcT P K mg "BadText" "line" C fI)
    (G_is_entry : Ok P w K mg base 3 "is_entry" ["entries", "words"] (spIsEnt T)) : OkX P w K mg base 4 "read_book" ["text"] (spRead T C) := by
  refine D.okX sc_read_book (fun vs H Q E h => ?_) (fun cdv f A outer s H vs Q E hr h => ?_)
  · obtain ⟨z, rfl, _⟩ := h
    rfl
  · obtain ⟨z, rfl, hz, q1, q2⟩ := h
    refine ⟨_, (pss_cons (ps_set (i := 1) sc_read_book.nd rfl (.inl rfl) (pe_lst pa_nil))
   (pss_cons (ps_for (passes_of rfl) rfl (pi_enum1 (by rfl) (mb _ (by decide)) (pa_cons (pe_slice (sl_U K rfl) (pe_m1 PySem.F.slot_str_split PySem.F.type_str_split mt_splitU (pv 0) pe_str) po_none (po_some (pe_un un_neg pe_int))) pa_nil)) (pg_tupU (n := 2) K rfl rfl (pgs_cons (pg_name (i := 2) sc_read_book.nd rfl (.inl rfl)) (pgs_cons (pg_name (i := 3) sc_read_book.nd rfl (.inl rfl)) pgs_nil))) (pss_cons (ps_set (i := 4) sc_read_book.nd rfl (.inl rfl) (pe_m1 PySem.F.slot_str_split PySem.F.type_str_split mt_splitU (pv 3) pe_str))
   (pss_cons (ps_if (pt_not (pt_E (pe_callO G_is_entry (hr.mono (by decide)) (by rfl) (pa_cons (pv 1) (pa_cons (pv 4) pa_nil))))) (pss_one (ps_raiseSup rfl FO_BadText T_BadText.toSupTxt hr (takes_of rfl rfl rfl rfl) (pa_cons (pv 2) pa_nil))) pss_nil)
   (pss_one (ps_expr (pe_bm PySem.F.plainAttrs_list PySem.F.slot_list_append PySem.F.type_list_append mt_append (pv 1) (pa_cons (pe_tup (pa_cons (pe_ix (ix_U K rfl) (pv 4) pe_int (fun _ _ => rfl)) (pa_cons (pe_callTy call_int_str (by rfl) (mb _ (by decide)) (by decide +kernel) (pa_cons (pe_ix (ix_U K rfl) (pv 4) pe_int (fun _ _ => rfl)) pa_nil)) (pa_cons (pe_callTy call_int_str (by rfl) (mb _ (by decide)) (by decide +kernel) (pa_cons (pe_ix (ix_U K rfl) (pv 4) pe_int (fun _ _ => rfl)) pa_nil)) pa_nil)))) pa_nil)))))))
   (pss_one (ps_ret (pv 1))))), ?_⟩
    walk_at "rdn"
    refine rd_seq ?_
    walk_at "rdn"
    refine ⟨by walk_at "sz", fun pe npe => ?_⟩
    obtain ⟨npe, e1, hpe⟩ := alL (T := T) npe ([] : List V)
    generalize upd H pe _ = H1 at e1 hpe ⊢
    walk_at "rd"
    refine rd_enum1 ?_
    walk_at "rd"
    refine rd_split (b := Str.ofString "\n") (by decide +kernel) (Nat.le_trans (show z.length + 2 ≤ 1002 by omega) (by decide)) fun ps nps => ?_
    rw [split_nl]
    obtain ⟨nps, e2, hps⟩ := alL (T := T) nps (((TL.spl [10] 0 [] (sg z)).map S).map V.str)
    have hpe := lst.x hpe e2
    generalize upd H1 ps _ = H2 at e2 hps hpe ⊢
    walk_at "rd"
    refine rd_slL (SqL.of hps) fun pl npl => ?_
    obtain ⟨npl, e3, hpl⟩ := alL (T := T) npl (cutV (((TL.spl [10] 0 [] (sg z)).map S).map V.str) none (some (-1)))
    have npl1 : pe ≠ pl := npl.lst hpe
    have hpe := lst.x hpe e3
    generalize upd H2 pl _ = H3 at e3 hpl hpe ⊢
    rw [cutV_neg, ← List.map_dropLast, ← List.map_dropLast] at hpl
    have hpl : H3 pl = some (.lst (((linesL (sg z)).map S).map V.str)) := hpl
    have hll := lines_len (sg z)
    have hle : ∀ x ∈ linesL (sg z), x.length ≤ 1000 := fun x hx => by
      have h := lines_each hx
      rw [sg_len] at h
      omega
    rw [sg_len] at hll
    generalize linesL (sg z) = ls at q1 q2 hpl hll hle
    have x3 := (e1.trans e2).trans e3
    walk_at "rd"
    refine ⟨pl, _, rfl, SqL.of hpl, ?_⟩
    refine forg_it (walk_enum1 (xs := (ls.map S).map V.str)) (fun i σ' H' => ∃ (es : List Ent) (x2 x3 x4 : Option V), σ' = [some (.str z), some (.ref pe), x2, x3, x4] ∧ Ext T [] H H' ∧ Ls H' pe (es.map entD) ∧ es.length = i ∧ H' pl = some (.lst ((ls.map S).map V.str)) ∧ rdL ls [] 1 = rdL (ls.drop i) es (i + 1))
      ⟨[], _, _, _, rfl, x3, ⟨[], hpe, .nil⟩, rfl, hpl, rfl⟩ (fun i σ' H' _ h => ?_) (fun i x σ' H' H4 hi h y => ?_) (fun σ' H' h => ?_)
    · obtain ⟨es, x2, x3, x4, rfl, eH, hes, hlen, hl, hrd⟩ := h
      exact SqL.of hl
    · obtain ⟨es, x2, x3, x4, rfl, eH, ⟨xs, hxs, hxi⟩, hlen, hl, hrd⟩ := h
      obtain ⟨tq, v1, v2, rfl, ntq, rfl, e1v, e2v⟩ := y
      cases Option.some.inj e1v
      have e2v : (List.map V.str (List.map S ls))[i]? = some v2 := e2v
      rw [List.getElem?_map, List.getElem?_map] at e2v
      obtain ⟨s', h1, rfl⟩ := Option.map_eq_some_iff.mp e2v
      obtain ⟨l, hli, rfl⟩ := Option.map_eq_some_iff.mp h1
      obtain ⟨ntq, e5, htq⟩ := alT (T := T) ntq [V.int ((i : Nat) + 1), .str (S l)]
      have hxs := lst.x hxs e5
      have hxi := hxi.x e5
      have hl := lst.x hl e5
      have eH5 := eH.trans e5
      generalize upd H' tq _ = H5 at e5 htq hxs hxi hl eH5 ⊢
      have hil : i < ls.length := (List.getElem?_eq_some_iff.mp hli).1
      have hlm := List.mem_of_getElem? hli
      have hll2 : l.length ≤ 1000 := hle l hlm
      have hdr : ls.drop i = l :: ls.drop (i + 1) := by
        rw [List.drop_eq_getElem_cons hil]
        rw [List.getElem?_eq_getElem hil] at hli
        rw [Option.some.inj hli]
      rw [hdr] at hrd
      refine rd_gtup (SqT.of htq) rfl (rd_gcons (rd_name (rd_gcons (rd_name (rd_gnil ?_)))))
      walk_at "rdn"
      refine rd_seq ?_
      walk_at "rdn"
      refine rd_split (b := Str.ofString " ") (by decide +kernel) (Nat.le_trans (show (S l).length + 2 ≤ 1002 by rw [← sg_len]; show l.length + 2 ≤ 1002; omega) (by decide)) fun pw npw => ?_
      rw [split_sp]
      obtain ⟨npw, e6, hpw⟩ := alL (T := T) npw (((wordsL l).map S).map V.str)
      have hxs := lst.x hxs e6
      have hxi := hxi.x e6
      have hl := lst.x hl e6
      generalize upd H5 pw _ = H6 at e6 hpw hxs hxi hl ⊢
      walk_at "rdn"
      refine rd_seq ?_
      walk_at "rd"
      refine ⟨pe, pw, es, wordsL l, rfl, ⟨xs, hxs, hxi⟩, hpw, by omega, by have := words_len l; omega, fun x hx => Nat.le_trans (words_each hx) hll2, fun H7 e7 => ?_⟩
      have hxs := lst.x hxs e7
      have hxi := hxi.x e7
      have hl := lst.x hl e7
      have hpw := lst.x hpw e7
      have x7 := (eH5.trans e6).trans e7
      refine ⟨_, rfl, ?_⟩
      refine rd_iteNB (b := isEntL es (wordsL l)) (fun hN => ?_) (fun hY => ?_)
      · have hr : rdL ls [] 1 = .error (i + 1) := by
          rw [hrd]
          unfold isEntL at hN
          show (match entL (wordsL l) with
            | some e => if isEntV es e = true then rdL (ls.drop (i + 1)) (es ++ [e]) (i + 1 + 1) else .error (i + 1)
            | none => .error (i + 1)) = _
          cases he : entL (wordsL l) with
          | none => rfl
          | some e =>
            rw [he] at hN
            show (if isEntV es e = true then _ else _) = _
            rw [if_neg (by rw [show isEntV es e = false from hN]; decide)]
        walk_at "rd"
        refine rd_raise ?_
        walk_at "rd"
        have ei : ((i : Nat) : Int) + 1 = ((i + 1 : Nat) : Int) := by omega
        rw [ei]
        refine ⟨_, rfl, .inr ⟨_, rfl, ?_⟩, fun d hd => q2 (i + 1) hr d _ x7 hd⟩
        show (i + 1).log2 < 1920
        exact Nat.lt_of_lt_of_le ((Nat.log2_lt (by omega)).mpr (show i + 1 < 2 ^ 10 by omega)) (by decide)
      · unfold isEntL at hY
        cases he : entL (wordsL l) with
        | none =>
          rw [he] at hY
          cases hY
        | some e =>
          rw [he] at hY
          have hY : isEntV es e = true := hY
          have hr : rdL ls [] 1 = rdL (ls.drop (i + 1)) (es ++ [e]) (i + 1 + 1) := by
            rw [hrd]
            show (match entL (wordsL l) with
              | some e => if isEntV es e = true then rdL (ls.drop (i + 1)) (es ++ [e]) (i + 1 + 1) else .error (i + 1)
              | none => .error (i + 1)) = _
            rw [he]
            show (if isEntV es e = true then _ else _) = _
            rw [if_pos hY]
          obtain ⟨a, b, c, hw, hb, hc, rfl⟩ := entL_cases he
          rw [hw] at hpw
          have hpw : H7 pw = some (.lst [V.str (S a), .str (S b), .str (S c)]) := hpw
          walk_at "rd"
          refine rd_intS hb ?_
          walk_at "rd"
          refine rd_intS hc ?_
          walk_at "rd"
          refine ⟨by show 3 ≤ sizeLine; decide, fun tn ntn => ?_⟩
          obtain ⟨ntn, e8, htn⟩ := alT (T := T) ntn [.str (S a), .int ((NumText.digitsVal b : Nat) : Int), .int ((NumText.digitsVal c : Nat) : Int)]
          have hxs8 := lst.x hxs e8
          have hxi8 := hxi.x e8
          have hl8 := lst.x hl e8
          generalize upd H7 tn _ = H8 at e8 htn hxs8 hxi8 hl8 ⊢
          have hok : PyData.strOk (S a) = true := by
            have ha : S a = askedS ∨ S a = doneS := by
              unfold isEntV at hY
              split at hY
              · rw [Bool.and_eq_true, decide_eq_true_eq] at hY
                exact .inl hY.1
              · rw [Bool.and_eq_true, decide_eq_true_eq] at hY
                exact .inr hY.1
            rcases ha with ha | ha <;> rw [ha] <;> decide +kernel
          obtain ⟨g1, g2⟩ := Ls.app (T := T) hxs8 hxi8 (ent_new (e := (S a, NumText.digitsVal b, NumText.digitsVal c)) htn hok)
          have hxl : xs.length ≤ 1000 := by
            rw [hxi.len, List.length_map]
            omega
          walk_at "rd"
          refine ⟨es ++ [(S a, NumText.digitsVal b, NumText.digitsVal c)], _, _, _, rfl, (x7.trans e8).own npe hxs8, by rw [List.map_append]; exact g1, by rw [List.length_append, hlen]; rfl, by rw [upd_ne npl1.symm]; exact hl8, hr⟩
    · obtain ⟨es, x2, x3, x4, rfl, eH, hes, hlen, hl, hrd⟩ := h
      rw [List.length_map, List.length_map, List.drop_length] at hrd
      walk_at "rd"
      exact q1 es hrd pe H' npe eH hes
end

open PySem PySem.Spec PyProof.Rows L2
open PySem.W (EachIs)
section
variable {T : List (Addr × Str)} {P : Program} {w : World} {K : PySem.W.Frag} {mg : Str → Option Value} {base : Heap}
local macro_rules | `(tactic| walk_at "tr") => `(tactic| first
  | assumption
  | exact Ext.refl
  | ((with_reducible refine' Im.x (T := T) (H := ?trH) ?tra ?tre); (case tre => assumption); (case tra => walk_at "tr"))
  | ((with_reducible refine' Im.y (T := T) (H := ?trH) ?tra ?tre ?trt); (case tre => assumption); (case trt => walk_at "tr"); (case tra => walk_at "tr"))
  | ((with_reducible refine' ImAll.x (T := T) (H := ?trH) ?tra ?tre); (case tre => assumption); (case tra => walk_at "tr"))
  | ((with_reducible refine' ImAll.y (T := T) (H := ?trH) ?tra ?tre ?trt); (case tre => assumption); (case trt => walk_at "tr"); (case tra => walk_at "tr"))
  | ((with_reducible refine' Ls.x (T := T) (H := ?trH) ?tra ?tre); (case tre => assumption); (case tra => walk_at "tr"))
  | ((with_reducible refine' Ls.y (T := T) (H := ?trH) ?tra ?tre ?trn ?trt); (case tre => assumption); (case trt => walk_at "tr"); (case trn => walk_at "tr"); (case tra => walk_at "tr"))
  | ((with_reducible refine' SqP.x (T := T) (H := ?trH) ?tra ?tre); (case tre => assumption); (case tra => walk_at "tr"))
  | ((with_reducible refine' SqP.y (T := T) (H := ?trH) ?tra ?tre ?trt); (case tre => assumption); (case trt => walk_at "tr"); (case tra => walk_at "tr"))
  | ((with_reducible refine' StAt.x (T := T) (H := ?trH) ?tra ?tre); (case tre => assumption); (case tra => walk_at "tr"))
  | ((with_reducible refine' StAt.y (T := T) (H := ?trH) ?tra ?tre ?trt); (case tre => assumption); (case trt => walk_at "tr"); (case tra => walk_at "tr"))
  | ((with_reducible refine' Pools.ext0 (T := T) (H := ?trH) ?tra ?tre); (case tre => assumption); (case tra => walk_at "tr"))
  | ((with_reducible refine' Pools.ext (T := T) (H := ?trH) ?tra ?tre ?trt); (case tre => assumption); (case trt => walk_at "tr"); (case tra => walk_at "tr"))
  | ((with_reducible refine' CL.x (T := T) (H := ?trH) ?tra ?tre); (case tre => assumption); (case tra => walk_at "tr"))
  | ((with_reducible refine' CL.y (T := T) (H := ?trH) ?tra ?tre); (case tre => assumption); (case tra => walk_at "tr"))
  | ((with_reducible refine' Tape.ext (T := T) (H := ?trH) ?tra ?tre); (case tre => assumption); (case tra => walk_at "tr"))
  | ((with_reducible refine' lst.x (T := T) (H := ?trH) ?tra ?tre); (case tre => assumption); (case tra => walk_at "tr"))
  | ((with_reducible refine' lst.y (T := T) (H := ?trH) ?tra ?tre ?trn); (case tre => assumption); (case trn => walk_at "tr"); (case tra => walk_at "tr"))
  | ((with_reducible refine' tup.x (T := T) (H := ?trH) ?tra ?tre); (case tre => assumption); (case tra => walk_at "tr"))
  | ((with_reducible refine' tup.y (T := T) (H := ?trH) ?tra ?tre ?trt); (case tre => assumption); (case trt => walk_at "tr"); (case tra => walk_at "tr"))
  | ((with_reducible refine' frz.x (T := T) (H := ?trH) ?tra ?tre); (case tre => assumption); (case tra => walk_at "tr"))
  | ((with_reducible refine' frz.y (T := T) (H := ?trH) ?tra ?tre ?trt); (case tre => assumption); (case trt => walk_at "tr"); (case tra => walk_at "tr"))
  | ((with_reducible refine' Im.z (T := T) (H := ?trH) ?tra ?tre ?trt); (case tre => assumption); (case trt => assumption); (case tra => walk_at "tr"))
  | ((with_reducible refine' ImAll.z (T := T) (H := ?trH) ?tra ?tre ?trt); (case tre => assumption); (case trt => assumption); (case tra => walk_at "tr"))
  | ((with_reducible refine' StAt.z (T := T) (H := ?trH) ?tra ?tre ?trt); (case tre => assumption); (case trt => assumption); (case tra => walk_at "tr"))
  | ((with_reducible refine' SqP.z (T := T) (H := ?trH) ?tra ?tre ?trt); (case tre => assumption); (case trt => assumption); (case tra => walk_at "tr"))
  | ((with_reducible refine' tup.z (T := T) (H := ?trH) ?tra ?tre ?trt); (case tre => assumption); (case trt => assumption); (case tra => walk_at "tr"))
  | ((with_reducible refine' Ls.z (T := T) (H := ?trH) ?tra ?tre ?trt ?trn); (case tre => assumption); (case trt => assumption); (case trn => assumption); (case tra => walk_at "tr"))
  | ((with_reducible refine' lst.z (T := T) (H := ?trH) ?tra ?tre ?trn); (case tre => assumption); (case trn => assumption); (case tra => walk_at "tr"))
  | ((with_reducible refine' CL.z (T := T) (H := ?trH) ?tra ?tre ?trn); (case tre => assumption); (case trn => assumption); (case tra => walk_at "tr"))
  | ((with_reducible refine' Tape.ne1 (H := ?trH) ?trt ?trn); (case trn => assumption); (case trt => walk_at "tr"))
  | ((with_reducible refine' Ext.trans (H1 := ?trH) ?tra (Ext.any ?tre)); (case tre => assumption); (case tra => walk_at "tr"))
  | ((with_reducible refine' Ext.trans (H1 := ?trH) ?tra ?tre); (case tre => assumption); (case tra => walk_at "tr"))
  | ((with_reducible refine' Ext.back1 (T := T) (H1 := ?trH) ?tre ?trn ?tra); (case tra => assumption); (case trn => walk_at "tr"); (case tre => walk_at "tr"))
  | ((with_reducible refine' Ext.back0 (T := T) (H1 := ?trH) ?tre ?tra); (case tra => assumption); (case tre => walk_at "tr"))
  | ((with_reducible refine' SqT.of ?tra); (case tra => walk_at "tr"))
  | ((with_reducible refine' SqL.of ?tra); (case tra => walk_at "tr")))
local macro_rules | `(tactic| walk_at "al") => `(tactic| (refine ⟨by first | (show _ ≤ sizeLine; decide) | walk_at "sz", ?_⟩; intro alp aln; generalize alG : upd _ alp _ = alH; obtain ⟨aln2, alx, alh⟩ := al_of (T := T) aln alG; clear alG aln))
local macro_rules | `(tactic| walk_at "al0") => `(tactic| (intro alp aln; generalize alG : upd _ alp _ = alH; obtain ⟨aln2, alx, alh⟩ := al_of (T := T) aln alG; clear alG aln))

theorem at_last_fn (z : Int) (done : List Int) : atI ((z :: done).map V.int) (-1) = some (.int (fn (z :: done) done.length)) := by
  refine at_last ?_
  rw [List.getLast?_eq_getElem?, List.getElem?_map, List.length_map]
  unfold fn
  rw [List.getD_eq_getElem?_getD, List.length_cons, Nat.add_sub_cancel]
  rw [List.getElem?_eq_getElem (by simp)]
  rfl
theorem each_ints {H : Hp} {c : Rw → Bool} {g : Rw → Int} {ys xs : List V} {tb : List Rw} (hx : ImAll H xs (tb.map rwD)) (h : EachIs (fun y x => ∃ r, Im H x (rwD r) ∧ y = V.int (g r)) ys (xs.filter (pIm H rwD c))) : ys = ((tb.filter c).map g).map V.int := by
  have h1 := each_filter (c := c) (fun _ _ => rwD_inj) hx
  have h2 := each_comp h h1
  have key : ∀ {ys : List V} {rs : List Rw}, EachIs (fun y r => ∃ x, (∃ r', Im H x (rwD r') ∧ y = V.int (g r')) ∧ Im H x (rwD r)) ys rs → ys = (rs.map g).map V.int := by
    intro ys rs h
    induction rs generalizing ys with
    | nil =>
      cases h
      rfl
    | cons r rs ih =>
      cases h with
      | cons a t =>
        obtain ⟨x, ⟨r', h1, h2⟩, h3⟩ := a
        rw [ih t, h2, rwD_inj (Im.inj _ _ _ h1 h3)]
        rfl
  exact key h2
theorem ok_ask_moment (D : Def K mg "ask_moment" s_ask_moment ["table", "done"]) (mb : ∀ x ∈ bltns, mg x = none) : Ok P w K mg base 1 "ask_moment" ["table", "done"] (spAsk T K) := by
  refine D.ok sc_ask_moment (fun vs H Q E h => ?_) (fun cdv f A outer s H vs Q E hr h => ?_)
  · obtain ⟨va, b, kd, tb, done, rfl, _⟩ := h
    rfl
  · obtain ⟨va, b, kd, tb, done, rfl, hva, hb, hlt, htl, hdl, q⟩ := h
    obtain ⟨a, xs, rfl, ha, hxi⟩ := hva.tup'
    refine ⟨_, (pss_cons (ps_set (i := 2) sc_ask_moment.nd rfl (.inr rfl) (pe_lst (pa_cons pe_int (pa_starU K rfl (pv 1) pa_nil))))
   (pss_cons (ps_setLc (i := 3) (own := [("k", 4), ("j", 5), ("wait", 6)]) rfl sc_ask_moment.nd rfl rfl (sw_true rfl rfl rfl (by decide +kernel)) (pi_seq K rfl (pv 0)) (blkOk_by (N := N_ask_moment) (sc := defScope s_ask_moment) (by decide +kernel)) (fun _ _ _ _ _ => (pg_tupU (n := 3) K rfl rfl (pgs_cons (pg_name (i := 4) sc_ask_moment.nd rfl (Or.inl rfl)) (pgs_cons (pg_name (i := 5) sc_ask_moment.nd rfl (Or.inl rfl)) (pgs_cons (pg_name (i := 6) sc_ask_moment.nd rfl (Or.inl rfl)) pgs_nil))))) (fun _ _ _ _ _ => (pts_one (pt_cmpR (op_eqU K rfl hr.units) (pv 4) (pe_callB (call_lenU K rfl) (by rfl) (mb _ (by decide)) (by decide +kernel) (pa_cons (pv 2) pa_nil)) (nomark _)))) (fun _ _ _ _ _ => (pe_op (op_plus K rfl) (pe_ix (ix_U K rfl) (pv 2) (pv 5) (fun _ _ => rfl)) (pv 6))))
   (pss_one (ps_ret (pe_callB (call_maxA K rfl rfl) (by rfl) (mb _ (by decide)) (by decide +kernel) (pa_cons (pe_lst (pa_cons (pe_op (op_plus K rfl) (pe_ix (ix_U K rfl) (pv 2) (pe_un un_neg pe_int) (fun _ _ => rfl)) pe_int) (pa_starU K rfl (pv 3) pa_nil))) pa_nil)))))), ?_⟩
    have hxl : xs.length ≤ 100 := by
      rw [hxi.len, List.length_map]
      exact htl
    refine rd_seq ?_
    walk_at "rdn"
    refine ⟨b, _, rfl, hb.or, ?_⟩
    walk_at "rdn"
    rw [List.append_nil]
    refine ⟨by walk_at "sz", fun p np => ?_⟩
    obtain ⟨np, e1, hp⟩ := alL (T := T) np (V.int 0 :: List.map V.int done)
    generalize upd H p _ = H1 at e1 hp ⊢
    have hp : H1 p = some (.lst ((0 :: done).map V.int)) := hp
    walk_at "rdn"
    refine rd_seq ?_
    walk_at "rdn"
    refine .inr ⟨⟨xs, SqP.t (ha.x e1)⟩, ?_⟩
    have hx1 := hxi.x e1
    refine lcg_rel T [] walk_tup xs rfl (fun i H x H' y => y) (by simp) (fun H' e => SqP.t ((ha.x e1).x e)) (Nat.lt_of_le_of_lt hxl (by decide)) (pIm H1 rwD (fun r => decide (r.1 = done.length + 1))) (fun y x => ∃ r, Im H1 x (rwD r) ∧ y = V.int (fn (0 :: done) r.2.1 + r.2.2)) (fun i x hx H' e' R S h1 h2 => ?_) (fun D H2 ys nD e2 hD hys => ?_)
    · obtain ⟨r, hr, hxr⟩ := rw_get hx1 hx
      have hrl := hlt r (List.mem_of_getElem? hr)
      have hpe := pIm_eq (c := fun r => decide (r.1 = done.length + 1)) (fun _ _ => rwD_inj) hxr
      refine rd_grow (hxr.x e') ?_
      refine ⟨rfl, ?_⟩
      have hpe' : H' p = some (.lst ((0 :: done).map V.int)) := lst.x hp e'
      walk_at "rd"
      have e0 : ((((0 :: done).map V.int).length : Nat) : Int) = ((done.length + 1 : Nat) : Int) := by rw [List.length_map]; rfl
      rw [e0]
      refine rd_ite (fun c => ?_) (fun c => ?_)
      · have c : r.1 = done.length + 1 := by omega
        walk_at "rd"
        refine rd_ixL (SqL.of hpe') (at_fn (by rw [List.length_cons]; omega)) ?_
        walk_at "rd"
        exact h1 (by rw [hpe]; exact decide_eq_true c) _ _ .refl ⟨r, hxr, rfl⟩
      · have c : ¬ r.1 = done.length + 1 := by omega
        exact h2 (by rw [hpe]; exact decide_eq_false c) _ .refl
    · have hys := each_ints hx1 hys
      have hp2 : H2 p = some (.lst ((0 :: done).map V.int)) := lst.x hp e2
      walk_at "rd"
      refine rd_ixL (SqL.of hp2) (at_last_fn 0 done) ?_
      walk_at "rd"
      refine ⟨D, ys, rfl, .inr (SqL.of hD), ?_⟩
      walk_at "rd"
      have hyl : ys.length ≤ 100 := by
        rw [hys, List.length_map, List.length_map]
        exact Nat.le_trans (List.length_filter_le _ _) htl
      rw [List.append_nil]
      refine ⟨by walk_at "sz", fun p3 np3 => ?_⟩
      obtain ⟨np3, e3, hp3⟩ := alL (T := T) np3 (V.int (fn (0 :: done) done.length + 1) :: ys)
      generalize upd H2 p3 _ = H3 at e3 hp3 ⊢
      have hp3 : H3 p3 = some (.lst (((fn (0 :: done) done.length + 1) :: askW tb done).map V.int)) := by
        rw [hp3, hys]
        rfl
      walk_at "rd"
      refine rd_maxA (SqL.of hp3) (by simp) fun m hm1 hm2 => ?_
      rw [ask_max hm1 hm2]
      exact q _ ((e1.trans e2).trans e3)
end

open PySem PySem.Spec PyProof.Rows L2
open PySem.W (EachIs)
def folF (tb : List Rw) (n : Nat) : List Ent → List Int → Bool
  | [], _ => true
  | e :: r, dn => if n < e.2.1 ∨ (e.1 = askedS ∧ (e.2.2 : Int) < askF tb dn) then false else folF tb n r (if e.1 = doneS then dn ++ [(e.2.2 : Int)] else dn)
section
variable {T : List (Addr × Str)} {P : Program} {w : World} {K : PySem.W.Frag} {mg : Str → Option Value} {base : Heap}
local macro_rules | `(tactic| walk_at "tr") => `(tactic| first
  | assumption
  | exact Ext.refl
  | ((with_reducible refine' Im.x (T := T) (H := ?trH) ?tra ?tre); (case tre => assumption); (case tra => walk_at "tr"))
  | ((with_reducible refine' Im.y (T := T) (H := ?trH) ?tra ?tre ?trt); (case tre => assumption); (case trt => walk_at "tr"); (case tra => walk_at "tr"))
  | ((with_reducible refine' ImAll.x (T := T) (H := ?trH) ?tra ?tre); (case tre => assumption); (case tra => walk_at "tr"))
  | ((with_reducible refine' ImAll.y (T := T) (H := ?trH) ?tra ?tre ?trt); (case tre => assumption); (case trt => walk_at "tr"); (case tra => walk_at "tr"))
  | ((with_reducible refine' Ls.x (T := T) (H := ?trH) ?tra ?tre); (case tre => assumption); (case tra => walk_at "tr"))
  | ((with_reducible refine' Ls.y (T := T) (H := ?trH) ?tra ?tre ?trn ?trt); (case tre => assumption); (case trt => walk_at "tr"); (case trn => walk_at "tr"); (case tra => walk_at "tr"))
  | ((with_reducible refine' SqP.x (T := T) (H := ?trH) ?tra ?tre); (case tre => assumption); (case tra => walk_at "tr"))
  | ((with_reducible refine' SqP.y (T := T) (H := ?trH) ?tra ?tre ?trt); (case tre => assumption); (case trt => walk_at "tr"); (case tra => walk_at "tr"))
  | ((with_reducible refine' StAt.x (T := T) (H := ?trH) ?tra ?tre); (case tre => assumption); (case tra => walk_at "tr"))
  | ((with_reducible refine' StAt.y (T := T) (H := ?trH) ?tra ?tre ?trt); (case tre => assumption); (case trt => walk_at "tr"); (case tra => walk_at "tr"))
  | ((with_reducible refine' Pools.ext0 (T := T) (H := ?trH) ?tra ?tre); (case tre => assumption); (case tra => walk_at "tr"))
  | ((with_reducible refine' Pools.ext (T := T) (H := ?trH) ?tra ?tre ?trt); (case tre => assumption); (case trt => walk_at "tr"); (case tra => walk_at "tr"))
  | ((with_reducible refine' CL.x (T := T) (H := ?trH) ?tra ?tre); (case tre => assumption); (case tra => walk_at "tr"))
  | ((with_reducible refine' CL.y (T := T) (H := ?trH) ?tra ?tre); (case tre => assumption); (case tra => walk_at "tr"))
  | ((with_reducible refine' Tape.ext (T := T) (H := ?trH) ?tra ?tre); (case tre => assumption); (case tra => walk_at "tr"))
  | ((with_reducible refine' lst.x (T := T) (H := ?trH) ?tra ?tre); (case tre => assumption); (case tra => walk_at "tr"))
  | ((with_reducible refine' lst.y (T := T) (H := ?trH) ?tra ?tre ?trn); (case tre => assumption); (case trn => walk_at "tr"); (case tra => walk_at "tr"))
  | ((with_reducible refine' tup.x (T := T) (H := ?trH) ?tra ?tre); (case tre => assumption); (case tra => walk_at "tr"))
  | ((with_reducible refine' tup.y (T := T) (H := ?trH) ?tra ?tre ?trt); (case tre => assumption); (case trt => walk_at "tr"); (case tra => walk_at "tr"))
  | ((with_reducible refine' frz.x (T := T) (H := ?trH) ?tra ?tre); (case tre => assumption); (case tra => walk_at "tr"))
  | ((with_reducible refine' frz.y (T := T) (H := ?trH) ?tra ?tre ?trt); (case tre => assumption); (case trt => walk_at "tr"); (case tra => walk_at "tr"))
  | ((with_reducible refine' Im.z (T := T) (H := ?trH) ?tra ?tre ?trt); (case tre => assumption); (case trt => assumption); (case tra => walk_at "tr"))
  | ((with_reducible refine' ImAll.z (T := T) (H := ?trH) ?tra ?tre ?trt); (case tre => assumption); (case trt => assumption); (case tra => walk_at "tr"))
  | ((with_reducible refine' StAt.z (T := T) (H := ?trH) ?tra ?tre ?trt); (case tre => assumption); (case trt => assumption); (case tra => walk_at "tr"))
  | ((with_reducible refine' SqP.z (T := T) (H := ?trH) ?tra ?tre ?trt); (case tre => assumption); (case trt => assumption); (case tra => walk_at "tr"))
  | ((with_reducible refine' tup.z (T := T) (H := ?trH) ?tra ?tre ?trt); (case tre => assumption); (case trt => assumption); (case tra => walk_at "tr"))
  | ((with_reducible refine' Ls.z (T := T) (H := ?trH) ?tra ?tre ?trt ?trn); (case tre => assumption); (case trt => assumption); (case trn => assumption); (case tra => walk_at "tr"))
  | ((with_reducible refine' lst.z (T := T) (H := ?trH) ?tra ?tre ?trn); (case tre => assumption); (case trn => assumption); (case tra => walk_at "tr"))
  | ((with_reducible refine' CL.z (T := T) (H := ?trH) ?tra ?tre ?trn); (case tre => assumption); (case trn => assumption); (case tra => walk_at "tr"))
  | ((with_reducible refine' Tape.ne1 (H := ?trH) ?trt ?trn); (case trn => assumption); (case trt => walk_at "tr"))
  | ((with_reducible refine' Ext.trans (H1 := ?trH) ?tra (Ext.any ?tre)); (case tre => assumption); (case tra => walk_at "tr"))
  | ((with_reducible refine' Ext.trans (H1 := ?trH) ?tra ?tre); (case tre => assumption); (case tra => walk_at "tr"))
  | ((with_reducible refine' Ext.back1 (T := T) (H1 := ?trH) ?tre ?trn ?tra); (case tra => assumption); (case trn => walk_at "tr"); (case tre => walk_at "tr"))
  | ((with_reducible refine' Ext.back0 (T := T) (H1 := ?trH) ?tre ?tra); (case tra => assumption); (case tre => walk_at "tr"))
  | ((with_reducible refine' SqT.of ?tra); (case tra => walk_at "tr"))
  | ((with_reducible refine' SqL.of ?tra); (case tra => walk_at "tr")))
local macro_rules | `(tactic| walk_at "al") => `(tactic| (refine ⟨by first | (show _ ≤ sizeLine; decide) | walk_at "sz", ?_⟩; intro alp aln; generalize alG : upd _ alp _ = alH; obtain ⟨aln2, alx, alh⟩ := al_of (T := T) aln alG; clear alG aln))
local macro_rules | `(tactic| walk_at "al0") => `(tactic| (intro alp aln; generalize alG : upd _ alp _ = alH; obtain ⟨aln2, alx, alh⟩ := al_of (T := T) aln alG; clear alG aln))

theorem ent_getX {H : Hp} {xs : List V} {es : List Ent} {i : Nat} {x : V} (h : ImAll H xs (es.map entD)) (hx : xs[i]? = some x) : ∃ e, es[i]? = some e ∧ Im H x (entD e) := by
  have hi : i < es.length := by
    have := (List.getElem?_eq_some_iff.mp hx).1
    rw [h.len, List.length_map] at this
    exact this
  have e1 : (es.map entD)[i]? = some (entD es[i]) := by rw [List.getElem?_map, List.getElem?_eq_getElem hi]; rfl
  obtain ⟨u, h1, h2⟩ := h.get e1
  rw [hx] at h1
  cases Option.some.inj h1
  exact ⟨_, List.getElem?_eq_getElem hi, h2⟩
def spFol (T : List (Addr × Str)) : Sp := fun vs H Q _ => ∃ (va : V) (b : Addr) (n : Nat) (tb : List Rw) (es : List Ent), vs = [va, .int (n : Int), .ref b] ∧ Im H va (.tuple (tb.map rwD)) ∧ Ls H b (es.map entD) ∧ TbLt tb ∧ tb.length ≤ 100 ∧ es.length ≤ 100 ∧
  ∀ H', Ext T [] H H' → Q (.bl (folF tb n es [])) H'
theorem ok_follows_table (D : Def K mg "follows_table" s_follows_table ["table", "count", "entries"]) (mb : ∀ x ∈ bltns, mg x = none) (G_ask_moment : Ok P w K mg base 1 "ask_moment" ["table", "done"] (spAsk T K)) : Ok P w K mg base 2 "follows_table" ["table", "count", "entries"] (spFol T) := by
  refine D.ok sc_follows_table (fun vs H Q E h => ?_) (fun cdv f A outer s H vs Q E hr h => ?_)
  · obtain ⟨va, b, n, tb, es, rfl, _⟩ := h
    rfl
  · obtain ⟨va, b, n, tb, es, rfl, hva, ⟨xs, hxs, hxi⟩, htb, htl, hel, q⟩ := h
    refine ⟨_, (pss_cons (ps_set (i := 3) sc_follows_table.nd rfl (.inl rfl) (pe_lst pa_nil))
   (pss_cons (ps_for PassesOwn.never rfl (pi_seq K rfl (pv 2)) (pg_tupU (n := 3) K rfl rfl (pgs_cons (pg_name (i := 4) sc_follows_table.nd rfl (.inl rfl)) (pgs_cons (pg_name (i := 5) sc_follows_table.nd rfl (.inl rfl)) (pgs_cons (pg_name (i := 6) sc_follows_table.nd rfl (.inl rfl)) pgs_nil)))) (pss_cons (ps_if (PW.pt (pw_or (pt_cmpR op_gt (pv 5) (pv 1) (nomark _)) (pw_or1 (PW.pt (pw_and (pt_cmpR (op_eqU K rfl hr.units) (pv 4) pe_str (nomark _)) (pw_and1 (pt_cmpR op_lt (pv 6) (pe_callO G_ask_moment (hr.mono (by decide)) (by rfl) (pa_cons (pv 0) (pa_cons (pv 3) pa_nil))) (nomark _)))))))) (pss_one (ps_ret pe_bl)) pss_nil)
   (pss_one (ps_if (pt_cmpR (op_eqU K rfl hr.units) (pv 4) pe_str (nomark _)) (pss_one (ps_expr (pe_bm PySem.F.plainAttrs_list PySem.F.slot_list_append PySem.F.type_list_append mt_append (pv 3) (pa_cons (pv 6) pa_nil)))) pss_nil))))
   (pss_one (ps_ret pe_bl)))), ?_⟩
    have hxl : xs.length = es.length := by rw [hxi.len, List.length_map]
    walk_at "rdn"
    refine rd_seq ?_
    walk_at "rdn"
    refine ⟨by walk_at "sz", fun pd npd => ?_⟩
    obtain ⟨npd, e1, hpd⟩ := alL (T := T) npd ([] : List V)
    have hxs1 := lst.x hxs e1
    generalize upd H pd _ = H1 at e1 hpd hxs1 ⊢
    walk_at "rd"
    refine forg_list (xs := xs) (fun i σ' H' => ∃ (dn : List Int) (x4 x5 x6 : Option V), σ' = [some va, some (.int (n : Int)), some (.ref b), some (.ref pd), x4, x5, x6] ∧ Ext T [] H H' ∧ H' pd = some (.lst (dn.map V.int)) ∧ dn.length ≤ i ∧ folF tb n es [] = folF tb n (es.drop i) dn)
      ⟨[], _, _, _, rfl, e1, hpd, Nat.le_refl _, rfl⟩ (fun i σ' H' _ h => ?_) (fun i x σ' H' hx h => ?_) (fun σ' H' h => ?_)
    · obtain ⟨dn, x4, x5, x6, rfl, eH, _⟩ := h
      exact SqL.of (lst.x hxs eH)
    · obtain ⟨dn, x4, x5, x6, rfl, eH, hpd, hdl, hf⟩ := h
      obtain ⟨e, hei, hxe⟩ := ent_getX hxi hx
      have hi : i < es.length := (List.getElem?_eq_some_iff.mp hei).1
      have hdr : es.drop i = e :: es.drop (i + 1) := by
        rw [List.drop_eq_getElem_cons hi]
        rw [List.getElem?_eq_getElem hi] at hei
        rw [Option.some.inj hei]
      rw [hdr] at hf
      obtain ⟨p, rfl, hp⟩ := (hxe.x eH).ent'
      refine rd_gtup (SqP.t hp) rfl (rd_gcons (rd_name (rd_gcons (rd_name (rd_gcons (rd_name (rd_gnil ?_)))))))
      refine rd_cut (fun σ' H2 => σ' = [some va, some (.int (n : Int)), some (.ref b), some (.ref pd), some (.str e.1), some (.int (e.2.1 : Int)), some (.int (e.2.2 : Int))] ∧ Ext T [] H' H2 ∧ ¬ (n < e.2.1 ∨ (e.1 = askedS ∧ (e.2.2 : Int) < askF tb dn))) (fun nx' hnx => ?_) (fun σ' H2 h => ?_)
      · have no : (n < e.2.1 ∨ (e.1 = askedS ∧ (e.2.2 : Int) < askF tb dn)) → folF tb n es [] = false := fun c => by
          rw [hf]
          show (if _ then false else _) = false
          rw [if_pos c]
        have ea : decide (e.1 = Str.ofString "asked") = decide (e.1 = askedS) := rfl
        walk_at "rd"
        refine rd_ite (fun c1 => ?_) (fun c1 => ?_)
        · walk_at "rd"
          have h := q _ eH
          rw [no (.inl (by omega))] at h
          exact h
        · walk_at "rd"
          rw [ea]
          refine rd_ite (fun c2 => ?_) (fun c2 => ?_)
          · walk_at "rd"
            refine ⟨va, pd, true, tb, dn, rfl, hva.x eH, SqL.of hpd, htb, htl, by omega, fun H3 e3 => ?_⟩
            walk_at "rd"
            refine rd_ite (fun c3 => ?_) (fun c3 => ?_)
            · walk_at "rd"
              have h := q _ (eH.trans e3)
              rw [no (.inr ⟨c2, c3⟩)] at h
              exact h
            · walk_at "rd"
              exact hnx _ _ ⟨rfl, e3, fun c => c.elim (fun c => by omega) fun c => c3 c.2⟩
          · walk_at "rd"
            exact hnx _ _ ⟨rfl, .refl, fun c => c.elim (fun c => by omega) fun c => c2 c.1⟩
      · obtain ⟨rfl, e2, hno⟩ := h
        have hpd2 := lst.x hpd e2
        have hstep : folF tb n es [] = folF tb n (es.drop (i + 1)) (if e.1 = doneS then dn ++ [(e.2.2 : Int)] else dn) := by
          rw [hf]
          show (if _ then false else _) = _
          rw [if_neg hno]
        have ed : decide (e.1 = Str.ofString "done") = decide (e.1 = doneS) := rfl
        have hdl2 : dn.length ≤ 100 := by omega
        walk_at "rd"
        rw [ed]
        refine rd_ite (fun c => ?_) (fun c => ?_)
        · rw [if_pos c] at hstep
          walk_at "rd"
          refine ⟨dn ++ [(e.2.2 : Int)], _, _, _, rfl, (eH.trans e2).own npd hpd2, by rw [upd_same, List.map_append]; rfl, by rw [List.length_append]; show _ + 1 ≤ i + 1; omega, hstep⟩
        · rw [if_neg c] at hstep
          walk_at "rd"
          exact ⟨dn, _, _, _, rfl, eH.trans e2, hpd2, by omega, hstep⟩
    · obtain ⟨dn, x4, x5, x6, rfl, eH, hpd, hdl, hf⟩ := h
      rw [hxl, List.drop_length] at hf
      walk_at "rd"
      have h := q _ eH
      rw [hf] at h
      exact h
end

open PySem PySem.Spec PyProof.Rows L2
open PySem.W (EachIs)
theorem ent_injX (a b : Ent) (h : entD a = entD b) : a = b := by
  unfold entD at h
  injection h with h
  injection h with h1 h
  injection h with h2 h
  injection h with h3 _
  injection h1 with h1
  injection h2 with h2
  injection h3 with h3
  exact Prod.ext h1 (Prod.ext (by omega) (by omega))
/-! ### the hand -/
def hF (v u x : V) : List (Str × V) := putF "_entries" x (putF "_count" u (putF "_table" v []))
theorem hF_t (v u x : V) : (hF v u x).lookup ("_table" : Str) = some v := by
  unfold hF
  rw [lookup_putF, if_neg (by decide +kernel), lookup_putF, if_neg (by decide +kernel), lookup_putF, if_pos rfl]
theorem hF_c (v u x : V) : (hF v u x).lookup ("_count" : Str) = some u := by
  unfold hF
  rw [lookup_putF, if_neg (by decide +kernel), lookup_putF, if_pos rfl]
theorem hF_e (v u x : V) : (hF v u x).lookup ("_entries" : Str) = some x := by
  unfold hF
  rw [lookup_putF, if_pos rfl]
theorem hF_no (v u x : V) {m : Str} (h1 : ¬ m = "_entries") (h2 : ¬ m = "_count") (h3 : ¬ m = "_table") : (hF v u x).lookup m = none := by
  unfold hF
  rw [lookup_putF, if_neg h1, lookup_putF, if_neg h2, lookup_putF, if_neg h3]
  rfl
structure Hl (K : PySem.W.Frag) (C : Addr) : Prop where
  cl : Cls K C
  nT : NoAttr K C "_table"
  nC : NoAttr K C "_count"
  nE : NoAttr K C "_entries"
/-- a hand at p: table, count, and the list of its entries -/
def HandAt (H : Hp) (p C : Addr) (va : V) (n : Nat) (pe : Addr) (tb : List Rw) (es : List Ent) : Prop :=
  (∃ dx, H p = some (.ins C dx (hF va (.int (n : Int)) (.ref pe)))) ∧ Im H va (.tuple (tb.map rwD)) ∧ Ls H pe (es.map entD)
theorem HandAt.x {T : List (Addr × Str)} {H H' : Hp} {p C pe : Addr} {va : V} {n : Nat} {tb : List Rw} {es : List Ent} (h : HandAt H p C va n pe tb es) (e : Ext T [] H H') : HandAt H' p C va n pe tb es := by
  obtain ⟨⟨dx, h1⟩, h2, h3⟩ := h
  exact ⟨⟨dx, e.keep p _ (by simp) (fun _ z => by cases z) h1⟩, h2.x e, h3.x e⟩
def openB (es : List Ent) : Bool := match es.getLast? with | none => false | some e => decide (e.1 = askedS)
theorem openB_of {es : List Ent} {e : Ent} (h : es.getLast? = some e) : openB es = decide (e.1 = askedS) := by
  unfold openB
  rw [h]
section
variable {T : List (Addr × Str)} {P : Program} {w : World} {K : PySem.W.Frag} {mg : Str → Option Value} {base : Heap}
local macro_rules | `(tactic| walk_at "tr") => `(tactic| first
  | assumption
  | exact Ext.refl
  | ((with_reducible refine' Im.x (T := T) (H := ?trH) ?tra ?tre); (case tre => assumption); (case tra => walk_at "tr"))
  | ((with_reducible refine' Im.y (T := T) (H := ?trH) ?tra ?tre ?trt); (case tre => assumption); (case trt => walk_at "tr"); (case tra => walk_at "tr"))
  | ((with_reducible refine' ImAll.x (T := T) (H := ?trH) ?tra ?tre); (case tre => assumption); (case tra => walk_at "tr"))
  | ((with_reducible refine' ImAll.y (T := T) (H := ?trH) ?tra ?tre ?trt); (case tre => assumption); (case trt => walk_at "tr"); (case tra => walk_at "tr"))
  | ((with_reducible refine' Ls.x (T := T) (H := ?trH) ?tra ?tre); (case tre => assumption); (case tra => walk_at "tr"))
  | ((with_reducible refine' Ls.y (T := T) (H := ?trH) ?tra ?tre ?trn ?trt); (case tre => assumption); (case trt => walk_at "tr"); (case trn => walk_at "tr"); (case tra => walk_at "tr"))
  | ((with_reducible refine' SqP.x (T := T) (H := ?trH) ?tra ?tre); (case tre => assumption); (case tra => walk_at "tr"))
  | ((with_reducible refine' SqP.y (T := T) (H := ?trH) ?tra ?tre ?trt); (case tre => assumption); (case trt => walk_at "tr"); (case tra => walk_at "tr"))
  | ((with_reducible refine' StAt.x (T := T) (H := ?trH) ?tra ?tre); (case tre => assumption); (case tra => walk_at "tr"))
  | ((with_reducible refine' StAt.y (T := T) (H := ?trH) ?tra ?tre ?trt); (case tre => assumption); (case trt => walk_at "tr"); (case tra => walk_at "tr"))
  | ((with_reducible refine' Pools.ext0 (T := T) (H := ?trH) ?tra ?tre); (case tre => assumption); (case tra => walk_at "tr"))
  | ((with_reducible refine' Pools.ext (T := T) (H := ?trH) ?tra ?tre ?trt); (case tre => assumption); (case trt => walk_at "tr"); (case tra => walk_at "tr"))
  | ((with_reducible refine' CL.x (T := T) (H := ?trH) ?tra ?tre); (case tre => assumption); (case tra => walk_at "tr"))
  | ((with_reducible refine' CL.y (T := T) (H := ?trH) ?tra ?tre); (case tre => assumption); (case tra => walk_at "tr"))
  | ((with_reducible refine' Tape.ext (T := T) (H := ?trH) ?tra ?tre); (case tre => assumption); (case tra => walk_at "tr"))
  | ((with_reducible refine' lst.x (T := T) (H := ?trH) ?tra ?tre); (case tre => assumption); (case tra => walk_at "tr"))
  | ((with_reducible refine' lst.y (T := T) (H := ?trH) ?tra ?tre ?trn); (case tre => assumption); (case trn => walk_at "tr"); (case tra => walk_at "tr"))
  | ((with_reducible refine' tup.x (T := T) (H := ?trH) ?tra ?tre); (case tre => assumption); (case tra => walk_at "tr"))
  | ((with_reducible refine' tup.y (T := T) (H := ?trH) ?tra ?tre ?trt); (case tre => assumption); (case trt => walk_at "tr"); (case tra => walk_at "tr"))
  | ((with_reducible refine' frz.x (T := T) (H := ?trH) ?tra ?tre); (case tre => assumption); (case tra => walk_at "tr"))
  | ((with_reducible refine' frz.y (T := T) (H := ?trH) ?tra ?tre ?trt); (case tre => assumption); (case trt => walk_at "tr"); (case tra => walk_at "tr"))
  | ((with_reducible refine' Im.z (T := T) (H := ?trH) ?tra ?tre ?trt); (case tre => assumption); (case trt => assumption); (case tra => walk_at "tr"))
  | ((with_reducible refine' ImAll.z (T := T) (H := ?trH) ?tra ?tre ?trt); (case tre => assumption); (case trt => assumption); (case tra => walk_at "tr"))
  | ((with_reducible refine' StAt.z (T := T) (H := ?trH) ?tra ?tre ?trt); (case tre => assumption); (case trt => assumption); (case tra => walk_at "tr"))
  | ((with_reducible refine' SqP.z (T := T) (H := ?trH) ?tra ?tre ?trt); (case tre => assumption); (case trt => assumption); (case tra => walk_at "tr"))
  | ((with_reducible refine' tup.z (T := T) (H := ?trH) ?tra ?tre ?trt); (case tre => assumption); (case trt => assumption); (case tra => walk_at "tr"))
  | ((with_reducible refine' Ls.z (T := T) (H := ?trH) ?tra ?tre ?trt ?trn); (case tre => assumption); (case trt => assumption); (case trn => assumption); (case tra => walk_at "tr"))
  | ((with_reducible refine' lst.z (T := T) (H := ?trH) ?tra ?tre ?trn); (case tre => assumption); (case trn => assumption); (case tra => walk_at "tr"))
  | ((with_reducible refine' CL.z (T := T) (H := ?trH) ?tra ?tre ?trn); (case tre => assumption); (case trn => assumption); (case tra => walk_at "tr"))
  | ((with_reducible refine' Tape.ne1 (H := ?trH) ?trt ?trn); (case trn => assumption); (case trt => walk_at "tr"))
  | ((with_reducible refine' Ext.trans (H1 := ?trH) ?tra (Ext.any ?tre)); (case tre => assumption); (case tra => walk_at "tr"))
  | ((with_reducible refine' Ext.trans (H1 := ?trH) ?tra ?tre); (case tre => assumption); (case tra => walk_at "tr"))
  | ((with_reducible refine' Ext.back1 (T := T) (H1 := ?trH) ?tre ?trn ?tra); (case tra => assumption); (case trn => walk_at "tr"); (case tre => walk_at "tr"))
  | ((with_reducible refine' Ext.back0 (T := T) (H1 := ?trH) ?tre ?tra); (case tra => assumption); (case tre => walk_at "tr"))
  | ((with_reducible refine' SqT.of ?tra); (case tra => walk_at "tr"))
  | ((with_reducible refine' SqL.of ?tra); (case tra => walk_at "tr")))
local macro_rules | `(tactic| walk_at "al") => `(tactic| (refine ⟨by first | (show _ ≤ sizeLine; decide) | walk_at "sz", ?_⟩; intro alp aln; generalize alG : upd _ alp _ = alH; obtain ⟨aln2, alx, alh⟩ := al_of (T := T) aln alG; clear alG aln))
local macro_rules | `(tactic| walk_at "al0") => `(tactic| (intro alp aln; generalize alG : upd _ alp _ = alH; obtain ⟨aln2, alx, alh⟩ := al_of (T := T) aln alG; clear alG aln))

def spLatest (C : Addr) : Sp := fun vs H Q _ => ∃ (p : Addr) (va : V) (n : Nat) (pe : Addr) (tb : List Rw) (es : List Ent), vs = [.ref p] ∧ HandAt H p C va n pe tb es ∧ Q (.int (lastM es : Int)) H
def spOpen (C : Addr) : Sp := fun vs H Q _ => ∃ (p : Addr) (va : V) (n : Nat) (pe : Addr) (tb : List Rw) (es : List Ent), vs = [.ref p] ∧ HandAt H p C va n pe tb es ∧ Q (.bl (openB es)) H
theorem ok_latest {f C : Addr} {fd : FuncData} (F : Fun K "_latest" "Hand._latest" s_Hand_latest f fd) (W : Hl K C) (mb : ∀ x ∈ bltns, mg x = none) : FnOk P w K mg base CX0 1 f fd ["self"] (spLatest C) := by
  refine F.ok sc_Hand_latest (fun vs H Q E h => ?_) (fun cdv A outer s H vs Q E hr h => ?_)
  · obtain ⟨p, va, n, pe, tb, es, rfl, _⟩ := h
    rfl
  · obtain ⟨p, va, n, pe, tb, es, rfl, ⟨⟨dx, hp⟩, hva, ⟨xs, hxs, hxi⟩⟩, q⟩ := h
    refine ⟨_, (pss_one (ps_ret (pe_ifExp (pt_truU K rfl (pe_fld (pv 0) rfl)) (pe_ix (ix_U K rfl) (pe_ix (ix_U K rfl) (pe_fld (pv 0) rfl) (pe_un un_neg pe_int) (fun _ _ => rfl)) pe_int (fun _ _ => rfl)) pe_int))), ?_⟩
    have hxl : xs.length = es.length := by rw [hxi.len, List.length_map]
    walk_at "rd"
    refine rd_tru ?_
    refine rd_fld ?_
    walk_at "rd"
    refine ⟨p, C, dx, _, .ref pe, rfl, hp, W.cl, W.nE, hF_e _ _ _, ?_⟩
    refine rd_truL (SqL.of hxs) ?_
    by_cases hne : es = []
    · subst hne
      have hxe : xs = [] := List.length_eq_zero_iff.mp (by rw [hxl]; rfl)
      subst hxe
      walk_at "rd"
      exact q
    · obtain ⟨e, r, hl1, hl2, hl3⟩ := ent_last hxi hne
      have hxe : (!xs.isEmpty) = true := by
        cases xs with
        | nil => exact absurd (List.length_eq_zero_iff.mp hxl.symm) hne
        | cons _ _ => rfl
      rw [hxe]
      walk_at "rd"
      refine rd_fld ?_
      walk_at "rd"
      refine ⟨p, C, dx, _, .ref pe, rfl, hp, W.cl, W.nE, hF_e _ _ _, ?_⟩
      walk_at "rd"
      refine rd_ixL (SqL.of hxs) hl2 ?_
      walk_at "rd"
      refine rd_ixT (i := 2) (SqP.t hl3) (v := .int (e.2.2 : Int)) rfl ?_
      walk_at "rd"
      rw [lastM_of hl1] at q
      exact q
theorem ok_open {f C : Addr} {fd : FuncData} (F : Fun K "_is_open" "Hand._is_open" s_Hand_is_open f fd) (W : Hl K C) (mb : ∀ x ∈ bltns, mg x = none) : FnOk P w K mg base CX0 1 f fd ["self"] (spOpen C) := by
  refine F.ok sc_Hand_is_open (fun vs H Q E h => ?_) (fun cdv A outer s H vs Q E hr h => ?_)
  · obtain ⟨p, va, n, pe, tb, es, rfl, _⟩ := h
    rfl
  · obtain ⟨p, va, n, pe, tb, es, rfl, ⟨⟨dx, hp⟩, hva, ⟨xs, hxs, hxi⟩⟩, q⟩ := h
    refine ⟨_, (pss_one (ps_ret (pe_and (pe_cmpR op_gt (pe_callB (call_lenU K rfl) (by rfl) (mb _ (by decide)) (by decide +kernel) (pa_cons (pe_fld (pv 0) rfl) pa_nil)) pe_int (nomark _)) (pe_one (pe_cmpR (op_eqU K rfl hr.units) (pe_ix (ix_U K rfl) (pe_ix (ix_U K rfl) (pe_fld (pv 0) rfl) (pe_un un_neg pe_int) (fun _ _ => rfl)) pe_int (fun _ _ => rfl)) pe_str (nomark _)))))), ?_⟩
    have hxl : xs.length = es.length := by rw [hxi.len, List.length_map]
    walk_at "rd"
    refine rd_fld ?_
    walk_at "rd"
    refine ⟨p, C, dx, _, .ref pe, rfl, hp, W.cl, W.nE, hF_e _ _ _, ?_⟩
    walk_at "rd"
    refine rd_ite (fun c => ?_) (fun c => ?_)
    · have hne : es ≠ [] := fun e => by
        rw [hxl, e] at c
        exact absurd c (by decide)
      obtain ⟨e, r, hl1, hl2, hl3⟩ := ent_last hxi hne
      walk_at "rd"
      refine rd_fld ?_
      walk_at "rd"
      refine ⟨p, C, dx, _, .ref pe, rfl, hp, W.cl, W.nE, hF_e _ _ _, ?_⟩
      walk_at "rd"
      refine rd_ixL (SqL.of hxs) hl2 ?_
      walk_at "rd"
      refine rd_ixT (i := 0) (SqP.t hl3) (v := .str e.1) rfl ?_
      walk_at "rd"
      rw [openB_of hl1] at q
      exact q
    · have hne : es = [] := List.length_eq_zero_iff.mp (by omega)
      subst hne
      exact q
def doneL (es : List Ent) : List Int := (es.filter fun e => decide (e.1 = doneS)).map fun e => (e.2.2 : Int)
def spDone (T : List (Addr × Str)) (C : Addr) : Sp := fun vs H Q _ => ∃ (p : Addr) (va : V) (n : Nat) (pe : Addr) (tb : List Rw) (es : List Ent), vs = [.ref p] ∧ HandAt H p C va n pe tb es ∧ es.length ≤ 1000 ∧ ∀ v H', Ext T [] H H' → Im H' v (.tuple ((doneL es).map .int)) → Q v H'
theorem ok_done {f C : Addr} {fd : FuncData} (F : Fun K "done" "Hand.done" s_Hand_done f fd) (W : Hl K C) (mb : ∀ x ∈ bltns, mg x = none) : FnOk P w K mg base CX0 1 f fd ["self"] (spDone T C) := by
  refine F.ok sc_Hand_done (fun vs H Q E h => ?_) (fun cdv A outer s H vs Q E hr h => ?_)
  · obtain ⟨p, va, n, pe, tb, es, rfl, _⟩ := h
    rfl
  · obtain ⟨p, va, n, pe, tb, es, rfl, ⟨⟨dx, hp⟩, hva, ⟨xs, hxs, hxi⟩⟩, hel, q⟩ := h
    refine ⟨_, (pss_one (ps_ret (pe_callTy (call_tupU K rfl) (by rfl) (mb _ (by decide)) (by decide +kernel) (pa_cons (pe_lc (own := [("word", 1), ("_", 2), ("moment", 3)]) rfl sc_Hand_done.nd (pi_seq K rfl (pe_fld (pv 0) rfl)) (blkOk_by (N := N_Hand_done) (sc := defScope s_Hand_done) (by decide +kernel)) (fun _ _ _ _ _ => (pg_tupU (n := 3) K rfl rfl (pgs_cons (pg_name (i := 1) sc_Hand_done.nd rfl (Or.inl rfl)) (pgs_cons (pg_name (i := 2) sc_Hand_done.nd rfl (Or.inl rfl)) (pgs_cons (pg_name (i := 3) sc_Hand_done.nd rfl (Or.inl rfl)) pgs_nil))))) (fun _ _ _ _ _ => (pts_one (pt_cmpR (op_eqU K rfl hr.units) (pv 1) pe_str (nomark _)))) (fun _ _ _ _ _ => (pv 3))) pa_nil)))), ?_⟩
    have hxl : xs.length = es.length := by rw [hxi.len, List.length_map]
    walk_at "rd"
    refine rd_fld ?_
    walk_at "rd"
    refine ⟨p, C, dx, _, .ref pe, rfl, hp, W.cl, W.nE, hF_e _ _ _, ?_⟩
    walk_at "rd"
    refine lcg_rel T [] walk_list xs rfl (fun i H x H' y => y) (by simp) (fun H' e => SqL.of (lst.x hxs e)) (Nat.lt_of_le_of_lt (show xs.length ≤ 1000 by omega) (by decide)) (pIm H entD fun e => decide (e.1 = doneS)) (fun y x => ∃ e, Im H x (entD e) ∧ y = V.int (e.2.2 : Int)) (fun i x hx H' e' R S' h1 h2 => ?_) (fun D H2 ys nD e2 hD hys => ?_)
    · obtain ⟨e, he, hxe⟩ := ent_getX hxi hx
      have hpe := pIm_eq (c := fun e : Ent => decide (e.1 = doneS)) (fun a b => ent_injX a b) hxe
      obtain ⟨r, rfl, hr⟩ := (hxe.x e').ent'
      refine rd_gtup (SqP.t hr) rfl (rd_gcons (rd_name (rd_gcons (rd_name (rd_gcons (rd_name (rd_gnil ⟨rfl, ?_⟩)))))))
      have ed : decide (e.1 = Str.ofString "done") = decide (e.1 = doneS) := rfl
      walk_at "rd"
      rw [ed]
      refine rd_ite (fun c => ?_) (fun c => ?_)
      · walk_at "rd"
        exact h1 (by rw [hpe]; exact decide_eq_true c) _ _ .refl ⟨e, hxe, rfl⟩
      · exact h2 (by rw [hpe]; exact decide_eq_false c) _ .refl
    · have h3 := each_filter (c := fun e : Ent => decide (e.1 = doneS)) (fun a b => ent_injX a b) hxi
      have key : ∀ {zs : List V} {as : List Ent}, EachIs (fun x a => Im H x (entD a)) zs as → ImAll H zs (as.map entD) := by
        intro zs as h
        induction h with
        | nil => exact .nil
        | cons a _ ih => exact .cons a ih
      have hys := eachs_of ent_injX hys (key h3)
      have hD : H2 D = some (.lst ((doneL es).map V.int)) := by
        rw [hD, hys]
        unfold doneL
        rw [List.map_map]
        rfl
      walk_at "rd"
      refine rd_tupL (SqL.of hD) fun l2 nl2 => ?_
      obtain ⟨nl2, e7, hl2⟩ := alT (T := T) nl2 ((doneL es).map V.int)
      generalize upd H2 l2 _ = H7 at e7 hl2 ⊢
      exact q _ _ (e2.trans e7) (im_intsT hl2)
end

open PySem PySem.Spec PyProof.Rows L2
open PySem.W (EachIs)
def strL (ls : List (List Nat)) : List V := (ls.map S).map V.str
theorem line_len {e : Ent} (h : EntOk e) : (lineL e).length ≤ 17 := by
  have hw : (sg e.1).length ≤ 5 := by rw [sg_len]; exact word_len h.1
  have h2 : (TL.numL e.2.1).length ≤ 5 := TL.numL_len (by decide) (by simpa using h.2.1)
  have h3 : (TL.numL e.2.2).length ≤ 5 := TL.numL_len (by decide) (by simpa using h.2.2)
  show (sg e.1 ++ ([32] ++ (TL.numL e.2.1 ++ ([32] ++ TL.numL e.2.2)))).length ≤ 17
  simp only [List.length_append, List.length_cons, List.length_nil]
  omega
theorem joinL_nil : ∀ ls : List (List Nat), TL.joinL [] ls = ls.flatten
  | [] => rfl
  | [p] => by simp [TL.joinL]
  | p :: q :: r => by
    show p ++ ([] ++ TL.joinL [] (q :: r)) = _
    rw [joinL_nil (q :: r)]
    simp
theorem join_nls (ls : List (List Nat)) : Txt.join (Str.ofString "") ((ls.map (· ++ [10])).map S) = S (nls ls) := sg_inj (by
  rw [TL.join_eq]
  show TL.tl _ = _
  rw [TL.tl_join]
  show TL.joinL (TL.tl (Str.ofString "")) _ = _
  rw [show TL.tl (Str.ofString "") = [] from by decide +kernel, joinL_nil, sg_S]
  unfold nls
  congr 1
  rw [List.map_map]
  exact List.map_id _)
theorem sum_nls : ∀ {ls : List (List Nat)}, (∀ l ∈ ls, l.length ≤ 17) → (((ls.map (· ++ [10])).map S).map (·.length)).sum ≤ 18 * ls.length
  | [], _ => by simp
  | l :: r, h => by
    have h1 := h l List.mem_cons_self
    have h2 := sum_nls (ls := r) fun x hx => h x (List.mem_cons_of_mem _ hx)
    simp only [List.map_cons, List.sum_cons, List.length_cons]
    have e : (S (l ++ [10])).length = l.length + 1 := by
      rw [← sg_len, sg_S, List.length_append]
      rfl
    rw [e]
    omega
section
variable {T : List (Addr × Str)} {P : Program} {w : World} {K : PySem.W.Frag} {mg : Str → Option Value} {base : Heap}
local macro_rules | `(tactic| walk_at "tr") => `(tactic| first
  | assumption
  | exact Ext.refl
  | ((with_reducible refine' Im.x (T := T) (H := ?trH) ?tra ?tre); (case tre => assumption); (case tra => walk_at "tr"))
  | ((with_reducible refine' Im.y (T := T) (H := ?trH) ?tra ?tre ?trt); (case tre => assumption); (case trt => walk_at "tr"); (case tra => walk_at "tr"))
  | ((with_reducible refine' ImAll.x (T := T) (H := ?trH) ?tra ?tre); (case tre => assumption); (case tra => walk_at "tr"))
  | ((with_reducible refine' ImAll.y (T := T) (H := ?trH) ?tra ?tre ?trt); (case tre => assumption); (case trt => walk_at "tr"); (case tra => walk_at "tr"))
  | ((with_reducible refine' Ls.x (T := T) (H := ?trH) ?tra ?tre); (case tre => assumption); (case tra => walk_at "tr"))
  | ((with_reducible refine' Ls.y (T := T) (H := ?trH) ?tra ?tre ?trn ?trt); (case tre => assumption); (case trt => walk_at "tr"); (case trn => walk_at "tr"); (case tra => walk_at "tr"))
  | ((with_reducible refine' SqP.x (T := T) (H := ?trH) ?tra ?tre); (case tre => assumption); (case tra => walk_at "tr"))
  | ((with_reducible refine' SqP.y (T := T) (H := ?trH) ?tra ?tre ?trt); (case tre => assumption); (case trt => walk_at "tr"); (case tra => walk_at "tr"))
  | ((with_reducible refine' StAt.x (T := T) (H := ?trH) ?tra ?tre); (case tre => assumption); (case tra => walk_at "tr"))
  | ((with_reducible refine' StAt.y (T := T) (H := ?trH) ?tra ?tre ?trt); (case tre => assumption); (case trt => walk_at "tr"); (case tra => walk_at "tr"))
  | ((with_reducible refine' Pools.ext0 (T := T) (H := ?trH) ?tra ?tre); (case tre => assumption); (case tra => walk_at "tr"))
  | ((with_reducible refine' Pools.ext (T := T) (H := ?trH) ?tra ?tre ?trt); (case tre => assumption); (case trt => walk_at "tr"); (case tra => walk_at "tr"))
  | ((with_reducible refine' CL.x (T := T) (H := ?trH) ?tra ?tre); (case tre => assumption); (case tra => walk_at "tr"))
  | ((with_reducible refine' CL.y (T := T) (H := ?trH) ?tra ?tre); (case tre => assumption); (case tra => walk_at "tr"))
  | ((with_reducible refine' Tape.ext (T := T) (H := ?trH) ?tra ?tre); (case tre => assumption); (case tra => walk_at "tr"))
  | ((with_reducible refine' lst.x (T := T) (H := ?trH) ?tra ?tre); (case tre => assumption); (case tra => walk_at "tr"))
  | ((with_reducible refine' lst.y (T := T) (H := ?trH) ?tra ?tre ?trn); (case tre => assumption); (case trn => walk_at "tr"); (case tra => walk_at "tr"))
  | ((with_reducible refine' tup.x (T := T) (H := ?trH) ?tra ?tre); (case tre => assumption); (case tra => walk_at "tr"))
  | ((with_reducible refine' tup.y (T := T) (H := ?trH) ?tra ?tre ?trt); (case tre => assumption); (case trt => walk_at "tr"); (case tra => walk_at "tr"))
  | ((with_reducible refine' frz.x (T := T) (H := ?trH) ?tra ?tre); (case tre => assumption); (case tra => walk_at "tr"))
  | ((with_reducible refine' frz.y (T := T) (H := ?trH) ?tra ?tre ?trt); (case tre => assumption); (case trt => walk_at "tr"); (case tra => walk_at "tr"))
  | ((with_reducible refine' Im.z (T := T) (H := ?trH) ?tra ?tre ?trt); (case tre => assumption); (case trt => assumption); (case tra => walk_at "tr"))
  | ((with_reducible refine' ImAll.z (T := T) (H := ?trH) ?tra ?tre ?trt); (case tre => assumption); (case trt => assumption); (case tra => walk_at "tr"))
  | ((with_reducible refine' StAt.z (T := T) (H := ?trH) ?tra ?tre ?trt); (case tre => assumption); (case trt => assumption); (case tra => walk_at "tr"))
  | ((with_reducible refine' SqP.z (T := T) (H := ?trH) ?tra ?tre ?trt); (case tre => assumption); (case trt => assumption); (case tra => walk_at "tr"))
  | ((with_reducible refine' tup.z (T := T) (H := ?trH) ?tra ?tre ?trt); (case tre => assumption); (case trt => assumption); (case tra => walk_at "tr"))
  | ((with_reducible refine' Ls.z (T := T) (H := ?trH) ?tra ?tre ?trt ?trn); (case tre => assumption); (case trt => assumption); (case trn => assumption); (case tra => walk_at "tr"))
  | ((with_reducible refine' lst.z (T := T) (H := ?trH) ?tra ?tre ?trn); (case tre => assumption); (case trn => assumption); (case tra => walk_at "tr"))
  | ((with_reducible refine' CL.z (T := T) (H := ?trH) ?tra ?tre ?trn); (case tre => assumption); (case trn => assumption); (case tra => walk_at "tr"))
  | ((with_reducible refine' Tape.ne1 (H := ?trH) ?trt ?trn); (case trn => assumption); (case trt => walk_at "tr"))
  | ((with_reducible refine' Ext.trans (H1 := ?trH) ?tra (Ext.any ?tre)); (case tre => assumption); (case tra => walk_at "tr"))
  | ((with_reducible refine' Ext.trans (H1 := ?trH) ?tra ?tre); (case tre => assumption); (case tra => walk_at "tr"))
  | ((with_reducible refine' Ext.back1 (T := T) (H1 := ?trH) ?tre ?trn ?tra); (case tra => assumption); (case trn => walk_at "tr"); (case tre => walk_at "tr"))
  | ((with_reducible refine' Ext.back0 (T := T) (H1 := ?trH) ?tre ?tra); (case tra => assumption); (case tre => walk_at "tr"))
  | ((with_reducible refine' SqT.of ?tra); (case tra => walk_at "tr"))
  | ((with_reducible refine' SqL.of ?tra); (case tra => walk_at "tr")))
local macro_rules | `(tactic| walk_at "al") => `(tactic| (refine ⟨by first | (show _ ≤ sizeLine; decide) | walk_at "sz", ?_⟩; intro alp aln; generalize alG : upd _ alp _ = alH; obtain ⟨aln2, alx, alh⟩ := al_of (T := T) aln alG; clear alG aln))
local macro_rules | `(tactic| walk_at "al0") => `(tactic| (intro alp aln; generalize alG : upd _ alp _ = alH; obtain ⟨aln2, alx, alh⟩ := al_of (T := T) aln alG; clear alG aln))

theorem rd_join_nls {H : Hp} {Q : VK} {p : Addr} {ls : List (List Nat)} (h : H p = some (.lst (strL (ls.map (· ++ [10]))))) (h1 : ∀ l ∈ ls, l.length ≤ 17) (h2 : ls.length ≤ 100) (q : Q (.str (S (nls ls))) H) : rJoin K (.str (Str.ofString "")) [.ref p] H Q := by
  refine rd_join (ys := (ls.map (· ++ [10])).map S) (SqL.of h) ?_ ?_
  · have := sum_nls h1
    rw [show (Str.ofString "").length = 0 from by decide +kernel]
    omega
  · rw [join_nls]
    exact q
def spBook (T : List (Addr × Str)) (C : Addr) : Sp := fun vs H Q _ => ∃ (p : Addr) (va : V) (n : Nat) (pe : Addr) (tb : List Rw) (es : List Ent), vs = [.ref p] ∧ HandAt H p C va n pe tb es ∧ es.length ≤ 100 ∧ (∀ e ∈ es, EntOk e) ∧ ∀ H', Ext T [] H H' → Q (.str (S (nls (es.map lineL)))) H'
theorem ok_book {f C : Addr} {fd : FuncData} (F : Fun K "book" "Hand.book" s_Hand_book f fd) (W : Hl K C) (mb : ∀ x ∈ bltns, mg x = none) (G_entry_line : Ok P w K mg base 1 "entry_line" ["entry"] spEntLine) : FnOk P w K mg base CX0 2 f fd ["self"] (spBook T C) := by
  refine F.ok sc_Hand_book (fun vs H Q E h => ?_) (fun cdv A outer s H vs Q E hr h => ?_)
  · obtain ⟨p, va, n, pe, tb, es, rfl, _⟩ := h
    rfl
  · obtain ⟨p, va, n, pe, tb, es, rfl, ⟨⟨dx, hp⟩, hva, ⟨xs, hxs, hxi⟩⟩, hel, hok, q⟩ := h
    refine ⟨_, (pss_one (ps_ret (pe_m1 PySem.F.slot_str_join PySem.F.type_str_join (mt_joinU K rfl) pe_str (pe_lc (own := [("entry", 1)]) (g := gName 1) (tt := tYes) rfl sc_Hand_book.nd (pi_seq K rfl (pe_fld (pv 0) rfl)) (blkOk_by (N := N_Hand_book) (sc := defScope s_Hand_book) (by decide +kernel)) (fun _ _ _ _ _ => (pg_name (i := 1) sc_Hand_book.nd rfl (Or.inl rfl))) (fun _ _ _ _ _ => pts_nil) (fun _ _ _ _ _ => (pe_callO G_entry_line (hr.mono (by decide)) (by rfl) (pa_cons (pv 1) pa_nil))))))), ?_⟩
    have hxl : xs.length = es.length := by rw [hxi.len, List.length_map]
    walk_at "rd"
    refine rd_fld ?_
    walk_at "rd"
    refine ⟨p, C, dx, _, .ref pe, rfl, hp, W.cl, W.nE, hF_e _ _ _, ?_⟩
    walk_at "rd"
    refine lcg_rel T [] walk_list xs rfl (fun i H x H' y => y) (by simp) (fun H' e => SqL.of (lst.x hxs e)) (Nat.lt_of_le_of_lt (show xs.length ≤ 100 by omega) (by decide)) (fun _ => true) (fun y x => ∃ e, Im H x (entD e) ∧ y = V.str (S (lineL e ++ [10]))) (fun i x hx H' e' R S' h1 _ => ?_) (fun pa H5 ys npa e5 hpa hys => ?_)
    · obtain ⟨e, he, hxe⟩ := ent_getX hxi hx
      walk_at "rd"
      refine ⟨rfl, ?_⟩
      walk_at "rd"
      exact ⟨x, e, rfl, hxe.x e', hok e (List.mem_of_getElem? he), h1 rfl _ _ .refl ⟨e, hxe, rfl⟩⟩
    · rw [filtT] at hys
      have hys := eachs_of ent_injX hys hxi
      subst hys
      have hpa : H5 pa = some (.lst (strL ((es.map lineL).map (· ++ [10])))) := by
        rw [hpa]
        unfold strL
        rw [List.map_map, List.map_map, List.map_map]
        rfl
      walk_at "rd"
      refine rd_join_nls hpa (fun x hx => ?_) (by rw [List.length_map]; exact hel) (q _ e5)
      obtain ⟨e, he, rfl⟩ := List.mem_map.mp hx
      exact line_len (hok e he)
end

open PySem PySem.Spec PyProof.Rows L2
open PySem.W (EachIs)
def nextR (n : Nat) (tb : List Rw) (es : List Ent) (m : Nat) : PyData :=
  if n < (doneL es).length + 1 then .tuple [.str "end"] else if openB es = true then .tuple [.str "open", .int (((doneL es).length + 1 : Nat) : Int)]
  else if (m : Int) < askF tb (doneL es) then .tuple [.str "wait", .int (askF tb (doneL es))] else .tuple [.str "ask", .int (((doneL es).length + 1 : Nat) : Int)]
def nextE (n : Nat) (tb : List Rw) (es : List Ent) (m : Nat) : List Ent :=
  if n < (doneL es).length + 1 then es else if openB es = true then es else if (m : Int) < askF tb (doneL es) then es else es ++ [(askedS, (doneL es).length + 1, m)]
section
variable {T : List (Addr × Str)} {P : Program} {w : World} {K : PySem.W.Frag} {mg : Str → Option Value} {base : Heap}
local macro_rules | `(tactic| walk_at "tr") => `(tactic| first
  | assumption
  | exact Ext.refl
  | ((with_reducible refine' Im.x (T := T) (H := ?trH) ?tra ?tre); (case tre => assumption); (case tra => walk_at "tr"))
  | ((with_reducible refine' Im.y (T := T) (H := ?trH) ?tra ?tre ?trt); (case tre => assumption); (case trt => walk_at "tr"); (case tra => walk_at "tr"))
  | ((with_reducible refine' ImAll.x (T := T) (H := ?trH) ?tra ?tre); (case tre => assumption); (case tra => walk_at "tr"))
  | ((with_reducible refine' ImAll.y (T := T) (H := ?trH) ?tra ?tre ?trt); (case tre => assumption); (case trt => walk_at "tr"); (case tra => walk_at "tr"))
  | ((with_reducible refine' Ls.x (T := T) (H := ?trH) ?tra ?tre); (case tre => assumption); (case tra => walk_at "tr"))
  | ((with_reducible refine' Ls.y (T := T) (H := ?trH) ?tra ?tre ?trn ?trt); (case tre => assumption); (case trt => walk_at "tr"); (case trn => walk_at "tr"); (case tra => walk_at "tr"))
  | ((with_reducible refine' SqP.x (T := T) (H := ?trH) ?tra ?tre); (case tre => assumption); (case tra => walk_at "tr"))
  | ((with_reducible refine' SqP.y (T := T) (H := ?trH) ?tra ?tre ?trt); (case tre => assumption); (case trt => walk_at "tr"); (case tra => walk_at "tr"))
  | ((with_reducible refine' StAt.x (T := T) (H := ?trH) ?tra ?tre); (case tre => assumption); (case tra => walk_at "tr"))
  | ((with_reducible refine' StAt.y (T := T) (H := ?trH) ?tra ?tre ?trt); (case tre => assumption); (case trt => walk_at "tr"); (case tra => walk_at "tr"))
  | ((with_reducible refine' Pools.ext0 (T := T) (H := ?trH) ?tra ?tre); (case tre => assumption); (case tra => walk_at "tr"))
  | ((with_reducible refine' Pools.ext (T := T) (H := ?trH) ?tra ?tre ?trt); (case tre => assumption); (case trt => walk_at "tr"); (case tra => walk_at "tr"))
  | ((with_reducible refine' CL.x (T := T) (H := ?trH) ?tra ?tre); (case tre => assumption); (case tra => walk_at "tr"))
  | ((with_reducible refine' CL.y (T := T) (H := ?trH) ?tra ?tre); (case tre => assumption); (case tra => walk_at "tr"))
  | ((with_reducible refine' Tape.ext (T := T) (H := ?trH) ?tra ?tre); (case tre => assumption); (case tra => walk_at "tr"))
  | ((with_reducible refine' lst.x (T := T) (H := ?trH) ?tra ?tre); (case tre => assumption); (case tra => walk_at "tr"))
  | ((with_reducible refine' lst.y (T := T) (H := ?trH) ?tra ?tre ?trn); (case tre => assumption); (case trn => walk_at "tr"); (case tra => walk_at "tr"))
  | ((with_reducible refine' tup.x (T := T) (H := ?trH) ?tra ?tre); (case tre => assumption); (case tra => walk_at "tr"))
  | ((with_reducible refine' tup.y (T := T) (H := ?trH) ?tra ?tre ?trt); (case tre => assumption); (case trt => walk_at "tr"); (case tra => walk_at "tr"))
  | ((with_reducible refine' frz.x (T := T) (H := ?trH) ?tra ?tre); (case tre => assumption); (case tra => walk_at "tr"))
  | ((with_reducible refine' frz.y (T := T) (H := ?trH) ?tra ?tre ?trt); (case tre => assumption); (case trt => walk_at "tr"); (case tra => walk_at "tr"))
  | ((with_reducible refine' Im.z (T := T) (H := ?trH) ?tra ?tre ?trt); (case tre => assumption); (case trt => assumption); (case tra => walk_at "tr"))
  | ((with_reducible refine' ImAll.z (T := T) (H := ?trH) ?tra ?tre ?trt); (case tre => assumption); (case trt => assumption); (case tra => walk_at "tr"))
  | ((with_reducible refine' StAt.z (T := T) (H := ?trH) ?tra ?tre ?trt); (case tre => assumption); (case trt => assumption); (case tra => walk_at "tr"))
  | ((with_reducible refine' SqP.z (T := T) (H := ?trH) ?tra ?tre ?trt); (case tre => assumption); (case trt => assumption); (case tra => walk_at "tr"))
  | ((with_reducible refine' tup.z (T := T) (H := ?trH) ?tra ?tre ?trt); (case tre => assumption); (case trt => assumption); (case tra => walk_at "tr"))
  | ((with_reducible refine' Ls.z (T := T) (H := ?trH) ?tra ?tre ?trt ?trn); (case tre => assumption); (case trt => assumption); (case trn => assumption); (case tra => walk_at "tr"))
  | ((with_reducible refine' lst.z (T := T) (H := ?trH) ?tra ?tre ?trn); (case tre => assumption); (case trn => assumption); (case tra => walk_at "tr"))
  | ((with_reducible refine' CL.z (T := T) (H := ?trH) ?tra ?tre ?trn); (case tre => assumption); (case trn => assumption); (case tra => walk_at "tr"))
  | ((with_reducible refine' Tape.ne1 (H := ?trH) ?trt ?trn); (case trn => assumption); (case trt => walk_at "tr"))
  | ((with_reducible refine' Ext.trans (H1 := ?trH) ?tra (Ext.any ?tre)); (case tre => assumption); (case tra => walk_at "tr"))
  | ((with_reducible refine' Ext.trans (H1 := ?trH) ?tra ?tre); (case tre => assumption); (case tra => walk_at "tr"))
  | ((with_reducible refine' Ext.back1 (T := T) (H1 := ?trH) ?tre ?trn ?tra); (case tra => assumption); (case trn => walk_at "tr"); (case tre => walk_at "tr"))
  | ((with_reducible refine' Ext.back0 (T := T) (H1 := ?trH) ?tre ?tra); (case tra => assumption); (case tre => walk_at "tr"))
  | ((with_reducible refine' SqT.of ?tra); (case tra => walk_at "tr"))
  | ((with_reducible refine' SqL.of ?tra); (case tra => walk_at "tr")))
local macro_rules | `(tactic| walk_at "al") => `(tactic| (refine ⟨by first | (show _ ≤ sizeLine; decide) | walk_at "sz", ?_⟩; intro alp aln; generalize alG : upd _ alp _ = alH; obtain ⟨aln2, alx, alh⟩ := al_of (T := T) aln alG; clear alG aln))
local macro_rules | `(tactic| walk_at "al0") => `(tactic| (intro alp aln; generalize alG : upd _ alp _ = alH; obtain ⟨aln2, alx, alh⟩ := al_of (T := T) aln alG; clear alG aln))

theorem FO_NotAllowed : FldOk "word" := fld_word
/-- an entry more in the hand's own list -/
theorem HandAt.push {H : Hp} {p C pe : Addr} {va : V} {n : Nat} {tb : List Rw} {es : List Ent} {xs : List V} {e : Ent} {tq : Addr} {dx : Addr} (hp : H p = some (.ins C dx (hF va (.int (n : Int)) (.ref pe)))) (hva : Im H va (.tuple (tb.map rwD))) (hxs : H pe = some (.lst xs)) (hxi : ImAll H xs (es.map entD)) (hq : H tq = some (.tup [.str e.1, .int (e.2.1 : Int), .int (e.2.2 : Int)])) (hs : PyData.strOk e.1 = true) :
    HandAt (upd H pe (.lst (xs ++ [V.ref tq]))) p C va n pe tb (es ++ [e]) ∧ Ext T [pe] H (upd H pe (.lst (xs ++ [V.ref tq]))) := by
  obtain ⟨g1, g2⟩ := Ls.app (T := T) hxs hxi (ent_new (e := e) hq hs)
  have hL : Lsts H [pe] := lsts_one hxs
  have hne : p ≠ pe := fun z => by
    rw [z, hxs] at hp
    cases hp
  refine ⟨⟨⟨dx, by rw [upd_ne hne]; exact hp⟩, Im.ext g2 hL _ _ hva, ?_⟩, g2⟩
  rw [List.map_append]
  exact g1
theorem doneL_len (es : List Ent) : (doneL es).length ≤ es.length := by
  unfold doneL
  rw [List.length_map]
  exact List.length_filter_le _ _
def spNext (T : List (Addr × Str)) (C CN : Addr) : Sp := fun vs H Q E => ∃ (p : Addr) (va : V) (n : Nat) (pe : Addr) (tb : List Rw) (es : List Ent) (m : Nat), vs = [.ref p, .int (m : Int)] ∧ HandAt H p C va n pe tb es ∧ TbLt tb ∧ tb.length ≤ 100 ∧ es.length ≤ 100 ∧
  (lastM es ≤ m → ∀ v H', Ext T [pe] H H' → Im H' v (nextR n tb es m) → HandAt H' p C va n pe tb (nextE n tb es m) → Q v H') ∧
  (m < lastM es → ∀ d H', Ext T [] H H' → H' d = none → E (.ref CN) (some d) (upd H' d (.xd [(wordS, .str "time")])))
theorem ok_next {f C CN fI : Addr} {fd : FuncData} (F : Fun K "next" "Hand.next" s_Hand_next f fd) (W : Hl K C) (mb : ∀ x ∈ bltns, mg x = none) (T_NotAllowed : ExcT P K mg "NotAllowed" "word" CN fI)
    (M__latest : MeO P w K mg base 1 C "_latest" ["self"] (spLatest C)) (M__is_open : MeO P w K mg base 1 C "_is_open" ["self"] (spOpen C)) (M_done : MeO P w K mg base 1 C "done" ["self"] (spDone T C)) (G_ask_moment : Ok P w K mg base 1 "ask_moment" ["table", "done"] (spAsk T K)) : FnOk P w K mg base (L2.CX P w) 3 f fd ["self", "moment"] (spNext T C CN) := by
  refine F.okX sc_Hand_next (fun vs H Q E h => ?_) (fun cdv A outer s H vs Q E hr h => ?_)
  · obtain ⟨p, va, n, pe, tb, es, m, rfl, _⟩ := h
    rfl
  · obtain ⟨p, va, n, pe, tb, es, m, rfl, hH, htb, htl, hel, q1, q2⟩ := h
    obtain ⟨⟨dx, hp⟩, hva, ⟨xs, hxs, hxi⟩⟩ := id hH
    refine ⟨_, (pss_cons (ps_if (pt_cmpR op_lt (pv 1) (pe_methO0 M__latest (hr.mono (by decide)) (pv 0)) (nomark _)) (pss_one (ps_raiseSup rfl FO_NotAllowed T_NotAllowed.toSupTxt hr (takes_of rfl rfl rfl rfl) (pa_cons pe_str pa_nil))) pss_nil)
   (pss_cons (ps_set (i := 2) sc_Hand_next.nd rfl (.inl rfl) (pe_methO0 M_done (hr.mono (by decide)) (pv 0)))
   (pss_cons (ps_set (i := 3) sc_Hand_next.nd rfl (.inl rfl) (pe_op (op_plus K rfl) (pe_callB (call_lenU K rfl) (by rfl) (mb _ (by decide)) (by decide +kernel) (pa_cons (pv 2) pa_nil)) pe_int))
   (pss_cons (ps_if (pt_cmpR op_gt (pv 3) (pe_fld (pv 0) rfl) (nomark _)) (pss_one (ps_ret (pe_tup (pa_cons pe_str pa_nil)))) pss_nil)
   (pss_cons (ps_if (pt_E (pe_methO0 M__is_open (hr.mono (by decide)) (pv 0))) (pss_one (ps_ret (pe_tup (pa_cons pe_str (pa_cons (pv 3) pa_nil))))) pss_nil)
   (pss_cons (ps_set (i := 4) sc_Hand_next.nd rfl (.inl rfl) (pe_callO G_ask_moment (hr.mono (by decide)) (by rfl) (pa_cons (pe_fld (pv 0) rfl) (pa_cons (pv 2) pa_nil))))
   (pss_cons (ps_if (pt_cmpR op_lt (pv 1) (pv 4) (nomark _)) (pss_one (ps_ret (pe_tup (pa_cons pe_str (pa_cons (pv 4) pa_nil))))) pss_nil)
   (pss_cons (ps_expr (pe_bm PySem.F.plainAttrs_list PySem.F.slot_list_append PySem.F.type_list_append mt_append (pe_fld (pv 0) rfl) (pa_cons (pe_tup (pa_cons pe_str (pa_cons (pv 3) (pa_cons (pv 1) pa_nil)))) pa_nil)))
   (pss_one (ps_ret (pe_tup (pa_cons pe_str (pa_cons (pv 3) pa_nil))))))))))))), ?_⟩
    have hxl : xs.length = es.length := by rw [hxi.len, List.length_map]
    have hdl := doneL_len es
    refine rd_seq ?_
    walk_at "rd"
    refine rd_meth ?_
    walk_at "rd"
    refine ⟨p, dx, _, rfl, hp, hF_no _ _ _ (by decide +kernel) (by decide +kernel) (by decide +kernel), ?_⟩
    walk_at "rd"
    refine ⟨p, va, n, pe, tb, es, rfl, hH, ?_⟩
    walk_at "rd"
    refine rd_ite (fun c => ?_) (fun c => ?_)
    · walk_at "rd"
      refine rd_raise ?_
      walk_at "rd"
      exact ⟨_, rfl, .inl ⟨_, rfl, by decide +kernel⟩, fun d hd => q2 (by omega) d _ .refl hd⟩
    · have q1 := q1 (by omega)
      walk_at "rdn"
      refine rd_seq ?_
      walk_at "rdn"
      refine rd_meth ?_
      walk_at "rdn"
      refine ⟨p, dx, _, rfl, hp, hF_no _ _ _ (by decide +kernel) (by decide +kernel) (by decide +kernel), ?_⟩
      walk_at "rdn"
      refine ⟨p, va, n, pe, tb, es, rfl, hH, by omega, fun v H1 e1 hv => ?_⟩
      obtain ⟨da, rfl, hda⟩ := im_ints hv
      have hp1 := e1.keep p _ (by simp) (fun _ z => by cases z) hp
      have hH1 := hH.x e1
      have hva1 := hva.x e1
      have hxs1 := lst.x hxs e1
      have hxi1 := hxi.x e1
      unfold nextR nextE at q1
      generalize hdn : doneL es = dn at q1 hda hdl
      have hlen : ((dn.map V.int).length : Int) + 1 = ((dn.length + 1 : Nat) : Int) := by
        rw [List.length_map]
        omega
      walk_at "rdn"
      refine rd_seq ?_
      walk_at "rdn"
      refine rd_lenT (SqP.t hda) ?_
      walk_at "rdn"
      rw [hlen]
      refine rd_seq ?_
      walk_at "rd"
      refine rd_fld ?_
      walk_at "rd"
      refine ⟨p, C, dx, _, .int (n : Int), rfl, hp1, W.cl, W.nC, hF_c _ _ _, ?_⟩
      walk_at "rd"
      refine rd_ite (fun c1 => ?_) (fun c1 => ?_)
      · rw [if_pos (show n < dn.length + 1 by omega), if_pos (show n < dn.length + 1 by omega)] at q1
        walk_at "rd"
        refine ⟨by walk_at "sz", fun pt npt => ?_⟩
        obtain ⟨npt, e2, hpt⟩ := alT (T := T) npt [V.str (Str.ofString "end")]
        have hH2 := hH1.x e2
        generalize upd H1 pt _ = H2 at e2 hpt hH2 ⊢
        exact q1 _ _ (e1.trans e2).any (.tup hpt (.cons (.str _ (by decide +kernel)) .nil)) hH2
      · rw [if_neg (show ¬ n < dn.length + 1 by omega), if_neg (show ¬ n < dn.length + 1 by omega)] at q1
        walk_at "rdn"
        refine rd_seq ?_
        walk_at "rd"
        refine rd_meth ?_
        walk_at "rd"
        refine ⟨p, dx, _, rfl, hp1, hF_no _ _ _ (by decide +kernel) (by decide +kernel) (by decide +kernel), ?_⟩
        walk_at "rd"
        refine ⟨p, va, n, pe, tb, es, rfl, hH1, ?_⟩
        refine ⟨_, rfl, ?_⟩
        refine rd_iteB (b := openB es) (fun c2 => ?_) (fun c2 => ?_)
        · rw [if_pos c2, if_pos c2] at q1
          walk_at "rd"
          refine ⟨by walk_at "sz", fun pt npt => ?_⟩
          obtain ⟨npt, e2, hpt⟩ := alT (T := T) npt [V.str (Str.ofString "open"), .int ((dn.length + 1 : Nat) : Int)]
          have hH2 := hH1.x e2
          generalize upd H1 pt _ = H2 at e2 hpt hH2 ⊢
          exact q1 _ _ (e1.trans e2).any (.tup hpt (.cons (.str _ (by decide +kernel)) (.cons (.int _) .nil))) hH2
        · rw [if_neg (show ¬ openB es = true by rw [c2]; decide), if_neg (show ¬ openB es = true by rw [c2]; decide)] at q1
          walk_at "rdn"
          refine rd_seq ?_
          walk_at "rdn"
          refine rd_fld ?_
          walk_at "rdn"
          refine ⟨p, C, dx, _, va, rfl, hp1, W.cl, W.nT, hF_t _ _ _, ?_⟩
          walk_at "rdn"
          refine ⟨va, da, false, tb, dn, rfl, hva1, SqT.of hda, htb, htl, by omega, fun H2 e2 => ?_⟩
          have hp2 := e2.keep p _ (by simp) (fun _ z => by cases z) hp1
          have hH2 := hH1.x e2
          have hxs2 := lst.x hxs1 e2
          have hxi2 := hxi1.x e2
          have hva2 := hva1.x e2
          walk_at "rdn"
          refine rd_seq ?_
          walk_at "rd"
          refine rd_ite (fun c3 => ?_) (fun c3 => ?_)
          · rw [if_pos c3, if_pos c3] at q1
            walk_at "rd"
            refine ⟨by walk_at "sz", fun pt npt => ?_⟩
            obtain ⟨npt, e3, hpt⟩ := alT (T := T) npt [V.str (Str.ofString "wait"), .int (askF tb dn)]
            have hH3 := hH2.x e3
            generalize upd H2 pt _ = H3 at e3 hpt hH3 ⊢
            exact q1 _ _ ((e1.trans e2).trans e3).any (.tup hpt (.cons (.str _ (by decide +kernel)) (.cons (.int _) .nil))) hH3
          · rw [if_neg c3, if_neg c3] at q1
            walk_at "rdn"
            refine rd_seq ?_
            walk_at "rd"
            refine rd_fld ?_
            walk_at "rd"
            refine ⟨p, C, dx, _, .ref pe, rfl, hp2, W.cl, W.nE, hF_e _ _ _, ?_⟩
            have hxl2 : xs.length ≤ 100 := by omega
            walk_at "rd"
            refine ⟨by walk_at "sz", fun tq ntq => ?_⟩
            obtain ⟨ntq, e3, htq⟩ := alT (T := T) ntq [V.str askedS, .int ((dn.length + 1 : Nat) : Int), .int (m : Int)]
            have htq : (upd H2 tq (.tup [V.str (Str.ofString "asked"), .int ((dn.length + 1 : Nat) : Int), .int (m : Int)])) tq = some (.tup [V.str askedS, .int ((dn.length + 1 : Nat) : Int), .int (m : Int)]) := htq
            have e3 : Ext T [] H2 (upd H2 tq (.tup [V.str (Str.ofString "asked"), .int ((dn.length + 1 : Nat) : Int), .int (m : Int)])) := e3
            have hp3 := e3.keep p _ (by simp) (fun _ z => by cases z) hp2
            have hxs3 := lst.x hxs2 e3
            have hxi3 := hxi2.x e3
            have hva3 := hva2.x e3
            generalize upd H2 tq _ = H3 at e3 htq hp3 hxs3 hxi3 hva3 ⊢
            obtain ⟨g1, g2⟩ := HandAt.push (T := T) (e := (askedS, dn.length + 1, m)) hp3 hva3 hxs3 hxi3 htq (show PyData.strOk askedS = true by decide +kernel)
            refine rd_nil ?_
            refine rd_app hxs3 (by walk_at "szl") ?_
            have x4 := (((e1.trans e2).trans e3).any).trans g2
            generalize upd H3 pe _ = H4 at g1 g2 x4 ⊢
            walk_at "rd"
            refine ⟨by walk_at "sz", fun pt npt => ?_⟩
            obtain ⟨npt, e5, hpt⟩ := alT (T := T) npt [V.str (Str.ofString "ask"), .int ((dn.length + 1 : Nat) : Int)]
            have hH5 := g1.x e5
            generalize upd H4 pt _ = H5 at e5 hpt hH5 ⊢
            exact q1 _ _ (x4.trans e5.any) (.tup hpt (.cons (.str _ (by decide +kernel)) (.cons (.int _) .nil))) hH5
end

open PySem PySem.Spec PyProof.Rows L2
open PySem.W (EachIs)
section
variable {T : List (Addr × Str)} {P : Program} {w : World} {K : PySem.W.Frag} {mg : Str → Option Value} {base : Heap}
local macro_rules | `(tactic| walk_at "tr") => `(tactic| first
  | assumption
  | exact Ext.refl
  | ((with_reducible refine' Im.x (T := T) (H := ?trH) ?tra ?tre); (case tre => assumption); (case tra => walk_at "tr"))
  | ((with_reducible refine' Im.y (T := T) (H := ?trH) ?tra ?tre ?trt); (case tre => assumption); (case trt => walk_at "tr"); (case tra => walk_at "tr"))
  | ((with_reducible refine' ImAll.x (T := T) (H := ?trH) ?tra ?tre); (case tre => assumption); (case tra => walk_at "tr"))
  | ((with_reducible refine' ImAll.y (T := T) (H := ?trH) ?tra ?tre ?trt); (case tre => assumption); (case trt => walk_at "tr"); (case tra => walk_at "tr"))
  | ((with_reducible refine' Ls.x (T := T) (H := ?trH) ?tra ?tre); (case tre => assumption); (case tra => walk_at "tr"))
  | ((with_reducible refine' Ls.y (T := T) (H := ?trH) ?tra ?tre ?trn ?trt); (case tre => assumption); (case trt => walk_at "tr"); (case trn => walk_at "tr"); (case tra => walk_at "tr"))
  | ((with_reducible refine' SqP.x (T := T) (H := ?trH) ?tra ?tre); (case tre => assumption); (case tra => walk_at "tr"))
  | ((with_reducible refine' SqP.y (T := T) (H := ?trH) ?tra ?tre ?trt); (case tre => assumption); (case trt => walk_at "tr"); (case tra => walk_at "tr"))
  | ((with_reducible refine' StAt.x (T := T) (H := ?trH) ?tra ?tre); (case tre => assumption); (case tra => walk_at "tr"))
  | ((with_reducible refine' StAt.y (T := T) (H := ?trH) ?tra ?tre ?trt); (case tre => assumption); (case trt => walk_at "tr"); (case tra => walk_at "tr"))
  | ((with_reducible refine' Pools.ext0 (T := T) (H := ?trH) ?tra ?tre); (case tre => assumption); (case tra => walk_at "tr"))
  | ((with_reducible refine' Pools.ext (T := T) (H := ?trH) ?tra ?tre ?trt); (case tre => assumption); (case trt => walk_at "tr"); (case tra => walk_at "tr"))
  | ((with_reducible refine' CL.x (T := T) (H := ?trH) ?tra ?tre); (case tre => assumption); (case tra => walk_at "tr"))
  | ((with_reducible refine' CL.y (T := T) (H := ?trH) ?tra ?tre); (case tre => assumption); (case tra => walk_at "tr"))
  | ((with_reducible refine' Tape.ext (T := T) (H := ?trH) ?tra ?tre); (case tre => assumption); (case tra => walk_at "tr"))
  | ((with_reducible refine' lst.x (T := T) (H := ?trH) ?tra ?tre); (case tre => assumption); (case tra => walk_at "tr"))
  | ((with_reducible refine' lst.y (T := T) (H := ?trH) ?tra ?tre ?trn); (case tre => assumption); (case trn => walk_at "tr"); (case tra => walk_at "tr"))
  | ((with_reducible refine' tup.x (T := T) (H := ?trH) ?tra ?tre); (case tre => assumption); (case tra => walk_at "tr"))
  | ((with_reducible refine' tup.y (T := T) (H := ?trH) ?tra ?tre ?trt); (case tre => assumption); (case trt => walk_at "tr"); (case tra => walk_at "tr"))
  | ((with_reducible refine' frz.x (T := T) (H := ?trH) ?tra ?tre); (case tre => assumption); (case tra => walk_at "tr"))
  | ((with_reducible refine' frz.y (T := T) (H := ?trH) ?tra ?tre ?trt); (case tre => assumption); (case trt => walk_at "tr"); (case tra => walk_at "tr"))
  | ((with_reducible refine' Im.z (T := T) (H := ?trH) ?tra ?tre ?trt); (case tre => assumption); (case trt => assumption); (case tra => walk_at "tr"))
  | ((with_reducible refine' ImAll.z (T := T) (H := ?trH) ?tra ?tre ?trt); (case tre => assumption); (case trt => assumption); (case tra => walk_at "tr"))
  | ((with_reducible refine' StAt.z (T := T) (H := ?trH) ?tra ?tre ?trt); (case tre => assumption); (case trt => assumption); (case tra => walk_at "tr"))
  | ((with_reducible refine' SqP.z (T := T) (H := ?trH) ?tra ?tre ?trt); (case tre => assumption); (case trt => assumption); (case tra => walk_at "tr"))
  | ((with_reducible refine' tup.z (T := T) (H := ?trH) ?tra ?tre ?trt); (case tre => assumption); (case trt => assumption); (case tra => walk_at "tr"))
  | ((with_reducible refine' Ls.z (T := T) (H := ?trH) ?tra ?tre ?trt ?trn); (case tre => assumption); (case trt => assumption); (case trn => assumption); (case tra => walk_at "tr"))
  | ((with_reducible refine' lst.z (T := T) (H := ?trH) ?tra ?tre ?trn); (case tre => assumption); (case trn => assumption); (case tra => walk_at "tr"))
  | ((with_reducible refine' CL.z (T := T) (H := ?trH) ?tra ?tre ?trn); (case tre => assumption); (case trn => assumption); (case tra => walk_at "tr"))
  | ((with_reducible refine' Tape.ne1 (H := ?trH) ?trt ?trn); (case trn => assumption); (case trt => walk_at "tr"))
  | ((with_reducible refine' Ext.trans (H1 := ?trH) ?tra (Ext.any ?tre)); (case tre => assumption); (case tra => walk_at "tr"))
  | ((with_reducible refine' Ext.trans (H1 := ?trH) ?tra ?tre); (case tre => assumption); (case tra => walk_at "tr"))
  | ((with_reducible refine' Ext.back1 (T := T) (H1 := ?trH) ?tre ?trn ?tra); (case tra => assumption); (case trn => walk_at "tr"); (case tre => walk_at "tr"))
  | ((with_reducible refine' Ext.back0 (T := T) (H1 := ?trH) ?tre ?tra); (case tra => assumption); (case tre => walk_at "tr"))
  | ((with_reducible refine' SqT.of ?tra); (case tra => walk_at "tr"))
  | ((with_reducible refine' SqL.of ?tra); (case tra => walk_at "tr")))
local macro_rules | `(tactic| walk_at "al") => `(tactic| (refine ⟨by first | (show _ ≤ sizeLine; decide) | walk_at "sz", ?_⟩; intro alp aln; generalize alG : upd _ alp _ = alH; obtain ⟨aln2, alx, alh⟩ := al_of (T := T) aln alG; clear alG aln))
local macro_rules | `(tactic| walk_at "al0") => `(tactic| (intro alp aln; generalize alG : upd _ alp _ = alH; obtain ⟨aln2, alx, alh⟩ := al_of (T := T) aln alG; clear alG aln))

def spSee (T : List (Addr × Str)) (C CN : Addr) : Sp := fun vs H Q E => ∃ (p : Addr) (va : V) (n : Nat) (pe : Addr) (tb : List Rw) (es : List Ent) (m : Nat), vs = [.ref p, .int (m : Int)] ∧ HandAt H p C va n pe tb es ∧ es.length ≤ 100 ∧
  (openB es = true → lastM es ≤ m → ∀ H', Ext T [pe] H H' → HandAt H' p C va n pe tb (es ++ [(doneS, lastK es, m)]) → Q .non H') ∧
  (openB es = false → ∀ d H', Ext T [] H H' → H' d = none → E (.ref CN) (some d) (upd H' d (.xd [(wordS, .str "deed")]))) ∧
  (openB es = true → m < lastM es → ∀ d H', Ext T [] H H' → H' d = none → E (.ref CN) (some d) (upd H' d (.xd [(wordS, .str "time")])))
theorem ok_see {f C CN fI : Addr} {fd : FuncData} (F : Fun K "see" "Hand.see" s_Hand_see f fd) (W : Hl K C) (mb : ∀ x ∈ bltns, mg x = none) (T_NotAllowed : ExcT P K mg "NotAllowed" "word" CN fI)
    (M__latest : MeO P w K mg base 1 C "_latest" ["self"] (spLatest C)) (M__is_open : MeO P w K mg base 1 C "_is_open" ["self"] (spOpen C)) : FnOk P w K mg base (L2.CX P w) 3 f fd ["self", "moment"] (spSee T C CN) := by
  refine F.okX sc_Hand_see (fun vs H Q E h => ?_) (fun cdv A outer s H vs Q E hr h => ?_)
  · obtain ⟨p, va, n, pe, tb, es, m, rfl, _⟩ := h
    rfl
  · obtain ⟨p, va, n, pe, tb, es, m, rfl, hH, hel, q1, q2, q3⟩ := h
    obtain ⟨⟨dx, hp⟩, hva, ⟨xs, hxs, hxi⟩⟩ := id hH
    refine ⟨_, (pss_cons (ps_if (pt_not (pt_E (pe_methO0 M__is_open (hr.mono (by decide)) (pv 0)))) (pss_one (ps_raiseSup rfl FO_NotAllowed T_NotAllowed.toSupTxt hr (takes_of rfl rfl rfl rfl) (pa_cons pe_str pa_nil))) pss_nil)
   (pss_cons (ps_if (pt_cmpR op_lt (pv 1) (pe_methO0 M__latest (hr.mono (by decide)) (pv 0)) (nomark _)) (pss_one (ps_raiseSup rfl FO_NotAllowed T_NotAllowed.toSupTxt hr (takes_of rfl rfl rfl rfl) (pa_cons pe_str pa_nil))) pss_nil)
   (pss_one (ps_expr (pe_bm PySem.F.plainAttrs_list PySem.F.slot_list_append PySem.F.type_list_append mt_append (pe_fld (pv 0) rfl) (pa_cons (pe_tup (pa_cons pe_str (pa_cons (pe_ix (ix_U K rfl) (pe_ix (ix_U K rfl) (pe_fld (pv 0) rfl) (pe_un un_neg pe_int) (fun _ _ => rfl)) pe_int (fun _ _ => rfl)) (pa_cons (pv 1) pa_nil)))) pa_nil)))))), ?_⟩
    have hxl : xs.length = es.length := by rw [hxi.len, List.length_map]
    refine rd_seq ?_
    walk_at "rd"
    refine rd_meth ?_
    walk_at "rd"
    refine ⟨p, dx, _, rfl, hp, hF_no _ _ _ (by decide +kernel) (by decide +kernel) (by decide +kernel), ?_⟩
    walk_at "rd"
    refine ⟨p, va, n, pe, tb, es, rfl, hH, ?_⟩
    refine ⟨_, rfl, ?_⟩
    refine rd_iteNB (b := openB es) (fun c1 => ?_) (fun c1 => ?_)
    · walk_at "rd"
      refine rd_raise ?_
      walk_at "rd"
      exact ⟨_, rfl, .inl ⟨_, rfl, by decide +kernel⟩, fun d hd => q2 c1 d _ .refl hd⟩
    · walk_at "rdn"
      refine rd_seq ?_
      walk_at "rd"
      refine rd_meth ?_
      walk_at "rd"
      refine ⟨p, dx, _, rfl, hp, hF_no _ _ _ (by decide +kernel) (by decide +kernel) (by decide +kernel), ?_⟩
      walk_at "rd"
      refine ⟨p, va, n, pe, tb, es, rfl, hH, ?_⟩
      walk_at "rd"
      refine rd_ite (fun c => ?_) (fun c => ?_)
      · walk_at "rd"
        refine rd_raise ?_
        walk_at "rd"
        exact ⟨_, rfl, .inl ⟨_, rfl, by decide +kernel⟩, fun d hd => q3 c1 (by omega) d _ .refl hd⟩
      · have hne : es ≠ [] := fun e => by
          rw [e] at c1
          cases c1
        obtain ⟨e, r, hl1, hl2, hl3⟩ := ent_last hxi hne
        have q1 := q1 c1 (by omega)
        rw [lastK_of hl1] at q1
        walk_at "rd"
        refine rd_fld ?_
        walk_at "rd"
        refine ⟨p, C, dx, _, .ref pe, rfl, hp, W.cl, W.nE, hF_e _ _ _, ?_⟩
        have hxl2 : xs.length ≤ 100 := by omega
        walk_at "rd"
        refine rd_fld ?_
        walk_at "rd"
        refine ⟨p, C, dx, _, .ref pe, rfl, hp, W.cl, W.nE, hF_e _ _ _, ?_⟩
        walk_at "rd"
        refine rd_ixL (SqL.of hxs) hl2 ?_
        walk_at "rd"
        refine rd_ixT (i := 1) (SqP.t hl3) (v := .int (e.2.1 : Int)) rfl ?_
        walk_at "rd"
        refine ⟨by walk_at "sz", fun tq ntq => ?_⟩
        obtain ⟨ntq, e3, htq⟩ := alT (T := T) ntq [V.str doneS, .int (e.2.1 : Int), .int (m : Int)]
        have htq : (upd H tq (.tup [V.str (Str.ofString "done"), .int (e.2.1 : Int), .int (m : Int)])) tq = some (.tup [V.str doneS, .int (e.2.1 : Int), .int (m : Int)]) := htq
        have e3 : Ext T [] H (upd H tq (.tup [V.str (Str.ofString "done"), .int (e.2.1 : Int), .int (m : Int)])) := e3
        have hp3 := e3.keep p _ (by simp) (fun _ z => by cases z) hp
        have hxs3 := lst.x hxs e3
        have hxi3 := hxi.x e3
        have hva3 := hva.x e3
        generalize upd H tq _ = H3 at e3 htq hp3 hxs3 hxi3 hva3 ⊢
        obtain ⟨g1, g2⟩ := HandAt.push (T := T) (e := (doneS, e.2.1, m)) hp3 hva3 hxs3 hxi3 htq (show PyData.strOk doneS = true by decide +kernel)
        refine rd_nil ?_
        refine rd_app hxs3 (by walk_at "szl") ?_
        exact q1 _ (e3.any.trans g2) g1
end

open PySem PySem.Spec PyProof.Rows L2
open PySem.W (EachIs)
theorem rd_sfld {K : PySem.W.Frag} {td te : TE} {f : Str} {D : Ends} {σ : L2.St} {H : Hp} (q : te σ H fun v H1 => td σ H1 fun x H2 => ∃ (a C dx : Addr) (fs : List (Str × V)), x = .ref a ∧ H2 a = some (.ins C dx fs) ∧ Cls K C ∧ NoAttr K C f ∧ fs.length < 1000 ∧ D.nx σ (upd H2 a (.ins C dx (putF f v fs)))) : sFld K td te f D σ H := q
/-- the heap without p -/
def del (H : Hp) (p : Addr) : Hp := fun b => if b = p then none else H b
theorem del_nw (H : Hp) (p : Addr) : Nw (del H p) p := fun o e => by
  unfold del at e
  rw [if_pos rfl] at e
  cases e
theorem del_ne {H : Hp} {p b : Addr} (h : b ≠ p) : del H p b = H b := if_neg h
theorem del_upd {T : List (Addr × Str)} {ms : List Addr} (H : Hp) (p : Addr) (o : HO) : Ext T ms (del H p) (upd H p o) := .same fun b x e => by
  have hb : b ≠ p := fun z => by
    rw [z] at e
    unfold del at e
    rw [if_pos rfl] at e
    cases e
  rw [upd_ne hb]
  rw [del_ne hb] at e
  exact e
theorem ents_ins {H : Hp} {p C dx : Addr} {fs : List (Str × V)} {u : HO} (hp : H p = some (.ins C dx fs)) : ∀ (es : List Ent) (xs : List V), ImAll H xs (es.map entD) → ImAll (upd H p u) xs (es.map entD)
  | [], _, h => by
    cases h
    exact .nil
  | e :: r, _, h => by
    cases h with
    | cons a b =>
      refine .cons ?_ (ents_ins hp r _ b)
      cases a with
      | tup h1 h2 =>
        rename_i q ys
        have hq : q ≠ p := fun z => by
          rw [z] at h1
          have h1 : H p = some (.tup _) := h1
          rw [hp] at h1
          cases h1
        refine .tup (show upd H p u q = _ by rw [upd_ne hq]; exact h1) ?_
        cases h2 with
        | cons a1 h2 =>
          cases h2 with
          | cons a2 h2 =>
            cases h2 with
            | cons a3 h2 =>
              cases h2
              cases a1 with
              | str _ hs =>
                cases a2
                cases a3
                exact .cons (.str _ hs) (.cons (.int _) (.cons (.int _) .nil))
/-- an own new object is changed -/
theorem Ext.ownI {T : List (Addr × Str)} {ms : List Addr} {H H1 : Hp} {p C dx : Addr} {fs : List (Str × V)} {u : HO} (e : Ext T ms H H1) (hn : Nw H p) (h : H1 p = some (.ins C dx fs)) : Ext T ms H (upd H1 p u) := ⟨fun b x hb hx q => by
  rw [upd_ne (hn.ne q hx)]
  exact e.keep b x hb hx q, fun t => by
  intro q hq
  obtain ⟨ps, h1, h2, h3⟩ := e.tabs t q hq
  refine ⟨ps, ?_, h2, fun pos cv hc => ?_⟩
  · rw [upd_ne]
    · exact h1
    · intro z
      rw [z, h] at h1
      cases h1
  · obtain ⟨c, e1, e2⟩ := h3 pos cv hc
    refine ⟨c, e1, ?_⟩
    rw [upd_ne]
    · exact e2
    · intro z
      rw [z, h] at e2
      unfold LamX.CodeO at e2
      cases e2⟩
section
variable {T : List (Addr × Str)} {P : Program} {w : World} {K : PySem.W.Frag} {mg : Str → Option Value} {base : Heap}
local macro_rules | `(tactic| walk_at "tr") => `(tactic| first
  | assumption
  | exact Ext.refl
  | ((with_reducible refine' Im.x (T := T) (H := ?trH) ?tra ?tre); (case tre => assumption); (case tra => walk_at "tr"))
  | ((with_reducible refine' Im.y (T := T) (H := ?trH) ?tra ?tre ?trt); (case tre => assumption); (case trt => walk_at "tr"); (case tra => walk_at "tr"))
  | ((with_reducible refine' ImAll.x (T := T) (H := ?trH) ?tra ?tre); (case tre => assumption); (case tra => walk_at "tr"))
  | ((with_reducible refine' ImAll.y (T := T) (H := ?trH) ?tra ?tre ?trt); (case tre => assumption); (case trt => walk_at "tr"); (case tra => walk_at "tr"))
  | ((with_reducible refine' Ls.x (T := T) (H := ?trH) ?tra ?tre); (case tre => assumption); (case tra => walk_at "tr"))
  | ((with_reducible refine' Ls.y (T := T) (H := ?trH) ?tra ?tre ?trn ?trt); (case tre => assumption); (case trt => walk_at "tr"); (case trn => walk_at "tr"); (case tra => walk_at "tr"))
  | ((with_reducible refine' SqP.x (T := T) (H := ?trH) ?tra ?tre); (case tre => assumption); (case tra => walk_at "tr"))
  | ((with_reducible refine' SqP.y (T := T) (H := ?trH) ?tra ?tre ?trt); (case tre => assumption); (case trt => walk_at "tr"); (case tra => walk_at "tr"))
  | ((with_reducible refine' StAt.x (T := T) (H := ?trH) ?tra ?tre); (case tre => assumption); (case tra => walk_at "tr"))
  | ((with_reducible refine' StAt.y (T := T) (H := ?trH) ?tra ?tre ?trt); (case tre => assumption); (case trt => walk_at "tr"); (case tra => walk_at "tr"))
  | ((with_reducible refine' Pools.ext0 (T := T) (H := ?trH) ?tra ?tre); (case tre => assumption); (case tra => walk_at "tr"))
  | ((with_reducible refine' Pools.ext (T := T) (H := ?trH) ?tra ?tre ?trt); (case tre => assumption); (case trt => walk_at "tr"); (case tra => walk_at "tr"))
  | ((with_reducible refine' CL.x (T := T) (H := ?trH) ?tra ?tre); (case tre => assumption); (case tra => walk_at "tr"))
  | ((with_reducible refine' CL.y (T := T) (H := ?trH) ?tra ?tre); (case tre => assumption); (case tra => walk_at "tr"))
  | ((with_reducible refine' Tape.ext (T := T) (H := ?trH) ?tra ?tre); (case tre => assumption); (case tra => walk_at "tr"))
  | ((with_reducible refine' lst.x (T := T) (H := ?trH) ?tra ?tre); (case tre => assumption); (case tra => walk_at "tr"))
  | ((with_reducible refine' lst.y (T := T) (H := ?trH) ?tra ?tre ?trn); (case tre => assumption); (case trn => walk_at "tr"); (case tra => walk_at "tr"))
  | ((with_reducible refine' tup.x (T := T) (H := ?trH) ?tra ?tre); (case tre => assumption); (case tra => walk_at "tr"))
  | ((with_reducible refine' tup.y (T := T) (H := ?trH) ?tra ?tre ?trt); (case tre => assumption); (case trt => walk_at "tr"); (case tra => walk_at "tr"))
  | ((with_reducible refine' frz.x (T := T) (H := ?trH) ?tra ?tre); (case tre => assumption); (case tra => walk_at "tr"))
  | ((with_reducible refine' frz.y (T := T) (H := ?trH) ?tra ?tre ?trt); (case tre => assumption); (case trt => walk_at "tr"); (case tra => walk_at "tr"))
  | ((with_reducible refine' Im.z (T := T) (H := ?trH) ?tra ?tre ?trt); (case tre => assumption); (case trt => assumption); (case tra => walk_at "tr"))
  | ((with_reducible refine' ImAll.z (T := T) (H := ?trH) ?tra ?tre ?trt); (case tre => assumption); (case trt => assumption); (case tra => walk_at "tr"))
  | ((with_reducible refine' StAt.z (T := T) (H := ?trH) ?tra ?tre ?trt); (case tre => assumption); (case trt => assumption); (case tra => walk_at "tr"))
  | ((with_reducible refine' SqP.z (T := T) (H := ?trH) ?tra ?tre ?trt); (case tre => assumption); (case trt => assumption); (case tra => walk_at "tr"))
  | ((with_reducible refine' tup.z (T := T) (H := ?trH) ?tra ?tre ?trt); (case tre => assumption); (case trt => assumption); (case tra => walk_at "tr"))
  | ((with_reducible refine' Ls.z (T := T) (H := ?trH) ?tra ?tre ?trt ?trn); (case tre => assumption); (case trt => assumption); (case trn => assumption); (case tra => walk_at "tr"))
  | ((with_reducible refine' lst.z (T := T) (H := ?trH) ?tra ?tre ?trn); (case tre => assumption); (case trn => assumption); (case tra => walk_at "tr"))
  | ((with_reducible refine' CL.z (T := T) (H := ?trH) ?tra ?tre ?trn); (case tre => assumption); (case trn => assumption); (case tra => walk_at "tr"))
  | ((with_reducible refine' Tape.ne1 (H := ?trH) ?trt ?trn); (case trn => assumption); (case trt => walk_at "tr"))
  | ((with_reducible refine' Ext.trans (H1 := ?trH) ?tra (Ext.any ?tre)); (case tre => assumption); (case tra => walk_at "tr"))
  | ((with_reducible refine' Ext.trans (H1 := ?trH) ?tra ?tre); (case tre => assumption); (case tra => walk_at "tr"))
  | ((with_reducible refine' Ext.back1 (T := T) (H1 := ?trH) ?tre ?trn ?tra); (case tra => assumption); (case trn => walk_at "tr"); (case tre => walk_at "tr"))
  | ((with_reducible refine' Ext.back0 (T := T) (H1 := ?trH) ?tre ?tra); (case tra => assumption); (case tre => walk_at "tr"))
  | ((with_reducible refine' SqT.of ?tra); (case tra => walk_at "tr"))
  | ((with_reducible refine' SqL.of ?tra); (case tra => walk_at "tr")))
local macro_rules | `(tactic| walk_at "al") => `(tactic| (refine ⟨by first | (show _ ≤ sizeLine; decide) | walk_at "sz", ?_⟩; intro alp aln; generalize alG : upd _ alp _ = alH; obtain ⟨aln2, alx, alh⟩ := al_of (T := T) aln alG; clear alG aln))
local macro_rules | `(tactic| walk_at "al0") => `(tactic| (intro alp aln; generalize alG : upd _ alp _ = alH; obtain ⟨aln2, alx, alh⟩ := al_of (T := T) aln alG; clear alG aln))

def spHand (T : List (Addr × Str)) (C : Addr) : Sp := fun vs H Q _ => ∃ (p dx : Addr) (va : V) (n : Nat) (z : Str) (tb : List Rw) (es : List Ent), vs = [.ref p, va, .int (n : Int), .str z] ∧ H p = some (.ins C dx []) ∧ Im (del H p) va (.tuple (tb.map rwD)) ∧ TbLt tb ∧ tb.length ≤ 100 ∧ z.length ≤ 1000 ∧
  rdL (linesL (sg z)) [] 1 = .ok es ∧ es.length ≤ 100 ∧ folF tb n es [] = true ∧ ∀ H' pe, HandAt H' p C va n pe tb es → Ext T [] (del H p) H' → Nw (del H p) pe → Q .non H'
theorem ok_init {f C CB : Addr} {fd : FuncData} (F : Fun K "__init__" "Hand.__init__" s_Hand_init f fd) (W : Hl K C) (mb : ∀ x ∈ bltns, mg x = none) (G_read_book : Ok P w K mg base 4 "read_book" ["text"] (sp0 (spRead T CB))) (G_follows_table : Ok P w K mg base 2 "follows_table" ["table", "count", "entries"] (spFol T)) :
    FnOk P w K mg base CX0 5 f fd ["self", "table", "count", "text"] (spHand T C) := by
  refine F.ok sc_Hand_init (fun vs H Q E h => ?_) (fun cdv A outer s H vs Q E hr h => ?_)
  · obtain ⟨p, dx, va, n, z, tb, es, rfl, _⟩ := h
    rfl
  · obtain ⟨p, dx, va, n, z, tb, es, rfl, hp, hva, htb, htl, hz, hrd, hel, hf, q⟩ := h
    refine ⟨_, (pss_cons (ps_fld (pv 0) (pv 1) rfl)
   (pss_cons (ps_fld (pv 0) (pv 2) rfl)
   (pss_cons (ps_fld (pv 0) (pe_callO G_read_book (hr.mono (by decide)) (by rfl) (pa_cons (pv 3) pa_nil)) rfl)
   (pss_one (ps_if (pt_not (pt_E (pe_callO G_follows_table (hr.mono (by decide)) (by rfl) (pa_cons (pv 1) (pa_cons (pv 2) (pa_cons (pe_fld (pv 0) rfl) pa_nil)))))) (pss_one ps_never) pss_nil))))), ?_⟩
    refine ⟨_, rfl, _, rfl, p, C, dx, _, rfl, hp, W.cl, W.nT, (by show 0 < 1000; decide), ?_⟩
    refine ⟨_, rfl, _, rfl, p, C, dx, _, rfl, upd_same, W.cl, W.nC, (by show 1 < 1000; decide), ?_⟩
    have e1 : Ext T [] (del H p) (upd H p (.ins C dx (putF "_table" va []))) := del_upd H p _
    have e2 := e1.ownI (u := .ins C dx (putF "_count" (.int (n : Int)) (putF "_table" va []))) (del_nw H p) upd_same
    have hp2 : (upd (upd H p (.ins C dx (putF "_table" va []))) p (.ins C dx (putF "_count" (.int (n : Int)) (putF "_table" va [])))) p = some (.ins C dx (putF "_count" (.int (n : Int)) (putF "_table" va []))) := upd_same
    generalize upd (upd H p (.ins C dx (putF "_table" va []))) p (.ins C dx (putF "_count" (.int (n : Int)) (putF "_table" va []))) = H2 at e2 hp2 ⊢
    have hva2 := hva.x e2
    dsimp only
    refine rd_seq ?_
    refine rd_sfld ?_
    walk_at "rd"
    refine ⟨z, rfl, hz, fun es2 h2 pe H3 npe e3 hL => ?_, fun k h2 => (by rw [hrd] at h2; cases h2)⟩
    have ee : es2 = es := by
      rw [hrd] at h2
      exact (Except.ok.inj h2).symm
    rw [ee] at hL
    clear h2 ee
    have hp3 := e3.keep p _ (by simp) (fun _ z => by cases z) hp2
    have hva3 := hva2.x e3
    have x3 := e2.trans e3
    have npe0 : Nw (del H p) pe := Ext.back e2 (by simp) npe
    walk_at "rd"
    refine ⟨p, C, dx, _, rfl, hp3, W.cl, W.nE, ?_, ?_⟩
    · have : (putF ("_count" : Str) (.int (n : Int)) (putF ("_table" : Str) va [])).length ≤ 2 := by
        show (if ("_table" : Str) = "_count" then [(("_table" : Str), V.int (n : Int))] else (("_table" : Str), va) :: putF "_count" (.int (n : Int)) []).length ≤ 2
        rw [if_neg (by decide +kernel)]
        exact Nat.le_refl 2
      exact Nat.lt_of_le_of_lt this (by decide)
    · have x4 : Ext T [] (del H p) (upd H3 p (.ins C dx (hF va (.int (n : Int)) (.ref pe)))) := x3.ownI (del_nw H p) hp3
      have hpe : pe ≠ p := fun z => by
        rw [z] at hL
        obtain ⟨xs, h1, _⟩ := hL
        rw [hp3] at h1
        cases h1
      have hva4 : Im (upd H3 p (.ins C dx (hF va (.int (n : Int)) (.ref pe)))) va (.tuple (tb.map rwD)) := hva.x x4
      have hL4 : Ls (upd H3 p (.ins C dx (hF va (.int (n : Int)) (.ref pe)))) pe (es.map entD) := by
        obtain ⟨xs, h1, h2⟩ := hL
        exact ⟨xs, by rw [upd_ne hpe]; exact h1, ents_ins hp3 es xs h2⟩
      have hp4 : (upd H3 p (.ins C dx (hF va (.int (n : Int)) (.ref pe)))) p = some (.ins C dx (hF va (.int (n : Int)) (.ref pe))) := upd_same
      show {nx := _, rt := _ : Ends}.nx _ (upd H3 p (.ins C dx (hF va (.int (n : Int)) (.ref pe))))
      generalize upd H3 p (.ins C dx (hF va (.int (n : Int)) (.ref pe))) = H4 at x4 hva4 hL4 hp4 ⊢
      dsimp only
      walk_at "rd"
      refine rd_fld ?_
      walk_at "rd"
      refine ⟨p, C, dx, _, .ref pe, rfl, hp4, W.cl, W.nE, hF_e _ _ _, ?_⟩
      walk_at "rd"
      refine ⟨va, pe, n, tb, es, rfl, hva4, hL4, htb, htl, hel, fun H5 e5 => ?_⟩
      rw [hf]
      walk_at "rd"
      exact q _ pe ⟨⟨dx, e5.keep p _ (by simp) (fun _ z => by cases z) hp4⟩, hva4.x e5, hL4.x e5⟩ (x4.trans e5) npe0
end

open PySem PySem.Spec PyProof.Rows L2
open PySem.W (EachIs)
section
variable {T : List (Addr × Str)} {P : Program} {w : World} {K : PySem.W.Frag} {mg : Str → Option Value} {base : Heap}
local macro_rules | `(tactic| walk_at "tr") => `(tactic| first
  | assumption
  | exact Ext.refl
  | ((with_reducible refine' Im.x (T := T) (H := ?trH) ?tra ?tre); (case tre => assumption); (case tra => walk_at "tr"))
  | ((with_reducible refine' Im.y (T := T) (H := ?trH) ?tra ?tre ?trt); (case tre => assumption); (case trt => walk_at "tr"); (case tra => walk_at "tr"))
  | ((with_reducible refine' ImAll.x (T := T) (H := ?trH) ?tra ?tre); (case tre => assumption); (case tra => walk_at "tr"))
  | ((with_reducible refine' ImAll.y (T := T) (H := ?trH) ?tra ?tre ?trt); (case tre => assumption); (case trt => walk_at "tr"); (case tra => walk_at "tr"))
  | ((with_reducible refine' Ls.x (T := T) (H := ?trH) ?tra ?tre); (case tre => assumption); (case tra => walk_at "tr"))
  | ((with_reducible refine' Ls.y (T := T) (H := ?trH) ?tra ?tre ?trn ?trt); (case tre => assumption); (case trt => walk_at "tr"); (case trn => walk_at "tr"); (case tra => walk_at "tr"))
  | ((with_reducible refine' SqP.x (T := T) (H := ?trH) ?tra ?tre); (case tre => assumption); (case tra => walk_at "tr"))
  | ((with_reducible refine' SqP.y (T := T) (H := ?trH) ?tra ?tre ?trt); (case tre => assumption); (case trt => walk_at "tr"); (case tra => walk_at "tr"))
  | ((with_reducible refine' StAt.x (T := T) (H := ?trH) ?tra ?tre); (case tre => assumption); (case tra => walk_at "tr"))
  | ((with_reducible refine' StAt.y (T := T) (H := ?trH) ?tra ?tre ?trt); (case tre => assumption); (case trt => walk_at "tr"); (case tra => walk_at "tr"))
  | ((with_reducible refine' Pools.ext0 (T := T) (H := ?trH) ?tra ?tre); (case tre => assumption); (case tra => walk_at "tr"))
  | ((with_reducible refine' Pools.ext (T := T) (H := ?trH) ?tra ?tre ?trt); (case tre => assumption); (case trt => walk_at "tr"); (case tra => walk_at "tr"))
  | ((with_reducible refine' CL.x (T := T) (H := ?trH) ?tra ?tre); (case tre => assumption); (case tra => walk_at "tr"))
  | ((with_reducible refine' CL.y (T := T) (H := ?trH) ?tra ?tre); (case tre => assumption); (case tra => walk_at "tr"))
  | ((with_reducible refine' Tape.ext (T := T) (H := ?trH) ?tra ?tre); (case tre => assumption); (case tra => walk_at "tr"))
  | ((with_reducible refine' lst.x (T := T) (H := ?trH) ?tra ?tre); (case tre => assumption); (case tra => walk_at "tr"))
  | ((with_reducible refine' lst.y (T := T) (H := ?trH) ?tra ?tre ?trn); (case tre => assumption); (case trn => walk_at "tr"); (case tra => walk_at "tr"))
  | ((with_reducible refine' tup.x (T := T) (H := ?trH) ?tra ?tre); (case tre => assumption); (case tra => walk_at "tr"))
  | ((with_reducible refine' tup.y (T := T) (H := ?trH) ?tra ?tre ?trt); (case tre => assumption); (case trt => walk_at "tr"); (case tra => walk_at "tr"))
  | ((with_reducible refine' frz.x (T := T) (H := ?trH) ?tra ?tre); (case tre => assumption); (case tra => walk_at "tr"))
  | ((with_reducible refine' frz.y (T := T) (H := ?trH) ?tra ?tre ?trt); (case tre => assumption); (case trt => walk_at "tr"); (case tra => walk_at "tr"))
  | ((with_reducible refine' Im.z (T := T) (H := ?trH) ?tra ?tre ?trt); (case tre => assumption); (case trt => assumption); (case tra => walk_at "tr"))
  | ((with_reducible refine' ImAll.z (T := T) (H := ?trH) ?tra ?tre ?trt); (case tre => assumption); (case trt => assumption); (case tra => walk_at "tr"))
  | ((with_reducible refine' StAt.z (T := T) (H := ?trH) ?tra ?tre ?trt); (case tre => assumption); (case trt => assumption); (case tra => walk_at "tr"))
  | ((with_reducible refine' SqP.z (T := T) (H := ?trH) ?tra ?tre ?trt); (case tre => assumption); (case trt => assumption); (case tra => walk_at "tr"))
  | ((with_reducible refine' tup.z (T := T) (H := ?trH) ?tra ?tre ?trt); (case tre => assumption); (case trt => assumption); (case tra => walk_at "tr"))
  | ((with_reducible refine' Ls.z (T := T) (H := ?trH) ?tra ?tre ?trt ?trn); (case tre => assumption); (case trt => assumption); (case trn => assumption); (case tra => walk_at "tr"))
  | ((with_reducible refine' lst.z (T := T) (H := ?trH) ?tra ?tre ?trn); (case tre => assumption); (case trn => assumption); (case tra => walk_at "tr"))
  | ((with_reducible refine' CL.z (T := T) (H := ?trH) ?tra ?tre ?trn); (case tre => assumption); (case trn => assumption); (case tra => walk_at "tr"))
  | ((with_reducible refine' Tape.ne1 (H := ?trH) ?trt ?trn); (case trn => assumption); (case trt => walk_at "tr"))
  | ((with_reducible refine' Ext.trans (H1 := ?trH) ?tra (Ext.any ?tre)); (case tre => assumption); (case tra => walk_at "tr"))
  | ((with_reducible refine' Ext.trans (H1 := ?trH) ?tra ?tre); (case tre => assumption); (case tra => walk_at "tr"))
  | ((with_reducible refine' Ext.back1 (T := T) (H1 := ?trH) ?tre ?trn ?tra); (case tra => assumption); (case trn => walk_at "tr"); (case tre => walk_at "tr"))
  | ((with_reducible refine' Ext.back0 (T := T) (H1 := ?trH) ?tre ?tra); (case tra => assumption); (case tre => walk_at "tr"))
  | ((with_reducible refine' SqT.of ?tra); (case tra => walk_at "tr"))
  | ((with_reducible refine' SqL.of ?tra); (case tra => walk_at "tr")))
local macro_rules | `(tactic| walk_at "al") => `(tactic| (refine ⟨by first | (show _ ≤ sizeLine; decide) | walk_at "sz", ?_⟩; intro alp aln; generalize alG : upd _ alp _ = alH; obtain ⟨aln2, alx, alh⟩ := al_of (T := T) aln alG; clear alG aln))
local macro_rules | `(tactic| walk_at "al0") => `(tactic| (intro alp aln; generalize alG : upd _ alp _ = alH; obtain ⟨aln2, alx, alh⟩ := al_of (T := T) aln alG; clear alG aln))

def TbW (tb : List Rw) : Prop := ∀ r ∈ tb, r.2.2 ≤ 300
def spTable2 (T : List (Addr × Str)) : Sp := fun vs H Q _ => ∃ (l t : Addr) (n : Nat), vs = [.ref t, .int (n : Int)] ∧ n ≤ 6 ∧ Tape l H t ∧
  ∀ v tb H', TbIn n tb → TbW tb → tb.length ≤ 36 → Im H' v (.tuple (tb.map rwD)) → Ext T [t] H H' → Tape l H' t → Q v H'
theorem ok_law_table (D : Def K mg "_law_table" s_law_table ["tape", "count"]) (mb : ∀ x ∈ bltns, mg x = none) (G_law_take : Ok P w K mg base 2 "_law_take" ["tape", "many"] (spTake T)) : Ok P w K mg base 3 "_law_table" ["tape", "count"] (spTable2 T) := by
  refine D.ok sc_law_table (fun vs H Q E h => ?_) (fun cdv f A outer s H vs Q E hr h => ?_)
  · obtain ⟨l, t, n, rfl, _⟩ := h
    rfl
  · obtain ⟨l, t, n, rfl, hn, hT, q⟩ := h
    refine ⟨_, (pss_cons (ps_set (i := 2) sc_law_table.nd rfl (.inl rfl) (pe_lst pa_nil))
   (pss_cons (ps_for PassesOwn.never rfl (pi_range2 (by rfl) (mb _ (by decide)) (pa_cons pe_int (pa_cons (pe_op (op_plus K rfl) (pv 1) pe_int) pa_nil))) (pg_name (i := 3) sc_law_table.nd rfl (.inl rfl)) (pss_one (ps_for PassesOwn.never rfl (pi_range1 (by rfl) (mb _ (by decide)) (pa_cons (pv 3) pa_nil)) (pg_name (i := 4) sc_law_table.nd rfl (.inl rfl)) (pss_one (ps_if (pt_cmpR (op_eqU K rfl hr.units) (pe_callO G_law_take (hr.mono (by decide)) (by rfl) (pa_cons (pv 0) (pa_cons pe_int pa_nil))) pe_int (nomark _)) (pss_one (ps_expr (pe_bm PySem.F.plainAttrs_list PySem.F.slot_list_append PySem.F.type_list_append mt_append (pv 2) (pa_cons (pe_tup (pa_cons (pv 3) (pa_cons (pv 4) (pa_cons (pe_op (op_plus K rfl) pe_int (pe_callO G_law_take (hr.mono (by decide)) (by rfl) (pa_cons (pv 0) (pa_cons (pe_ix (ix_U K rfl) (pe_lst (pa_cons pe_int (pa_cons pe_int (pa_cons pe_int pa_nil)))) (pe_callO G_law_take (hr.mono (by decide)) (by rfl) (pa_cons (pv 0) (pa_cons pe_int pa_nil))) (fun _ _ => rfl)) pa_nil)))) pa_nil)))) pa_nil)))) pss_nil)))))
   (pss_one (ps_ret (pe_callTy (call_tupU K rfl) (by rfl) (mb _ (by decide)) (by decide +kernel) (pa_cons (pv 2) pa_nil)))))), ?_⟩
    walk_at "rdn"
    refine rd_seq ?_
    walk_at "rdn"
    refine ⟨by walk_at "sz", fun pr npr => ?_⟩
    obtain ⟨npr, e1, hpr⟩ := alL (T := T) npr ([] : List V)
    have T1 := hT.ext e1
    generalize upd H pr _ = H1 at e1 hpr T1 ⊢
    have hprt : pr ≠ t := (hT.ne npr).1
    have hprl : pr ≠ l := (hT.ne npr).2
    walk_at "rdn"
    refine rd_seq ?_
    walk_at "rdn"
    refine ⟨_, _, rfl, ⟨by decide, by decide, by omega, by omega⟩, ?_⟩
    have en : ((n : Int) + 1 - 1).toNat = n := by omega
    rw [en]
    refine forg_range (fun i σ' H' => ∃ (tb : List Rw) (x4 x5 : Option V), σ' = [some (.ref t), some (.int (n : Int)), some (.ref pr), x4, x5] ∧ Ext T [t] H H' ∧ Tape l H' t ∧ Ls H' pr (tb.map rwD) ∧ (TbIn n tb ∧ TbW tb) ∧ tb.length ≤ 6 * i)
      ⟨[], _, _, rfl, e1.any, T1, ⟨[], hpr, .nil⟩, ⟨(fun r hr => by cases hr), (fun r hr => by cases hr)⟩, by decide⟩ (fun i σ' H' hi h => ?_) (fun σ' H' h => ?_)
    · obtain ⟨tb, x4, x5, rfl, eH, TH, htb, hin, hlen⟩ := h
      walk_at "rd"
      refine ⟨by omega, by omega, ?_⟩
      have ei : ((1 : Int) + (i : Int)).toNat = i + 1 := by omega
      rw [ei]
      refine forg_range (fun j σ' H' => ∃ (tb : List Rw) (x5 : Option V), σ' = [some (.ref t), some (.int (n : Int)), some (.ref pr), some (.int (1 + (i : Int))), x5] ∧ Ext T [t] H H' ∧ Tape l H' t ∧ Ls H' pr (tb.map rwD) ∧ (TbIn n tb ∧ TbW tb) ∧ tb.length ≤ 6 * i + j)
        ⟨tb, _, rfl, eH, TH, htb, hin, by omega⟩ (fun j σ' H' hj h => ?_) (fun σ' H' h => ?_)
      · obtain ⟨tb, x5, rfl, eH, TH, htb, hin, hlen⟩ := h
        walk_at "rd"
        refine ⟨l, t, 2, rfl, by decide, by decide, TH, fun d H2 hd0 hd1 e2 T2 => ?_⟩
        have htb2 := htb.y e2 hprt TH
        walk_at "rd"
        refine rd_ite (fun c => ?_) (fun c => ?_)
        · obtain ⟨ys, hys, hyi⟩ := htb2
          have hyl : ys.length ≤ 100 := by
            rw [hyi.len, List.length_map]
            omega
          walk_at "rd"
          refine rd_pickL (l := l) rfl T2 rfl (by decide) (by decide) fun c hc H3 e3 T3 => ?_
          have hc2 : ∃ m : Int, c = .int m ∧ 0 < m ∧ m ≤ 300 := by
            rcases List.mem_cons.mp hc with e | hc
            · exact ⟨3, e, by decide, by decide⟩
            rcases List.mem_cons.mp hc with e | hc
            · exact ⟨20, e, by decide, by decide⟩
            rcases List.mem_cons.mp hc with e | hc
            · exact ⟨300, e, by decide, by decide⟩
            cases hc
          obtain ⟨m, rfl, hm0, hm1⟩ := hc2
          have hys := lst.y hys e3 hprt
          have hyi := hyi.y e3 T2
          walk_at "rd"
          refine ⟨l, t, m, rfl, by omega, by omega, T3, fun wv H4 hv0 hv1 e4 T4 => ?_⟩
          have hys := lst.y hys e4 hprt
          have hyi := hyi.y e4 T3
          walk_at "rd"
          refine ⟨by walk_at "sz", fun tp ntp => ?_⟩
          obtain ⟨ntp, e6, htp⟩ := alT (T := T) ntp [V.int (1 + (i : Int)), .int (0 + (j : Int)), .int (1 + wv)]
          have T6 := T4.ext e6
          have hys6 := lst.x hys e6
          have hyi6 := hyi.x e6
          generalize upd H4 tp _ = H6 at e6 htp T6 hys6 hyi6 ⊢
          walk_at "rd"
          have ej1 : (1 : Int) + (i : Int) = ((i + 1 : Nat) : Int) := by omega
          have ej0 : (0 : Int) + (j : Int) = ((j : Nat) : Int) := by omega
          rw [ej1, ej0] at htp
          obtain ⟨g1, g2⟩ := Ls.app (T := T) hys6 hyi6 (rw_new (r := (i + 1, j, 1 + wv)) htp)
          refine ⟨tb ++ [(i + 1, j, 1 + wv)], _, rfl, ((((eH.trans e2).trans e3).trans e4).trans e6.any).own npr hys6, T6.own hprt hprl, by rw [List.map_append]; exact g1, ⟨fun r hr => ?_, fun r hr => ?_⟩, by rw [List.length_append]; show _ + 1 ≤ _; omega⟩
          · rcases List.mem_append.mp hr with hr | hr
            · exact hin.1 r hr
            · rw [List.mem_singleton.mp hr]
              exact ⟨by show j < i + 1; omega, by show i + 1 ≤ n; omega⟩
          · rcases List.mem_append.mp hr with hr | hr
            · exact hin.2 r hr
            · rw [List.mem_singleton.mp hr]
              show 1 + wv ≤ 300
              omega
        · walk_at "rd"
          exact ⟨tb, _, rfl, eH.trans e2, T2, htb2, hin, by omega⟩
      · obtain ⟨tb, x5, rfl, eH, TH, htb, hin, hlen⟩ := h
        exact ⟨tb, _, _, rfl, eH, TH, htb, hin, by omega⟩
    · obtain ⟨tb, x4, x5, rfl, eH, TH, htb, hin, hlen⟩ := h
      obtain ⟨ys, hys, hyi⟩ := htb
      walk_at "rd"
      refine rd_tupL (SqL.of hys) fun l2 nl2 => ?_
      obtain ⟨nl2, e7, hl2⟩ := alT (T := T) nl2 ys
      have T7 := TH.ext e7
      have hyi7 := hyi.x e7
      generalize upd H' l2 _ = H7 at e7 hl2 T7 hyi7 ⊢
      exact q _ tb _ hin.1 hin.2 (by omega) (.tup hl2 hyi7) (eH.trans e7.any) T7
end

open PySem PySem.Spec PyProof.Rows L2
open PySem.W (EachIs)
local macro_rules | `(tactic| walk_at "fslN") => `(tactic| (refine Nat.le_trans (?_ : _ ≤ 100000) (by decide); (try simp only [app_len2, sp_len, nl_len, em_len]); omega))
local macro_rules | `(tactic| walk_at "fsiN") => `(tactic| (refine fs_i (by omega) ?_; refine fs_y ⟨by walk_at "fslN", ?_⟩; walk_at "rd"))
local macro_rules | `(tactic| walk_at "fscN") => `(tactic| (refine ⟨by walk_at "fslN", ?_⟩; walk_at "rd"))
section
variable {T : List (Addr × Str)} {P : Program} {w : World} {K : PySem.W.Frag} {mg : Str → Option Value} {base : Heap}
local macro_rules | `(tactic| walk_at "tr") => `(tactic| first
  | assumption
  | exact Ext.refl
  | ((with_reducible refine' Im.x (T := T) (H := ?trH) ?tra ?tre); (case tre => assumption); (case tra => walk_at "tr"))
  | ((with_reducible refine' Im.y (T := T) (H := ?trH) ?tra ?tre ?trt); (case tre => assumption); (case trt => walk_at "tr"); (case tra => walk_at "tr"))
  | ((with_reducible refine' ImAll.x (T := T) (H := ?trH) ?tra ?tre); (case tre => assumption); (case tra => walk_at "tr"))
  | ((with_reducible refine' ImAll.y (T := T) (H := ?trH) ?tra ?tre ?trt); (case tre => assumption); (case trt => walk_at "tr"); (case tra => walk_at "tr"))
  | ((with_reducible refine' Ls.x (T := T) (H := ?trH) ?tra ?tre); (case tre => assumption); (case tra => walk_at "tr"))
  | ((with_reducible refine' Ls.y (T := T) (H := ?trH) ?tra ?tre ?trn ?trt); (case tre => assumption); (case trt => walk_at "tr"); (case trn => walk_at "tr"); (case tra => walk_at "tr"))
  | ((with_reducible refine' SqP.x (T := T) (H := ?trH) ?tra ?tre); (case tre => assumption); (case tra => walk_at "tr"))
  | ((with_reducible refine' SqP.y (T := T) (H := ?trH) ?tra ?tre ?trt); (case tre => assumption); (case trt => walk_at "tr"); (case tra => walk_at "tr"))
  | ((with_reducible refine' StAt.x (T := T) (H := ?trH) ?tra ?tre); (case tre => assumption); (case tra => walk_at "tr"))
  | ((with_reducible refine' StAt.y (T := T) (H := ?trH) ?tra ?tre ?trt); (case tre => assumption); (case trt => walk_at "tr"); (case tra => walk_at "tr"))
  | ((with_reducible refine' Pools.ext0 (T := T) (H := ?trH) ?tra ?tre); (case tre => assumption); (case tra => walk_at "tr"))
  | ((with_reducible refine' Pools.ext (T := T) (H := ?trH) ?tra ?tre ?trt); (case tre => assumption); (case trt => walk_at "tr"); (case tra => walk_at "tr"))
  | ((with_reducible refine' CL.x (T := T) (H := ?trH) ?tra ?tre); (case tre => assumption); (case tra => walk_at "tr"))
  | ((with_reducible refine' CL.y (T := T) (H := ?trH) ?tra ?tre); (case tre => assumption); (case tra => walk_at "tr"))
  | ((with_reducible refine' Tape.ext (T := T) (H := ?trH) ?tra ?tre); (case tre => assumption); (case tra => walk_at "tr"))
  | ((with_reducible refine' lst.x (T := T) (H := ?trH) ?tra ?tre); (case tre => assumption); (case tra => walk_at "tr"))
  | ((with_reducible refine' lst.y (T := T) (H := ?trH) ?tra ?tre ?trn); (case tre => assumption); (case trn => walk_at "tr"); (case tra => walk_at "tr"))
  | ((with_reducible refine' tup.x (T := T) (H := ?trH) ?tra ?tre); (case tre => assumption); (case tra => walk_at "tr"))
  | ((with_reducible refine' tup.y (T := T) (H := ?trH) ?tra ?tre ?trt); (case tre => assumption); (case trt => walk_at "tr"); (case tra => walk_at "tr"))
  | ((with_reducible refine' frz.x (T := T) (H := ?trH) ?tra ?tre); (case tre => assumption); (case tra => walk_at "tr"))
  | ((with_reducible refine' frz.y (T := T) (H := ?trH) ?tra ?tre ?trt); (case tre => assumption); (case trt => walk_at "tr"); (case tra => walk_at "tr"))
  | ((with_reducible refine' Im.z (T := T) (H := ?trH) ?tra ?tre ?trt); (case tre => assumption); (case trt => assumption); (case tra => walk_at "tr"))
  | ((with_reducible refine' ImAll.z (T := T) (H := ?trH) ?tra ?tre ?trt); (case tre => assumption); (case trt => assumption); (case tra => walk_at "tr"))
  | ((with_reducible refine' StAt.z (T := T) (H := ?trH) ?tra ?tre ?trt); (case tre => assumption); (case trt => assumption); (case tra => walk_at "tr"))
  | ((with_reducible refine' SqP.z (T := T) (H := ?trH) ?tra ?tre ?trt); (case tre => assumption); (case trt => assumption); (case tra => walk_at "tr"))
  | ((with_reducible refine' tup.z (T := T) (H := ?trH) ?tra ?tre ?trt); (case tre => assumption); (case trt => assumption); (case tra => walk_at "tr"))
  | ((with_reducible refine' Ls.z (T := T) (H := ?trH) ?tra ?tre ?trt ?trn); (case tre => assumption); (case trt => assumption); (case trn => assumption); (case tra => walk_at "tr"))
  | ((with_reducible refine' lst.z (T := T) (H := ?trH) ?tra ?tre ?trn); (case tre => assumption); (case trn => assumption); (case tra => walk_at "tr"))
  | ((with_reducible refine' CL.z (T := T) (H := ?trH) ?tra ?tre ?trn); (case tre => assumption); (case trn => assumption); (case tra => walk_at "tr"))
  | ((with_reducible refine' Tape.ne1 (H := ?trH) ?trt ?trn); (case trn => assumption); (case trt => walk_at "tr"))
  | ((with_reducible refine' Ext.trans (H1 := ?trH) ?tra (Ext.any ?tre)); (case tre => assumption); (case tra => walk_at "tr"))
  | ((with_reducible refine' Ext.trans (H1 := ?trH) ?tra ?tre); (case tre => assumption); (case tra => walk_at "tr"))
  | ((with_reducible refine' Ext.back1 (T := T) (H1 := ?trH) ?tre ?trn ?tra); (case tra => assumption); (case trn => walk_at "tr"); (case tre => walk_at "tr"))
  | ((with_reducible refine' Ext.back0 (T := T) (H1 := ?trH) ?tre ?tra); (case tra => assumption); (case tre => walk_at "tr"))
  | ((with_reducible refine' SqT.of ?tra); (case tra => walk_at "tr"))
  | ((with_reducible refine' SqL.of ?tra); (case tra => walk_at "tr")))
local macro_rules | `(tactic| walk_at "al") => `(tactic| (refine ⟨by first | (show _ ≤ sizeLine; decide) | walk_at "sz", ?_⟩; intro alp aln; generalize alG : upd _ alp _ = alH; obtain ⟨aln2, alx, alh⟩ := al_of (T := T) aln alG; clear alG aln))
local macro_rules | `(tactic| walk_at "al0") => `(tactic| (intro alp aln; generalize alG : upd _ alp _ = alH; obtain ⟨aln2, alx, alh⟩ := al_of (T := T) aln alG; clear alG aln))

def spLines (T : List (Addr × Str)) : Sp := fun vs H Q _ => ∃ (a : Addr) (es : List Ent), vs = [.ref a] ∧ Ls H a (es.map entD) ∧ es.length ≤ 100 ∧ (∀ e ∈ es, EntOk e) ∧ ∀ H', Ext T [] H H' → Q (.str (S (nls (es.map lineL)))) H'
theorem ok_law_lines (D : Def K mg "_law_lines" s_law_lines ["entries"]) (mb : ∀ x ∈ bltns, mg x = none) : Ok P w K mg base 1 "_law_lines" ["entries"] (spLines T) := by
  refine D.ok sc_law_lines (fun vs H Q E h => ?_) (fun cdv f A outer s H vs Q E hr h => ?_)
  · obtain ⟨a, es, rfl, _⟩ := h
    rfl
  · obtain ⟨a, es, rfl, ⟨xs, hxs, hxi⟩, hel, hok, q⟩ := h
    refine ⟨_, (pss_one (ps_ret (pe_m1 PySem.F.slot_str_join PySem.F.type_str_join (mt_joinU K rfl) pe_str (pe_lc (own := [("entry", 1)]) (g := gName 1) (tt := tYes) rfl sc_law_lines.nd (pi_seq K rfl (pv 0)) (blkOk_by (N := N_law_lines) (sc := defScope s_law_lines) (by decide +kernel)) (fun _ _ _ _ _ => (pg_name (i := 1) sc_law_lines.nd rfl (Or.inl rfl))) (fun _ _ _ _ _ => pts_nil) (fun _ _ _ _ _ => (pe_op (op_plus K rfl) (pe_ix (ix_U K rfl) (pv 1) pe_int (fun _ _ => rfl)) (pe_fstr (.cons pe_str (.cons (pe_fmt (pe_ix (ix_U K rfl) (pv 1) pe_int (fun _ _ => rfl))) (.cons pe_str (.cons (pe_fmt (pe_ix (ix_U K rfl) (pv 1) pe_int (fun _ _ => rfl))) (.cons pe_str PJ.nil)))))))))))), ?_⟩
    have hxl : xs.length = es.length := by rw [hxi.len, List.length_map]
    walk_at "rd"
    refine lcg_rel T [] walk_list xs rfl (fun i H x H' y => y) (by simp) (fun H' e => SqL.of (lst.x hxs e)) (Nat.lt_of_le_of_lt (show xs.length ≤ 100 by omega) (by decide)) (fun _ => true) (fun y x => ∃ e, Im H x (entD e) ∧ y = V.str (S (lineL e ++ [10]))) (fun i x hx H' e' R S' h1 _ => ?_) (fun pa H5 ys npa e5 hpa hys => ?_)
    · obtain ⟨e, he, hxe⟩ := ent_getX hxi hx
      obtain ⟨hw, hk, hm⟩ := hok e (List.mem_of_getElem? he)
      obtain ⟨p, rfl, hp⟩ := (hxe.x e').ent'
      have l1 := word_len hw
      have l2 := num_len hk
      have l3 := num_len hm
      walk_at "rd"
      refine ⟨rfl, ?_⟩
      walk_at "rd"
      refine rd_ixT (i := 0) (SqP.t hp) (v := .str e.1) rfl ?_
      walk_at "rd"
      walk_at "fscN"
      refine rd_ixT (i := 1) (SqP.t hp) (v := .int (e.2.1 : Int)) rfl ?_
      walk_at "rd"
      walk_at "fsiN"
      walk_at "fscN"
      refine rd_ixT (i := 2) (SqP.t hp) (v := .int (e.2.2 : Int)) rfl ?_
      walk_at "rd"
      walk_at "fsiN"
      walk_at "fscN"
      have ee : e.1 ++ (((((Str.empty ++ Str.ofString " ") ++ Str.ofString (toString ((e.2.1 : Nat) : Int))) ++ Str.ofString " ") ++ Str.ofString (toString ((e.2.2 : Nat) : Int))) ++ Str.ofString "\n") = S (lineL e ++ [10]) := sg_inj (by
        simp only [sg_app, sg_num, sg_sp, sg_nl, sg_em, sg_S]
        unfold lineL lineP
        simp [TL.joinL])
      refine rd_plusS (by walk_at "fslN") ?_
      rw [ee]
      exact h1 rfl _ _ .refl ⟨e, hxe, rfl⟩
    · rw [filtT] at hys
      have hys := eachs_of ent_injX hys hxi
      subst hys
      have hpa : H5 pa = some (.lst (strL ((es.map lineL).map (· ++ [10])))) := by
        rw [hpa]
        unfold strL
        rw [List.map_map, List.map_map, List.map_map]
        rfl
      walk_at "rd"
      refine rd_join_nls hpa (fun x hx => ?_) (by rw [List.length_map]; exact hel) (q _ e5)
      obtain ⟨e, he, rfl⟩ := List.mem_map.mp hx
      exact line_len (hok e he)
end

open PySem PySem.Spec PyProof.Rows L2
open PySem.W (EachIs)
section
variable {T : List (Addr × Str)} {P : Program} {w : World} {K : PySem.W.Frag} {mg : Str → Option Value} {base : Heap}
local macro_rules | `(tactic| walk_at "tr") => `(tactic| first
  | assumption
  | exact Ext.refl
  | ((with_reducible refine' Im.x (T := T) (H := ?trH) ?tra ?tre); (case tre => assumption); (case tra => walk_at "tr"))
  | ((with_reducible refine' Im.y (T := T) (H := ?trH) ?tra ?tre ?trt); (case tre => assumption); (case trt => walk_at "tr"); (case tra => walk_at "tr"))
  | ((with_reducible refine' ImAll.x (T := T) (H := ?trH) ?tra ?tre); (case tre => assumption); (case tra => walk_at "tr"))
  | ((with_reducible refine' ImAll.y (T := T) (H := ?trH) ?tra ?tre ?trt); (case tre => assumption); (case trt => walk_at "tr"); (case tra => walk_at "tr"))
  | ((with_reducible refine' Ls.x (T := T) (H := ?trH) ?tra ?tre); (case tre => assumption); (case tra => walk_at "tr"))
  | ((with_reducible refine' Ls.y (T := T) (H := ?trH) ?tra ?tre ?trn ?trt); (case tre => assumption); (case trt => walk_at "tr"); (case trn => walk_at "tr"); (case tra => walk_at "tr"))
  | ((with_reducible refine' SqP.x (T := T) (H := ?trH) ?tra ?tre); (case tre => assumption); (case tra => walk_at "tr"))
  | ((with_reducible refine' SqP.y (T := T) (H := ?trH) ?tra ?tre ?trt); (case tre => assumption); (case trt => walk_at "tr"); (case tra => walk_at "tr"))
  | ((with_reducible refine' StAt.x (T := T) (H := ?trH) ?tra ?tre); (case tre => assumption); (case tra => walk_at "tr"))
  | ((with_reducible refine' StAt.y (T := T) (H := ?trH) ?tra ?tre ?trt); (case tre => assumption); (case trt => walk_at "tr"); (case tra => walk_at "tr"))
  | ((with_reducible refine' Pools.ext0 (T := T) (H := ?trH) ?tra ?tre); (case tre => assumption); (case tra => walk_at "tr"))
  | ((with_reducible refine' Pools.ext (T := T) (H := ?trH) ?tra ?tre ?trt); (case tre => assumption); (case trt => walk_at "tr"); (case tra => walk_at "tr"))
  | ((with_reducible refine' CL.x (T := T) (H := ?trH) ?tra ?tre); (case tre => assumption); (case tra => walk_at "tr"))
  | ((with_reducible refine' CL.y (T := T) (H := ?trH) ?tra ?tre); (case tre => assumption); (case tra => walk_at "tr"))
  | ((with_reducible refine' Tape.ext (T := T) (H := ?trH) ?tra ?tre); (case tre => assumption); (case tra => walk_at "tr"))
  | ((with_reducible refine' lst.x (T := T) (H := ?trH) ?tra ?tre); (case tre => assumption); (case tra => walk_at "tr"))
  | ((with_reducible refine' lst.y (T := T) (H := ?trH) ?tra ?tre ?trn); (case tre => assumption); (case trn => walk_at "tr"); (case tra => walk_at "tr"))
  | ((with_reducible refine' tup.x (T := T) (H := ?trH) ?tra ?tre); (case tre => assumption); (case tra => walk_at "tr"))
  | ((with_reducible refine' tup.y (T := T) (H := ?trH) ?tra ?tre ?trt); (case tre => assumption); (case trt => walk_at "tr"); (case tra => walk_at "tr"))
  | ((with_reducible refine' frz.x (T := T) (H := ?trH) ?tra ?tre); (case tre => assumption); (case tra => walk_at "tr"))
  | ((with_reducible refine' frz.y (T := T) (H := ?trH) ?tra ?tre ?trt); (case tre => assumption); (case trt => walk_at "tr"); (case tra => walk_at "tr"))
  | ((with_reducible refine' Im.z (T := T) (H := ?trH) ?tra ?tre ?trt); (case tre => assumption); (case trt => assumption); (case tra => walk_at "tr"))
  | ((with_reducible refine' ImAll.z (T := T) (H := ?trH) ?tra ?tre ?trt); (case tre => assumption); (case trt => assumption); (case tra => walk_at "tr"))
  | ((with_reducible refine' StAt.z (T := T) (H := ?trH) ?tra ?tre ?trt); (case tre => assumption); (case trt => assumption); (case tra => walk_at "tr"))
  | ((with_reducible refine' SqP.z (T := T) (H := ?trH) ?tra ?tre ?trt); (case tre => assumption); (case trt => assumption); (case tra => walk_at "tr"))
  | ((with_reducible refine' tup.z (T := T) (H := ?trH) ?tra ?tre ?trt); (case tre => assumption); (case trt => assumption); (case tra => walk_at "tr"))
  | ((with_reducible refine' Ls.z (T := T) (H := ?trH) ?tra ?tre ?trt ?trn); (case tre => assumption); (case trt => assumption); (case trn => assumption); (case tra => walk_at "tr"))
  | ((with_reducible refine' lst.z (T := T) (H := ?trH) ?tra ?tre ?trn); (case tre => assumption); (case trn => assumption); (case tra => walk_at "tr"))
  | ((with_reducible refine' CL.z (T := T) (H := ?trH) ?tra ?tre ?trn); (case tre => assumption); (case trn => assumption); (case tra => walk_at "tr"))
  | ((with_reducible refine' Tape.ne1 (H := ?trH) ?trt ?trn); (case trn => assumption); (case trt => walk_at "tr"))
  | ((with_reducible refine' Ext.trans (H1 := ?trH) ?tra (Ext.any ?tre)); (case tre => assumption); (case tra => walk_at "tr"))
  | ((with_reducible refine' Ext.trans (H1 := ?trH) ?tra ?tre); (case tre => assumption); (case tra => walk_at "tr"))
  | ((with_reducible refine' Ext.back1 (T := T) (H1 := ?trH) ?tre ?trn ?tra); (case tra => assumption); (case trn => walk_at "tr"); (case tre => walk_at "tr"))
  | ((with_reducible refine' Ext.back0 (T := T) (H1 := ?trH) ?tre ?tra); (case tra => assumption); (case tre => walk_at "tr"))
  | ((with_reducible refine' SqT.of ?tra); (case tra => walk_at "tr"))
  | ((with_reducible refine' SqL.of ?tra); (case tra => walk_at "tr")))
local macro_rules | `(tactic| walk_at "al") => `(tactic| (refine ⟨by first | (show _ ≤ sizeLine; decide) | walk_at "sz", ?_⟩; intro alp aln; generalize alG : upd _ alp _ = alH; obtain ⟨aln2, alx, alh⟩ := al_of (T := T) aln alG; clear alG aln))
local macro_rules | `(tactic| walk_at "al0") => `(tactic| (intro alp aln; generalize alG : upd _ alp _ = alH; obtain ⟨aln2, alx, alh⟩ := al_of (T := T) aln alG; clear alG aln))

def spFirst2 (T : List (Addr × Str)) : Sp := fun vs H Q _ => ∃ (va : V) (b : Addr) (tb : List Rw) (done : List Int), vs = [va, .ref b] ∧ Im H va (.tuple (tb.map rwD)) ∧ H b = some (.lst (done.map V.int)) ∧ TbLt tb ∧ tb.length ≤ 100 ∧ done.length ≤ 100 ∧ ∀ H', Ext T [] H H' → Q (.int (askF tb done)) H'
theorem ok_law_first (D : Def K mg "_law_first" s_law_first ["table", "done"]) (mb : ∀ x ∈ bltns, mg x = none) : Ok P w K mg base 1 "_law_first" ["table", "done"] (spFirst2 T) := by
  refine D.ok sc_law_first (fun vs H Q E h => ?_) (fun cdv f A outer s H vs Q E hr h => ?_)
  · obtain ⟨va, b, tb, done, rfl, _⟩ := h
    rfl
  · obtain ⟨va, b, tb, done, rfl, hva, hb, hlt, htl, hdl, q⟩ := h
    obtain ⟨a, xs, rfl, ha, hxi⟩ := hva.tup'
    refine ⟨_, (pss_cons (ps_set (i := 2) sc_law_first.nd rfl (.inr rfl) (pe_op (op_plus K rfl) (pe_callB (call_lenU K rfl) (by rfl) (mb _ (by decide)) (by decide +kernel) (pa_cons (pv 1) pa_nil)) pe_int))
   (pss_cons (ps_set (i := 3) sc_law_first.nd rfl (.inr rfl) (pe_op (op_plus K rfl) (pe_lst (pa_cons pe_int pa_nil)) (pe_callTy (call_listU K rfl) (by rfl) (mb _ (by decide)) (by decide +kernel) (pa_cons (pv 1) pa_nil))))
   (pss_one (ps_ret (pe_callB (call_maxA K rfl rfl) (by rfl) (mb _ (by decide)) (by decide +kernel) (pa_cons (pe_op (op_plus K rfl) (pe_lst (pa_cons (pe_op (op_plus K rfl) (pe_ix (ix_U K rfl) (pv 3) (pe_op op_sub (pv 2) pe_int) (fun _ _ => rfl)) pe_int) pa_nil)) (pe_lc (own := [("row", 4)]) (g := gName 4) rfl sc_law_first.nd (pi_seq K rfl (pv 0)) (blkOk_by (N := N_law_first) (sc := defScope s_law_first) (by decide +kernel)) (fun _ _ _ _ _ => (pg_name (i := 4) sc_law_first.nd rfl (Or.inl rfl))) (fun _ _ _ _ _ => (pts_one (pt_cmpR (op_eqU K rfl hr.units) (pe_ix (ix_U K rfl) (pv 4) pe_int (fun _ _ => rfl)) (pv 2) (nomark _)))) (fun _ _ _ _ _ => (pe_op (op_plus K rfl) (pe_ix (ix_U K rfl) (pv 3) (pe_ix (ix_U K rfl) (pv 4) pe_int (fun _ _ => rfl)) (fun _ _ => rfl)) (pe_ix (ix_U K rfl) (pv 4) pe_int (fun _ _ => rfl)))))) pa_nil)))))), ?_⟩
    have hxl : xs.length ≤ 100 := by
      rw [hxi.len, List.length_map]
      exact htl
    have hlen : ((done.map V.int).length : Int) + 1 = ((done.length + 1 : Nat) : Int) := by
      rw [List.length_map]
      omega
    walk_at "rdn"
    refine rd_seq ?_
    walk_at "rdn"
    rw [hlen]
    refine rd_seq ?_
    walk_at "rdn"
    refine ⟨by walk_at "sz", fun p1 np1 => ?_⟩
    obtain ⟨np1, e1, hp1⟩ := alL (T := T) np1 [V.int 0]
    have hb1 := lst.x hb e1
    generalize upd H p1 _ = H1 at e1 hp1 hb1 ⊢
    walk_at "rdn"
    refine rd_listL (SqL.of hb1) fun p2 np2 => ?_
    obtain ⟨np2, e2, hp2⟩ := alL (T := T) np2 (done.map V.int)
    have hp1 := lst.x hp1 e2
    generalize upd H1 p2 _ = H2 at e2 hp1 hp2 ⊢
    refine rd_cat hp1 hp2 ?_ fun p3 np3 => ?_
    · rw [List.length_map]
      walk_at "sz"
    obtain ⟨np3, e3, hp3⟩ := alL (T := T) np3 ([V.int 0] ++ done.map V.int)
    have hp3 : (upd H2 p3 (.lst ([V.int 0] ++ done.map V.int))) p3 = some (.lst ((0 :: done).map V.int)) := hp3
    generalize upd H2 p3 _ = H3 at e3 hp3 ⊢
    have x3 := (e1.trans e2).trans e3
    have ha3 := ha.x x3
    have hx3 := hxi.x x3
    walk_at "rd"
    have e0 : ((done.length + 1 : Nat) : Int) - 1 = (done.length : Int) := by omega
    rw [e0]
    refine rd_ixL (SqL.of hp3) (at_fn (by rw [List.length_cons]; omega)) ?_
    walk_at "rd"
    refine ⟨by walk_at "sz", fun p4 np4 => ?_⟩
    obtain ⟨np4, e4, hp4⟩ := alL (T := T) np4 [V.int (fn (0 :: done) done.length + 1)]
    have hp3 := lst.x hp3 e4
    have ha4 := ha3.x e4
    have hx4 := hx3.x e4
    generalize upd H3 p4 _ = H4 at e4 hp3 hp4 ha4 hx4 ⊢
    walk_at "rd"
    refine .inr ⟨⟨xs, SqP.t ha4⟩, ?_⟩
    refine lcg_rel T [] walk_tup xs rfl (fun i H x H' y => y) (by simp) (fun H' e => SqP.t (ha4.x e)) (Nat.lt_of_le_of_lt hxl (by decide)) (pIm H4 rwD (fun r => decide (r.1 = done.length + 1))) (fun y x => ∃ r, Im H4 x (rwD r) ∧ y = V.int (fn (0 :: done) r.2.1 + r.2.2)) (fun i x hx H' e' R S' h1 h2 => ?_) (fun D H5 ys nD e5 hD hys => ?_)
    · obtain ⟨r, hr, hxr⟩ := rw_get hx4 hx
      have hrl := hlt r (List.mem_of_getElem? hr)
      have hpe := pIm_eq (c := fun r : Rw => decide (r.1 = done.length + 1)) (fun _ _ => rwD_inj) hxr
      have hxr' := hxr.x e'
      have hp' := lst.x hp3 e'
      walk_at "rd"
      refine ⟨rfl, ?_⟩
      walk_at "rd"
      refine rd_ixI hxr' (d := .int (r.1 : Int)) rfl fun u hu => ?_
      rw [hu.int']
      walk_at "rd"
      refine rd_ite (fun c => ?_) (fun c => ?_)
      · have c : r.1 = done.length + 1 := by omega
        walk_at "rd"
        refine rd_ixI hxr' (d := .int (r.2.1 : Int)) rfl fun u hu => ?_
        rw [hu.int']
        walk_at "rd"
        refine rd_ixL (SqL.of hp') (at_fn (by rw [List.length_cons]; omega)) ?_
        walk_at "rd"
        refine rd_ixI hxr' (d := .int r.2.2) rfl fun u hu => ?_
        rw [hu.int']
        walk_at "rd"
        exact h1 (by rw [hpe]; exact decide_eq_true c) _ _ .refl ⟨r, hxr, rfl⟩
      · exact h2 (by rw [hpe]; exact decide_eq_false (by omega)) _ .refl
    · have hys := each_ints hx4 hys
      have hys : ys = (askW tb done).map V.int := hys
      subst hys
      have hwl : (askW tb done).length ≤ 100 := by
        unfold askW
        rw [List.length_map]
        exact Nat.le_trans (List.length_filter_le _ _) htl
      have hp4 := lst.x hp4 e5
      refine rd_cat hp4 hD ?_ fun p5 np5 => ?_
      · rw [List.length_map]
        walk_at "sz"
      obtain ⟨np5, e6, hp5⟩ := alL (T := T) np5 ([V.int (fn (0 :: done) done.length + 1)] ++ (askW tb done).map V.int)
      have hp5 : (upd H5 p5 (.lst ([V.int (fn (0 :: done) done.length + 1)] ++ (askW tb done).map V.int))) p5 = some (.lst (((fn (0 :: done) done.length + 1) :: askW tb done).map V.int)) := hp5
      generalize upd H5 p5 _ = H6 at e6 hp5 ⊢
      walk_at "rd"
      refine rd_maxA (SqL.of hp5) (by simp) fun m hm1 hm2 => ?_
      rw [ask_max hm1 hm2]
      exact q _ (((x3.trans e4).trans e5).trans e6)
end

open PySem PySem.Spec PyProof.Rows L2
open PySem.W (EachIs)
/-- the form of a drawn history: asked and done in turn, each with its number -/
def Alt (es : List Ent) : Prop := ∀ (i : Nat) (e : Ent), es[i]? = some e → (i % 2 = 0 → e.1 = askedS ∧ e.2.1 = i / 2 + 1) ∧ (i % 2 = 1 → e.1 = doneS ∧ e.2.1 = i / 2 + 1)
theorem last_at {es : List Ent} (h : es ≠ []) : ∃ e, es.getLast? = some e ∧ es[es.length - 1]? = some e := by
  have hl : es.length - 1 < es.length := by have := List.length_pos_iff.mpr h; omega
  exact ⟨es[es.length - 1], by rw [List.getLast?_eq_getElem?, List.getElem?_eq_getElem hl], List.getElem?_eq_getElem hl⟩
theorem alt_open {es : List Ent} (h : Alt es) : openB es = decide (es.length % 2 = 1) := by
  by_cases hne : es = []
  · subst hne
    rfl
  · obtain ⟨e, h1, h2⟩ := last_at hne
    have hpos := List.length_pos_iff.mpr hne
    rw [openB_of h1]
    obtain ⟨g1, g2⟩ := h _ _ h2
    by_cases hp : es.length % 2 = 1
    · rw [decide_eq_true hp, decide_eq_true (g1 (by omega)).1]
    · rw [decide_eq_false hp, (g2 (by omega)).1]
      decide
theorem alt_last {es : List Ent} (h : Alt es) (ho : es.length % 2 = 1) : lastK es = es.length / 2 + 1 := by
  have hne : es ≠ [] := fun e => by
    rw [e] at ho
    cases ho
  obtain ⟨e, h1, h2⟩ := last_at hne
  rw [lastK_of h1, ((h _ _ h2).1 (by omega)).2]
  omega
theorem alt_done {es : List Ent} (h : Alt es) : ∀ n, n ≤ es.length → (doneL (es.take n)).length = n / 2
  | 0, _ => rfl
  | n + 1, hn => by
    have ih := alt_done h n (by omega)
    have hi : n < es.length := by omega
    obtain ⟨g1, g2⟩ := h n _ (List.getElem?_eq_getElem hi)
    rw [← List.take_append_getElem hi]
    unfold doneL at ih ⊢
    rw [List.filter_append, List.map_append, List.length_append, ih]
    by_cases hp : n % 2 = 0
    · have e : ([es[n]].filter fun e => decide (e.1 = doneS)) = [] := by
        rw [List.filter_cons, (g1 hp).1]
        rfl
      rw [e]
      show n / 2 + 0 = _
      omega
    · have e : ([es[n]].filter fun e => decide (e.1 = doneS)) = [es[n]] := by
        rw [List.filter_cons, (g2 (by omega)).1]
        rfl
      rw [e]
      show n / 2 + 1 = _
      omega
theorem alt_doneL {es : List Ent} (h : Alt es) : (doneL es).length = es.length / 2 := by
  have := alt_done h es.length (Nat.le_refl _)
  rw [List.take_length] at this
  exact this
theorem Alt.snoc {es : List Ent} {e : Ent} (h : Alt es) (h0 : es.length % 2 = 0 → e.1 = askedS ∧ e.2.1 = es.length / 2 + 1) (h1 : es.length % 2 = 1 → e.1 = doneS ∧ e.2.1 = es.length / 2 + 1) : Alt (es ++ [e]) := by
  intro i x hx
  by_cases hi : i < es.length
  · rw [List.getElem?_append_left hi] at hx
    exact h i x hx
  · have hle : es.length ≤ i := by omega
    rw [List.getElem?_append_right hle] at hx
    have hi0 : i = es.length := by
      have := (List.getElem?_eq_some_iff.mp hx).1
      simp only [List.length_cons, List.length_nil] at this
      omega
    subst hi0
    rw [Nat.sub_self] at hx
    cases Option.some.inj (show some e = some x from hx)
    exact ⟨h0, h1⟩
theorem Good.snoc {es : List Ent} {e : Ent} (h : Good es) (h1 : EntOk e) (h2 : isEntV es e = true) : Good (es ++ [e]) := fun i x hx => by
  by_cases hi : i < es.length
  · rw [List.getElem?_append_left hi] at hx
    rw [List.take_append_of_le_length (Nat.le_of_lt hi)]
    exact h i x hx
  · rw [List.getElem?_append_right (by omega)] at hx
    have hi0 : i - es.length = 0 := by
      have := (List.getElem?_eq_some_iff.mp hx).1
      simp only [List.length_cons, List.length_nil] at this
      omega
    rw [hi0] at hx
    cases Option.some.inj hx
    have : i = es.length := by omega
    subst this
    rw [List.take_left' rfl]
    exact ⟨h1, h2⟩
theorem lastM_snoc (es : List Ent) (e : Ent) : lastM (es ++ [e]) = e.2.2 := lastM_of (by simp)
theorem lastK_snoc (es : List Ent) (e : Ent) : lastK (es ++ [e]) = e.2.1 := lastK_of (by simp)
theorem rdL_bad {es : List Ent} {l : List Nat} {r : List (List Nat)} {k : Nat} (h : isEntL es (wordsL l) = false) : rdL (l :: r) es k = .error k := by
  unfold isEntL at h
  show (match entL (wordsL l) with
    | some e => if isEntV es e = true then rdL r (es ++ [e]) (k + 1) else .error k
    | none => .error k) = _
  cases he : entL (wordsL l) with
  | none => rfl
  | some e =>
    rw [he] at h
    show (if isEntV es e = true then _ else _) = _
    rw [if_neg (by rw [show isEntV es e = false from h]; decide)]
theorem ask_ge (tb : List Rw) (done : List Int) : fn (0 :: done) done.length + 1 ≤ askF tb done := (ask_fold done tb _).2 _ List.mem_cons_self
theorem fn_le {done : List Int} {B : Int} (h : ∀ d ∈ done, d ≤ B) (h0 : 0 ≤ B) (j : Nat) : fn (0 :: done) j ≤ B := by
  unfold fn
  rw [List.getD_eq_getElem?_getD]
  cases hg : (0 :: done)[j]? with
  | none => exact h0
  | some x =>
    rcases List.mem_cons.mp (List.mem_of_getElem? hg) with e | hm
    · rw [e]
      exact h0
    · exact h _ hm
theorem ask_le {tb : List Rw} {done : List Int} {B : Int} (h : ∀ d ∈ done, d ≤ B) (h0 : 0 ≤ B) (hw : ∀ r ∈ tb, r.2.2 ≤ 300) : askF tb done ≤ B + 300 := by
  rcases List.mem_cons.mp (ask_fold done tb (fn (0 :: done) done.length + 1)).1 with e | hm
  · have := fn_le h h0 done.length
    show tb.foldl (askStep done) (fn (0 :: done) done.length + 1) ≤ _
    rw [e]
    omega
  · unfold askW at hm
    obtain ⟨r, hr, e⟩ := List.mem_map.mp hm
    have h1 := hw r (List.mem_filter.mp hr).1
    have h2 := fn_le h h0 r.2.1
    show tb.foldl (askStep done) (fn (0 :: done) done.length + 1) ≤ _
    rw [← e]
    omega
theorem doneL_app (a b : List Ent) : doneL (a ++ b) = doneL a ++ doneL b := by
  unfold doneL
  rw [List.filter_append, List.map_append]
theorem doneL_two (k m d : Nat) : doneL [(askedS, k, m), (doneS, k, d)] = [(d : Int)] := by
  unfold doneL
  rw [List.filter_cons, if_neg (by show ¬ decide (askedS = doneS) = true; decide), List.filter_cons, if_pos (by show decide (doneS = doneS) = true; decide)]
  rfl
theorem fn_snoc (l : List Int) (x z : Int) : fn (z :: (l ++ [x])) (l.length + 1) = x := by
  unfold fn
  rw [List.getD_eq_getElem?_getD, List.getElem?_cons_succ, List.getElem?_append_right (Nat.le_refl _), Nat.sub_self]
  rfl
/-- k rounds of a drawn history -/
structure Hist (k : Nat) (es : List Ent) : Prop where
  len : es.length = 2 * k
  alt : Alt es
  good : Good es
  last : fn (0 :: doneL es) k = (lastM es : Int)
  dn : ∀ d ∈ doneL es, d ≤ (lastM es : Int)
  bd : lastM es ≤ 360 * k
theorem Hist.nil : Hist 0 [] := ⟨rfl, (fun _ _ h => nomatch h), (fun _ _ h => nomatch h), rfl, (fun _ h => nomatch h), Nat.le_refl _⟩
theorem Hist.dl {k : Nat} {es : List Ent} (h : Hist k es) : (doneL es).length = k := by
  rw [alt_doneL h.alt, h.len]
  omega
theorem Hist.push {k : Nat} {es : List Ent} (h : Hist k es) (hk : k ≤ 100) {m d : Nat} (h1 : lastM es < m) (h2 : m ≤ d) (h3 : d ≤ lastM es + 360) : Hist (k + 1) (es ++ [(askedS, k + 1, m), (doneS, k + 1, d)]) := by
  have hl := h.len
  have hb := h.bd
  have e1 : es ++ [((askedS, k + 1, m) : Ent), (doneS, k + 1, d)] = (es ++ [(askedS, k + 1, m)]) ++ [(doneS, k + 1, d)] := by simp
  have l1 : (es ++ [((askedS, k + 1, m) : Ent)]).length = 2 * k + 1 := by
    rw [List.length_append, hl]
    rfl
  have a1 : Alt (es ++ [(askedS, k + 1, m)]) := h.alt.snoc (fun _ => ⟨rfl, by show k + 1 = _; omega⟩) (fun z => by omega)
  have g1 : Good (es ++ [(askedS, k + 1, m)]) := by
    refine h.good.snoc ⟨.inl rfl, by show k + 1 < 100000; omega, by show m < 100000; omega⟩ ?_
    rw [entV_even (by omega)]
    exact ⟨rfl, h1, by show k + 1 = _; omega⟩
  have hM : lastM (es ++ [((askedS, k + 1, m) : Ent), (doneS, k + 1, d)]) = d := by rw [e1, lastM_snoc]
  have hD : doneL (es ++ [((askedS, k + 1, m) : Ent), (doneS, k + 1, d)]) = doneL es ++ [(d : Int)] := by rw [doneL_app, doneL_two]
  refine ⟨?_, ?_, ?_, ?_, ?_, ?_⟩
  · rw [e1, List.length_append, l1]
    show 2 * k + 1 + 1 = _
    omega
  · rw [e1]
    exact a1.snoc (fun z => by rw [l1] at z; omega) (fun _ => ⟨rfl, by rw [l1]; show k + 1 = _; omega⟩)
  · rw [e1]
    refine g1.snoc ⟨.inr rfl, by show k + 1 < 100000; omega, by show d < 100000; omega⟩ ?_
    rw [entV_odd (by rw [l1]; omega)]
    exact ⟨rfl, by rw [lastM_snoc]; exact h2, by rw [lastK_snoc]⟩
  · rw [hM, hD]
    have := fn_snoc (doneL es) (d : Int) 0
    rw [h.dl] at this
    exact this
  · rw [hM, hD]
    intro x hx
    rcases List.mem_append.mp hx with hx | hx
    · have := h.dn x hx
      omega
    · rw [List.mem_singleton.mp hx]
      exact Int.le_refl _
  · rw [hM]
    omega
theorem Hist.ask {k : Nat} {es : List Ent} (h : Hist k es) {tb : List Rw} (hw : ∀ r ∈ tb, r.2.2 ≤ 300) : (lastM es : Int) + 1 ≤ askF tb (doneL es) ∧ askF tb (doneL es) ≤ (lastM es : Int) + 300 := by
  have h1 := ask_ge tb (doneL es)
  rw [h.dl, h.last] at h1
  exact ⟨h1, ask_le h.dn (by omega) hw⟩

open PySem PySem.Spec PyProof.Rows L2
open PySem.W (EachIs)
/-- the moment of an entry -/
def mAt (es : List Ent) (i : Nat) : Nat := match es[i]? with | some e => e.2.2 | none => 0
theorem mAt_of {es : List Ent} {i : Nat} {e : Ent} (h : es[i]? = some e) : mAt es i = e.2.2 := by
  unfold mAt
  rw [h]
theorem mAt_left {es r : List Ent} {i : Nat} (h : i < es.length) : mAt (es ++ r) i = mAt es i := by
  unfold mAt
  rw [List.getElem?_append_left h]
theorem mAt_take {es : List Ent} {i c : Nat} (h : i < c) : mAt (es.take c) i = mAt es i := by
  unfold mAt
  rw [List.getElem?_take, if_pos h]
/-- k rounds of a run of the table with these delays -/
structure RunK (tb : List Rw) (ds : List Int) (k : Nat) (es : List Ent) : Prop where
  hist : Hist k es
  ask : ∀ j, j < k → (mAt es (2 * j) : Int) = askF tb (doneL (es.take (2 * j)))
  del : ∀ j, j < k → (mAt es (2 * j + 1) : Int) = (mAt es (2 * j) : Int) + fn ds j
theorem RunK.nil (tb : List Rw) (ds : List Int) : RunK tb ds 0 [] := ⟨.nil, (fun _ h => absurd h (Nat.not_lt_zero _)), (fun _ h => absurd h (Nat.not_lt_zero _))⟩
theorem RunK.push {tb : List Rw} {ds : List Int} {k : Nat} {es : List Ent} (h : RunK tb ds k es) (hk : k ≤ 100) {m d : Nat} (h1 : lastM es < m) (h2 : m ≤ d) (h3 : d ≤ lastM es + 360) (h4 : (m : Int) = askF tb (doneL es)) (h5 : (d : Int) = (m : Int) + fn ds k) : RunK tb ds (k + 1) (es ++ [(askedS, k + 1, m), (doneS, k + 1, d)]) := by
  have hl := h.hist.len
  have ea : mAt (es ++ [((askedS, k + 1, m) : Ent), (doneS, k + 1, d)]) (2 * k) = m := by
    refine mAt_of (e := (askedS, k + 1, m)) ?_
    rw [List.getElem?_append_right (by omega), hl, Nat.sub_self]
    rfl
  have eb : mAt (es ++ [((askedS, k + 1, m) : Ent), (doneS, k + 1, d)]) (2 * k + 1) = d := by
    refine mAt_of (e := (doneS, k + 1, d)) ?_
    rw [List.getElem?_append_right (by omega), hl, show 2 * k + 1 - 2 * k = 1 by omega]
    rfl
  refine ⟨h.hist.push hk h1 h2 h3, fun j hj => ?_, fun j hj => ?_⟩
  · rw [List.take_append_of_le_length (by omega)]
    by_cases e : j = k
    · subst e
      rw [ea, ← hl, List.take_length]
      exact h4
    · rw [mAt_left (by omega)]
      exact h.ask j (by omega)
  · by_cases e : j = k
    · subst e
      rw [ea, eb]
      exact h5
    · rw [mAt_left (by omega), mAt_left (by omega)]
      exact h.del j (by omega)
section
variable {T : List (Addr × Str)} {P : Program} {w : World} {K : PySem.W.Frag} {mg : Str → Option Value} {base : Heap}
local macro_rules | `(tactic| walk_at "tr") => `(tactic| first
  | assumption
  | exact Ext.refl
  | ((with_reducible refine' Im.x (T := T) (H := ?trH) ?tra ?tre); (case tre => assumption); (case tra => walk_at "tr"))
  | ((with_reducible refine' Im.y (T := T) (H := ?trH) ?tra ?tre ?trt); (case tre => assumption); (case trt => walk_at "tr"); (case tra => walk_at "tr"))
  | ((with_reducible refine' ImAll.x (T := T) (H := ?trH) ?tra ?tre); (case tre => assumption); (case tra => walk_at "tr"))
  | ((with_reducible refine' ImAll.y (T := T) (H := ?trH) ?tra ?tre ?trt); (case tre => assumption); (case trt => walk_at "tr"); (case tra => walk_at "tr"))
  | ((with_reducible refine' Ls.x (T := T) (H := ?trH) ?tra ?tre); (case tre => assumption); (case tra => walk_at "tr"))
  | ((with_reducible refine' Ls.y (T := T) (H := ?trH) ?tra ?tre ?trn ?trt); (case tre => assumption); (case trt => walk_at "tr"); (case trn => walk_at "tr"); (case tra => walk_at "tr"))
  | ((with_reducible refine' SqP.x (T := T) (H := ?trH) ?tra ?tre); (case tre => assumption); (case tra => walk_at "tr"))
  | ((with_reducible refine' SqP.y (T := T) (H := ?trH) ?tra ?tre ?trt); (case tre => assumption); (case trt => walk_at "tr"); (case tra => walk_at "tr"))
  | ((with_reducible refine' StAt.x (T := T) (H := ?trH) ?tra ?tre); (case tre => assumption); (case tra => walk_at "tr"))
  | ((with_reducible refine' StAt.y (T := T) (H := ?trH) ?tra ?tre ?trt); (case tre => assumption); (case trt => walk_at "tr"); (case tra => walk_at "tr"))
  | ((with_reducible refine' Pools.ext0 (T := T) (H := ?trH) ?tra ?tre); (case tre => assumption); (case tra => walk_at "tr"))
  | ((with_reducible refine' Pools.ext (T := T) (H := ?trH) ?tra ?tre ?trt); (case tre => assumption); (case trt => walk_at "tr"); (case tra => walk_at "tr"))
  | ((with_reducible refine' CL.x (T := T) (H := ?trH) ?tra ?tre); (case tre => assumption); (case tra => walk_at "tr"))
  | ((with_reducible refine' CL.y (T := T) (H := ?trH) ?tra ?tre); (case tre => assumption); (case tra => walk_at "tr"))
  | ((with_reducible refine' Tape.ext (T := T) (H := ?trH) ?tra ?tre); (case tre => assumption); (case tra => walk_at "tr"))
  | ((with_reducible refine' lst.x (T := T) (H := ?trH) ?tra ?tre); (case tre => assumption); (case tra => walk_at "tr"))
  | ((with_reducible refine' lst.y (T := T) (H := ?trH) ?tra ?tre ?trn); (case tre => assumption); (case trn => walk_at "tr"); (case tra => walk_at "tr"))
  | ((with_reducible refine' tup.x (T := T) (H := ?trH) ?tra ?tre); (case tre => assumption); (case tra => walk_at "tr"))
  | ((with_reducible refine' tup.y (T := T) (H := ?trH) ?tra ?tre ?trt); (case tre => assumption); (case trt => walk_at "tr"); (case tra => walk_at "tr"))
  | ((with_reducible refine' frz.x (T := T) (H := ?trH) ?tra ?tre); (case tre => assumption); (case tra => walk_at "tr"))
  | ((with_reducible refine' frz.y (T := T) (H := ?trH) ?tra ?tre ?trt); (case tre => assumption); (case trt => walk_at "tr"); (case tra => walk_at "tr"))
  | ((with_reducible refine' Im.z (T := T) (H := ?trH) ?tra ?tre ?trt); (case tre => assumption); (case trt => assumption); (case tra => walk_at "tr"))
  | ((with_reducible refine' ImAll.z (T := T) (H := ?trH) ?tra ?tre ?trt); (case tre => assumption); (case trt => assumption); (case tra => walk_at "tr"))
  | ((with_reducible refine' StAt.z (T := T) (H := ?trH) ?tra ?tre ?trt); (case tre => assumption); (case trt => assumption); (case tra => walk_at "tr"))
  | ((with_reducible refine' SqP.z (T := T) (H := ?trH) ?tra ?tre ?trt); (case tre => assumption); (case trt => assumption); (case tra => walk_at "tr"))
  | ((with_reducible refine' tup.z (T := T) (H := ?trH) ?tra ?tre ?trt); (case tre => assumption); (case trt => assumption); (case tra => walk_at "tr"))
  | ((with_reducible refine' Ls.z (T := T) (H := ?trH) ?tra ?tre ?trt ?trn); (case tre => assumption); (case trt => assumption); (case trn => assumption); (case tra => walk_at "tr"))
  | ((with_reducible refine' lst.z (T := T) (H := ?trH) ?tra ?tre ?trn); (case tre => assumption); (case trn => assumption); (case tra => walk_at "tr"))
  | ((with_reducible refine' CL.z (T := T) (H := ?trH) ?tra ?tre ?trn); (case tre => assumption); (case trn => assumption); (case tra => walk_at "tr"))
  | ((with_reducible refine' Tape.ne1 (H := ?trH) ?trt ?trn); (case trn => assumption); (case trt => walk_at "tr"))
  | ((with_reducible refine' Ext.trans (H1 := ?trH) ?tra (Ext.any ?tre)); (case tre => assumption); (case tra => walk_at "tr"))
  | ((with_reducible refine' Ext.trans (H1 := ?trH) ?tra ?tre); (case tre => assumption); (case tra => walk_at "tr"))
  | ((with_reducible refine' Ext.back1 (T := T) (H1 := ?trH) ?tre ?trn ?tra); (case tra => assumption); (case trn => walk_at "tr"); (case tre => walk_at "tr"))
  | ((with_reducible refine' Ext.back0 (T := T) (H1 := ?trH) ?tre ?tra); (case tra => assumption); (case tre => walk_at "tr"))
  | ((with_reducible refine' SqT.of ?tra); (case tra => walk_at "tr"))
  | ((with_reducible refine' SqL.of ?tra); (case tra => walk_at "tr")))
local macro_rules | `(tactic| walk_at "al") => `(tactic| (refine ⟨by first | (show _ ≤ sizeLine; decide) | walk_at "sz", ?_⟩; intro alp aln; generalize alG : upd _ alp _ = alH; obtain ⟨aln2, alx, alh⟩ := al_of (T := T) aln alG; clear alG aln))
local macro_rules | `(tactic| walk_at "al0") => `(tactic| (intro alp aln; generalize alG : upd _ alp _ = alH; obtain ⟨aln2, alx, alh⟩ := al_of (T := T) aln alG; clear alG aln))

def spLRun (T : List (Addr × Str)) : Sp := fun vs H Q _ => ∃ (va : V) (pl : Addr) (tb : List Rw) (ds : List Int), vs = [va, .ref pl] ∧ Im H va (.tuple (tb.map rwD)) ∧ H pl = some (.lst (ds.map V.int)) ∧ TbLt tb ∧ TbW tb ∧ tb.length ≤ 100 ∧ ds.length ≤ 6 ∧ (∀ d ∈ ds, 0 ≤ d ∧ d ≤ 59) ∧
  ∀ pr es H', Nw H pr → Ext T [] H H' → Ls H' pr (es.map entD) → RunK tb ds ds.length es → Q (.ref pr) H'
theorem ok_law_run (D : Def K mg "_law_run" s_law_run ["table", "delays"]) (mb : ∀ x ∈ bltns, mg x = none) (G_law_first : Ok P w K mg base 1 "_law_first" ["table", "done"] (spFirst2 T)) : Ok P w K mg base 2 "_law_run" ["table", "delays"] (spLRun T) := by
  refine D.ok sc_law_run (fun vs H Q E h => ?_) (fun cdv f A outer s H vs Q E hr h => ?_)
  · obtain ⟨va, pl, tb, ds, rfl, _⟩ := h
    rfl
  · obtain ⟨va, pl, tb, ds, rfl, hva, hpl, htb, htw, htl, hdl6, hds, q⟩ := h
    refine ⟨_, (pss_cons (ps_set (i := 2) sc_law_run.nd rfl (.inl rfl) (pe_lst pa_nil))
   (pss_cons (ps_set (i := 3) sc_law_run.nd rfl (.inl rfl) (pe_lst pa_nil))
   (pss_cons (ps_for PassesOwn.never rfl (pi_seq K rfl (pv 1)) (pg_name (i := 4) sc_law_run.nd rfl (.inl rfl)) (pss_cons (ps_set (i := 5) sc_law_run.nd rfl (.inl rfl) (pe_callO G_law_first (hr.mono (by decide)) (by rfl) (pa_cons (pv 0) (pa_cons (pv 3) pa_nil))))
   (pss_cons (ps_expr (pe_bm PySem.F.plainAttrs_list PySem.F.slot_list_append PySem.F.type_list_append mt_append (pv 2) (pa_cons (pe_tup (pa_cons pe_str (pa_cons (pe_op (op_plus K rfl) (pe_callB (call_lenU K rfl) (by rfl) (mb _ (by decide)) (by decide +kernel) (pa_cons (pv 3) pa_nil)) pe_int) (pa_cons (pv 5) pa_nil)))) pa_nil)))
   (pss_cons (ps_expr (pe_bm PySem.F.plainAttrs_list PySem.F.slot_list_append PySem.F.type_list_append mt_append (pv 3) (pa_cons (pe_op (op_plus K rfl) (pv 5) (pv 4)) pa_nil)))
   (pss_one (ps_expr (pe_bm PySem.F.plainAttrs_list PySem.F.slot_list_append PySem.F.type_list_append mt_append (pv 2) (pa_cons (pe_tup (pa_cons pe_str (pa_cons (pe_callB (call_lenU K rfl) (by rfl) (mb _ (by decide)) (by decide +kernel) (pa_cons (pv 3) pa_nil)) (pa_cons (pe_op (op_plus K rfl) (pv 5) (pv 4)) pa_nil)))) pa_nil))))))))
   (pss_one (ps_ret (pv 2)))))), ?_⟩
    walk_at "rdn"
    refine rd_seq ?_
    walk_at "rdn"
    refine ⟨by walk_at "sz", fun pe npe => ?_⟩
    obtain ⟨npe, e1, hpe⟩ := alL (T := T) npe ([] : List V)
    generalize upd H pe _ = H1 at e1 hpe ⊢
    walk_at "rdn"
    refine rd_seq ?_
    walk_at "rdn"
    refine ⟨by walk_at "sz", fun pd npd => ?_⟩
    have hne : pe ≠ pd := fun z => by
      rw [z, npd] at hpe
      cases hpe
    obtain ⟨npd, e2, hpd⟩ := alL (T := T) npd ([] : List V)
    have hpe2 := lst.x hpe e2
    have npd := Ext.back0 e1 npd
    have x2 := e1.trans e2
    have hpl2 := lst.x hpl x2
    generalize upd H1 pd _ = H2 at e2 hpd hpe2 x2 hpl2 ⊢
    clear e1 e2 hpe
    walk_at "rdn"
    refine rd_seq ?_
    walk_at "rd"
    refine forg_list (xs := ds.map V.int) (fun i σ' H' => ∃ (es : List Ent) (x4 x5 : Option V), σ' = [some va, some (.ref pl), some (.ref pe), some (.ref pd), x4, x5] ∧ Ext T [] H H' ∧ Ls H' pe (es.map entD) ∧ H' pd = some (.lst ((doneL es).map V.int)) ∧ RunK tb ds i es)
      ⟨[], _, _, rfl, x2, ⟨[], hpe2, .nil⟩, hpd, .nil tb ds⟩ (fun i σ' H' _ h => ?_) (fun i x σ' H' hx h => ?_) (fun σ' H' h => ?_)
    · obtain ⟨es, x4, x5, rfl, eH, _⟩ := h
      exact SqL.of (lst.x hpl eH)
    · obtain ⟨es, x4, x5, rfl, eH, hpe, hpd, hR⟩ := h
      clear x2 hpe2 hpl2
      have hi : i < ds.length := by
        have := (List.getElem?_eq_some_iff.mp hx).1
        rw [List.length_map] at this
        exact this
      have hfd : fn ds i = ds[i] := by
        unfold fn
        rw [List.getD_eq_getElem?_getD, List.getElem?_eq_getElem hi]
        rfl
      obtain ⟨hd0, hd1⟩ := hds ds[i] (List.getElem_mem hi)
      rw [← hfd] at hd0 hd1
      have hxv : x = V.int (fn ds i) := by
        rw [List.getElem?_map, List.getElem?_eq_getElem hi] at hx
        rw [hfd]
        exact (Option.some.inj hx).symm
      subst hxv
      have hR5 := hR
      obtain ⟨hA1, hA2⟩ := hR.hist.ask htw
      have hdl := hR.hist.dl
      have hlen := hR.hist.len
      have hdl2 : ((doneL es).map V.int).length = i := by rw [List.length_map]; exact hdl
      refine rd_name ?_
      walk_at "rdn"
      refine rd_seq ?_
      walk_at "rdn"
      refine ⟨va, pd, tb, doneL es, rfl, hva.x eH, hpd, htb, htl, by omega, fun H3 e3 => ?_⟩
      have x3 := eH.trans e3
      have hpe := hpe.x e3
      have hpd := lst.x hpd e3
      clear eH e3
      generalize hAF : askF tb (doneL es) = AF at hA1 hA2 ⊢
      obtain ⟨m, hm⟩ := Int.eq_ofNat_of_zero_le (show 0 ≤ AF by omega)
      subst hm
      generalize hdd : fn ds i = dd at hd0 hd1 ⊢
      obtain ⟨d, hd⟩ := Int.eq_ofNat_of_zero_le hd0
      subst hd
      obtain ⟨xs, hxs, hxi⟩ := hpe
      have hxl : xs.length = 2 * i := by rw [hxi.len, List.length_map, hlen]
      have hxl2 : xs.length ≤ 100 := by omega
      have ek : (((doneL es).map V.int).length : Int) + 1 = ((i + 1 : Nat) : Int) := by omega
      walk_at "rdn"
      refine rd_seq ?_
      walk_at "rd"
      refine ⟨by walk_at "sz", fun tq ntq => ?_⟩
      rw [ek]
      obtain ⟨ntq, e6, htq⟩ := alT (T := T) ntq [V.str askedS, .int ((i + 1 : Nat) : Int), .int ((m : Nat) : Int)]
      have htq : (upd H3 tq (.tup [V.str (Str.ofString "asked"), .int ((i + 1 : Nat) : Int), .int ((m : Nat) : Int)])) tq = some (.tup [V.str askedS, .int ((i + 1 : Nat) : Int), .int ((m : Nat) : Int)]) := htq
      have e6 : Ext T [] H3 (upd H3 tq (.tup [V.str (Str.ofString "asked"), .int ((i + 1 : Nat) : Int), .int ((m : Nat) : Int)])) := e6
      have hxs := lst.x hxs e6
      have hxi := hxi.x e6
      have hpd := lst.x hpd e6
      have x6 := x3.trans e6
      generalize upd H3 tq _ = H6 at e6 htq hxs hxi hpd x6 ⊢
      clear x3 e6
      obtain ⟨g1, g2⟩ := Ls.app (T := T) hxs hxi (ent_new (e := (askedS, i + 1, m)) htq (show PyData.strOk askedS = true by decide +kernel))
      have x7 : Ext T [] H (upd H6 pe (.lst (xs ++ [V.ref tq]))) := x6.own npe hxs
      have hpd : (upd H6 pe (.lst (xs ++ [V.ref tq]))) pd = some (.lst ((doneL es).map V.int)) := by
        rw [upd_ne hne.symm]
        exact hpd
      refine rd_nil ?_
      refine rd_app hxs (by walk_at "szl") ?_
      generalize upd H6 pe _ = H7 at g1 x7 hpd ⊢
      clear x6 hxs hxi g2 htq
      have em : ((m : Nat) : Int) + ((d : Nat) : Int) = ((m + d : Nat) : Int) := by omega
      have hdl3 : ((doneL es).map V.int).length ≤ 100 := by omega
      walk_at "rdn"
      refine rd_seq ?_
      walk_at "rdn"
      rw [em]
      have eM : Ext T [pd] H7 (upd H7 pd (.lst ((doneL es).map V.int ++ [V.int ((m + d : Nat) : Int)]))) := Ext.mut (by simp) hpd
      have g1 := g1.ext eM (by simpa using hne) (lsts_one hpd)
      have x9 : Ext T [] H (upd H7 pd (.lst ((doneL es).map V.int ++ [V.int ((m + d : Nat) : Int)]))) := x7.own npd hpd
      have hpd : (upd H7 pd (.lst ((doneL es).map V.int ++ [V.int ((m + d : Nat) : Int)]))) pd = some (.lst ((doneL es).map V.int ++ [V.int ((m + d : Nat) : Int)])) := upd_same
      generalize upd H7 pd _ = H9 at g1 x9 hpd ⊢
      clear eM x7
      obtain ⟨xs2, hxs, hxi⟩ := g1
      have hxl3 : xs2.length ≤ 100 := by
        have := hxi.len
        rw [List.length_append, List.length_map, hlen] at this
        rw [this]
        show 2 * i + 1 ≤ 100
        omega
      have ek2 : (((doneL es).map V.int ++ [V.int ((m + d : Nat) : Int)]).length : Int) = ((i + 1 : Nat) : Int) := by
        rw [List.length_append, hdl2]
        rfl
      walk_at "rd"
      refine ⟨by walk_at "sz", fun tr ntr => ?_⟩
      rw [ek2, em]
      obtain ⟨ntr, eB, htr⟩ := alT (T := T) ntr [V.str doneS, .int ((i + 1 : Nat) : Int), .int ((m + d : Nat) : Int)]
      have htr : (upd H9 tr (.tup [V.str (Str.ofString "done"), .int ((i + 1 : Nat) : Int), .int ((m + d : Nat) : Int)])) tr = some (.tup [V.str doneS, .int ((i + 1 : Nat) : Int), .int ((m + d : Nat) : Int)]) := htr
      have eB : Ext T [] H9 (upd H9 tr (.tup [V.str (Str.ofString "done"), .int ((i + 1 : Nat) : Int), .int ((m + d : Nat) : Int)])) := eB
      have hxs := lst.x hxs eB
      have hxi := hxi.x eB
      have hpd := lst.x hpd eB
      have xB := x9.trans eB
      generalize upd H9 tr _ = HB at eB htr hxs hxi hpd xB ⊢
      have hxi : ImAll HB xs2 ((es ++ [((askedS, i + 1, m) : Ent)]).map entD) := by
        rw [List.map_append]
        exact hxi
      obtain ⟨g1, g2⟩ := Ls.app (T := T) hxs hxi (ent_new (e := (doneS, i + 1, m + d)) htr (show PyData.strOk doneS = true by decide +kernel))
      have hpd : (upd HB pe (.lst (xs2 ++ [V.ref tr]))) pd = some (.lst ((doneL es).map V.int ++ [V.int ((m + d : Nat) : Int)])) := by
        rw [upd_ne hne.symm]
        exact hpd
      refine rd_nil ?_
      refine rd_app hxs (by walk_at "szl") ?_
      have hR2 := hR.push (m := m) (d := m + d) (by omega) (by omega) (by omega) (by omega) hAF.symm (by rw [hdd]; omega)
      have ees : (es ++ [((askedS, i + 1, m) : Ent)]) ++ [(doneS, i + 1, m + d)] = es ++ [(askedS, i + 1, m), (doneS, i + 1, m + d)] := by simp
      refine ⟨es ++ [(askedS, i + 1, m), (doneS, i + 1, m + d)], _, _, rfl, xB.own npe hxs, ?_, ?_, hR2⟩
      · rw [← ees, List.map_append]
        exact g1
      · rw [doneL_app, doneL_two, List.map_append]
        exact hpd
    · obtain ⟨es, x4, x5, rfl, eH, hpe, hpd, hR⟩ := h
      rw [List.length_map] at hR
      walk_at "rd"
      exact q pe es _ npe eH hpe hR
end

open PySem PySem.Spec PyProof.Rows L2
open PySem.W (EachIs)
theorem Alt.take {es : List Ent} (h : Alt es) (m : Nat) : Alt (es.take m) := fun i e he => by
  rw [List.getElem?_take] at he
  split at he
  · exact h i e he
  · cases he
theorem done_take {es : List Ent} (h : Alt es) {m : Nat} (hm : m ≤ es.length) : doneL (es.take m) = (doneL es).take (m / 2) := by
  have e1 : doneL es = doneL (es.take m) ++ doneL (es.drop m) := by rw [← doneL_app, List.take_append_drop]
  rw [e1, List.take_left' (alt_done h m hm)]
theorem good_take_le {es : List Ent} (h : Good es) : ∀ n, n ≤ es.length → ∀ i e, i < n → es[i]? = some e → e.2.2 ≤ lastM (es.take n)
  | 0, _, i, e, hi, _ => absurd hi (Nat.not_lt_zero i)
  | n + 1, hn, i, e, hi, he => by
    have hj : es[n]? = some es[n] := List.getElem?_eq_getElem (by omega)
    rw [lastM_take hj]
    by_cases hin : i = n
    · subst hin
      rw [hj] at he
      cases Option.some.inj he
      exact Nat.le_refl _
    · have h1 := good_take_le h n (by omega) i e (by omega) he
      have h2 : lastM (es.take n) ≤ (es[n]).2.2 := by
        have g := (h n _ hj).2
        by_cases hp : (es.take n).length % 2 = 0
        · rw [entV_even hp] at g
          omega
        · rw [entV_odd hp] at g
          omega
      omega
theorem Good.le {es : List Ent} (h : Good es) : ∀ e ∈ es, e.2.2 ≤ lastM es := fun e he => by
  obtain ⟨i, hi⟩ := List.getElem?_of_mem he
  have := good_take_le h es.length (Nat.le_refl _) i e (List.getElem?_eq_some_iff.mp hi).1 hi
  rw [List.take_length] at this
  exact this
theorem Good.dn {es : List Ent} (h : Good es) : ∀ d ∈ doneL es, d ≤ (lastM es : Int) := fun d hd => by
  unfold doneL at hd
  obtain ⟨e, he, rfl⟩ := List.mem_map.mp hd
  have := h.le e (List.mem_filter.mp he).1
  omega
theorem rd_text {es : List Ent} (h : Good es) {t : Str} (ht : 10 ∉ sg t) : rdL (linesL (sg (S (nls (es.map lineL)) ++ t))) [] 1 = .ok es := by
  rw [sg_app, sg_S, lines_nls h.free ht]
  exact rdL_one h
theorem nls_len : ∀ {ls : List (List Nat)}, (∀ l ∈ ls, l.length ≤ 17) → (nls ls).length ≤ 18 * ls.length
  | [], _ => by unfold nls; simp
  | l :: r, h => by
    rw [nls_cons, List.length_append, List.length_cons, List.length_cons]
    have h1 := h l List.mem_cons_self
    have h2 := nls_len (ls := r) fun x hx => h x (List.mem_cons_of_mem _ hx)
    omega
theorem sum_lines {es : List Ent} (h : ∀ e ∈ es, EntOk e) : (S (nls (es.map lineL))).length ≤ 18 * es.length := by
  rw [← sg_len, sg_S]
  have := nls_len (ls := es.map lineL) (fun x hx => by
    obtain ⟨e, he, rfl⟩ := List.mem_map.mp hx
    exact line_len (h e he))
  rw [List.length_map] at this
  exact this
theorem filter_take {μ : Nat} : ∀ {es : List Ent}, (∀ (i j : Nat) (a b : Ent), i ≤ j → es[i]? = some a → es[j]? = some b → a.2.2 ≤ b.2.2) → es.filter (fun e => decide (e.2.2 < μ)) = es.take (es.filter fun e => decide (e.2.2 < μ)).length ∧ ∀ i e, es[i]? = some e → e.2.2 < μ → i < (es.filter fun e => decide (e.2.2 < μ)).length
  | [], _ => ⟨rfl, fun _ _ h => nomatch h⟩
  | e :: r, h => by
    have ih := filter_take (μ := μ) (es := r) fun i j a b hij ha hb => h (i + 1) (j + 1) a b (by omega) (by rw [List.getElem?_cons_succ]; exact ha) (by rw [List.getElem?_cons_succ]; exact hb)
    by_cases c : e.2.2 < μ
    · rw [List.filter_cons, if_pos (decide_eq_true c), List.length_cons, List.take_succ_cons, ← ih.1]
      refine ⟨rfl, fun i x hx hm => ?_⟩
      cases i with
      | zero => exact Nat.succ_pos _
      | succ i =>
        rw [List.getElem?_cons_succ] at hx
        have := ih.2 i x hx hm
        omega
    · have hall : ∀ (i : Nat) (x : Ent), (e :: r)[i]? = some x → ¬ x.2.2 < μ := fun i x hx => by
        have := h 0 i e x (Nat.zero_le _) rfl hx
        omega
      have hr : (e :: r).filter (fun e => decide (e.2.2 < μ)) = [] := List.filter_eq_nil_iff.mpr fun x hx => by
        obtain ⟨i, hi⟩ := List.getElem?_of_mem hx
        rw [decide_eq_false (hall i x hi)]
        decide
      rw [hr]
      exact ⟨rfl, fun i x hx hm => absurd hm (hall i x hx)⟩
theorem Good.mono {es : List Ent} (h : Good es) : ∀ (i j : Nat) (a b : Ent), i ≤ j → es[i]? = some a → es[j]? = some b → a.2.2 ≤ b.2.2 := fun i j a b hij ha hb => by
  have hj := (List.getElem?_eq_some_iff.mp hb).1
  have := good_take_le h (j + 1) (by omega) i a (by omega) ha
  rw [lastM_take hb] at this
  exact this
/-- what the third word of a line says -/
def third (μ : Nat) : V → Bool
  | .str z => decide (NumText.digitsVal ((wordsL (sg z)).getD 2 []) < μ)
  | _ => false
theorem words_line {e : Ent} (h : EntOk e) : wordsL (lineL e) = [sg e.1, TL.numL e.2.1, TL.numL e.2.2] := by
  unfold lineL
  rw [words_join (by unfold lineP; simp) (line_free h)]
  rfl
theorem third_line {e : Ent} (h : EntOk e) (μ : Nat) : third μ (.str (S (lineL e))) = decide (e.2.2 < μ) := by
  show decide (NumText.digitsVal ((wordsL (sg (S (lineL e)))).getD 2 []) < μ) = _
  rw [sg_S, words_line h]
  show decide (NumText.digitsVal (TL.numL e.2.2) < μ) = _
  rw [TL.numL_val]
theorem each_eq {xs ys : List V} (h : EachIs (fun y x : V => y = x) ys xs) : ys = xs := by
  induction h with
  | nil => rfl
  | cons a _ ih => rw [a, ih]
theorem third_filter {μ : Nat} : ∀ {es : List Ent}, (∀ e ∈ es, EntOk e) → (strL (es.map lineL)).filter (third μ) = strL ((es.filter fun e => decide (e.2.2 < μ)).map lineL)
  | [], _ => rfl
  | e :: r, h => by
    have ih := third_filter (μ := μ) (es := r) fun x hx => h x (List.mem_cons_of_mem _ hx)
    have e1 : strL ((e :: r).map lineL) = .str (S (lineL e)) :: strL (r.map lineL) := rfl
    rw [e1, List.filter_cons, List.filter_cons, third_line (h e List.mem_cons_self), ih]
    by_cases c : e.2.2 < μ
    · rw [if_pos (decide_eq_true c), if_pos (decide_eq_true c)]
      rfl
    · rw [if_neg (by rw [decide_eq_false c]; decide), if_neg (by rw [decide_eq_false c]; decide)]
section
variable {T : List (Addr × Str)} {P : Program} {w : World} {K : PySem.W.Frag} {mg : Str → Option Value} {base : Heap}
local macro_rules | `(tactic| walk_at "tr") => `(tactic| first
  | assumption
  | exact Ext.refl
  | ((with_reducible refine' Im.x (T := T) (H := ?trH) ?tra ?tre); (case tre => assumption); (case tra => walk_at "tr"))
  | ((with_reducible refine' Im.y (T := T) (H := ?trH) ?tra ?tre ?trt); (case tre => assumption); (case trt => walk_at "tr"); (case tra => walk_at "tr"))
  | ((with_reducible refine' ImAll.x (T := T) (H := ?trH) ?tra ?tre); (case tre => assumption); (case tra => walk_at "tr"))
  | ((with_reducible refine' ImAll.y (T := T) (H := ?trH) ?tra ?tre ?trt); (case tre => assumption); (case trt => walk_at "tr"); (case tra => walk_at "tr"))
  | ((with_reducible refine' Ls.x (T := T) (H := ?trH) ?tra ?tre); (case tre => assumption); (case tra => walk_at "tr"))
  | ((with_reducible refine' Ls.y (T := T) (H := ?trH) ?tra ?tre ?trn ?trt); (case tre => assumption); (case trt => walk_at "tr"); (case trn => walk_at "tr"); (case tra => walk_at "tr"))
  | ((with_reducible refine' SqP.x (T := T) (H := ?trH) ?tra ?tre); (case tre => assumption); (case tra => walk_at "tr"))
  | ((with_reducible refine' SqP.y (T := T) (H := ?trH) ?tra ?tre ?trt); (case tre => assumption); (case trt => walk_at "tr"); (case tra => walk_at "tr"))
  | ((with_reducible refine' StAt.x (T := T) (H := ?trH) ?tra ?tre); (case tre => assumption); (case tra => walk_at "tr"))
  | ((with_reducible refine' StAt.y (T := T) (H := ?trH) ?tra ?tre ?trt); (case tre => assumption); (case trt => walk_at "tr"); (case tra => walk_at "tr"))
  | ((with_reducible refine' Pools.ext0 (T := T) (H := ?trH) ?tra ?tre); (case tre => assumption); (case tra => walk_at "tr"))
  | ((with_reducible refine' Pools.ext (T := T) (H := ?trH) ?tra ?tre ?trt); (case tre => assumption); (case trt => walk_at "tr"); (case tra => walk_at "tr"))
  | ((with_reducible refine' CL.x (T := T) (H := ?trH) ?tra ?tre); (case tre => assumption); (case tra => walk_at "tr"))
  | ((with_reducible refine' CL.y (T := T) (H := ?trH) ?tra ?tre); (case tre => assumption); (case tra => walk_at "tr"))
  | ((with_reducible refine' Tape.ext (T := T) (H := ?trH) ?tra ?tre); (case tre => assumption); (case tra => walk_at "tr"))
  | ((with_reducible refine' lst.x (T := T) (H := ?trH) ?tra ?tre); (case tre => assumption); (case tra => walk_at "tr"))
  | ((with_reducible refine' lst.y (T := T) (H := ?trH) ?tra ?tre ?trn); (case tre => assumption); (case trn => walk_at "tr"); (case tra => walk_at "tr"))
  | ((with_reducible refine' tup.x (T := T) (H := ?trH) ?tra ?tre); (case tre => assumption); (case tra => walk_at "tr"))
  | ((with_reducible refine' tup.y (T := T) (H := ?trH) ?tra ?tre ?trt); (case tre => assumption); (case trt => walk_at "tr"); (case tra => walk_at "tr"))
  | ((with_reducible refine' frz.x (T := T) (H := ?trH) ?tra ?tre); (case tre => assumption); (case tra => walk_at "tr"))
  | ((with_reducible refine' frz.y (T := T) (H := ?trH) ?tra ?tre ?trt); (case tre => assumption); (case trt => walk_at "tr"); (case tra => walk_at "tr"))
  | ((with_reducible refine' Im.z (T := T) (H := ?trH) ?tra ?tre ?trt); (case tre => assumption); (case trt => assumption); (case tra => walk_at "tr"))
  | ((with_reducible refine' ImAll.z (T := T) (H := ?trH) ?tra ?tre ?trt); (case tre => assumption); (case trt => assumption); (case tra => walk_at "tr"))
  | ((with_reducible refine' StAt.z (T := T) (H := ?trH) ?tra ?tre ?trt); (case tre => assumption); (case trt => assumption); (case tra => walk_at "tr"))
  | ((with_reducible refine' SqP.z (T := T) (H := ?trH) ?tra ?tre ?trt); (case tre => assumption); (case trt => assumption); (case tra => walk_at "tr"))
  | ((with_reducible refine' tup.z (T := T) (H := ?trH) ?tra ?tre ?trt); (case tre => assumption); (case trt => assumption); (case tra => walk_at "tr"))
  | ((with_reducible refine' Ls.z (T := T) (H := ?trH) ?tra ?tre ?trt ?trn); (case tre => assumption); (case trt => assumption); (case trn => assumption); (case tra => walk_at "tr"))
  | ((with_reducible refine' lst.z (T := T) (H := ?trH) ?tra ?tre ?trn); (case tre => assumption); (case trn => assumption); (case tra => walk_at "tr"))
  | ((with_reducible refine' CL.z (T := T) (H := ?trH) ?tra ?tre ?trn); (case tre => assumption); (case trn => assumption); (case tra => walk_at "tr"))
  | ((with_reducible refine' Tape.ne1 (H := ?trH) ?trt ?trn); (case trn => assumption); (case trt => walk_at "tr"))
  | ((with_reducible refine' Ext.trans (H1 := ?trH) ?tra (Ext.any ?tre)); (case tre => assumption); (case tra => walk_at "tr"))
  | ((with_reducible refine' Ext.trans (H1 := ?trH) ?tra ?tre); (case tre => assumption); (case tra => walk_at "tr"))
  | ((with_reducible refine' Ext.back1 (T := T) (H1 := ?trH) ?tre ?trn ?tra); (case tra => assumption); (case trn => walk_at "tr"); (case tre => walk_at "tr"))
  | ((with_reducible refine' Ext.back0 (T := T) (H1 := ?trH) ?tre ?tra); (case tra => assumption); (case tre => walk_at "tr"))
  | ((with_reducible refine' SqT.of ?tra); (case tra => walk_at "tr"))
  | ((with_reducible refine' SqL.of ?tra); (case tra => walk_at "tr")))
local macro_rules | `(tactic| walk_at "al") => `(tactic| (refine ⟨by first | (show _ ≤ sizeLine; decide) | walk_at "sz", ?_⟩; intro alp aln; generalize alG : upd _ alp _ = alH; obtain ⟨aln2, alx, alh⟩ := al_of (T := T) aln alG; clear alG aln))
local macro_rules | `(tactic| walk_at "al0") => `(tactic| (intro alp aln; generalize alG : upd _ alp _ = alH; obtain ⟨aln2, alx, alh⟩ := al_of (T := T) aln alG; clear alG aln))

theorem each_S {H : Hp} : ∀ {ys : List V} {ls : List (List Nat)} {f : List Nat → List Nat}, EachIs (fun y x => ∃ l, x = V.str (S l) ∧ y = V.str (S (f l))) ys (strL ls) → ys = strL (ls.map f)
  | _, [], _, h => by
    cases h
    rfl
  | _, l :: r, f, h => by
    cases h with
    | cons a b =>
      obtain ⟨l', e1, e2⟩ := a
      have e1 : V.str (S l) = V.str (S l') := e1
      have e3 : l = l' := by
        have := V.str.inj e1
        exact congrArg sg this
      rw [each_S (H := H) b, e2, e3]
      rfl
theorem lc_nl {σ : L2.St} {H : Hp} {Q : VK} {a : Addr} {ls : List (List Nat)} (hσ : ∀ v : V, wipe ((wipe σ [6]).set 6 (some v)) [6] = wipe σ [6]) (hg : ∀ v : V, ((wipe σ [6]).set 6 (some v))[6]? = some (some v)) (ha : H a = some (.lst (strL ls))) (h1 : ∀ l ∈ ls, l.length ≤ 17) (h2 : ls.length ≤ 1000)
    (q : ∀ D H2, Nw H D → Ext T [] H H2 → H2 D = some (.lst (strL (ls.map (· ++ [10])))) → Q (.ref D) H2) :
    LcG (Itl K a) (gName 6) tYes (tOp (rPlus K) (tVar 6) (tC (V.str (Str.ofString "\n")))) [6] σ H Q := by
  refine lcg_rel T [] walk_list (strL ls) rfl (fun i H x H' y => y) (by simp) (fun H' e => SqL.of (lst.x ha e)) (Nat.lt_of_le_of_lt (show (strL ls).length ≤ 1000 by unfold strL; rw [List.length_map, List.length_map]; exact h2) (by decide)) (fun _ => true) (fun y x => ∃ l, x = V.str (S l) ∧ y = V.str (S (l ++ [10]))) (fun i x hx H' e' R S' h1' _ => ?_) (fun D H2 ys nD e2 hD hys => ?_)
  · unfold strL at hx
    rw [List.getElem?_map, List.getElem?_map] at hx
    obtain ⟨s', h3, rfl⟩ := Option.map_eq_some_iff.mp hx
    obtain ⟨l, hl, rfl⟩ := Option.map_eq_some_iff.mp h3
    have hll := h1 l (List.mem_of_getElem? hl)
    refine rd_name ⟨hσ _, rd_tyes ?_⟩
    rw [if_pos rfl]
    refine rd_op (rd_var (hg _) (rd_c (rd_plusS ?_ ?_)))
    · rw [← sg_len, nl_len]
      show l.length + 1 ≤ sizeLine
      exact Nat.le_trans (show l.length + 1 ≤ 100 by omega) (by decide)
    · have e : S l ++ Str.ofString "\n" = S (l ++ [10]) := sg_inj (by rw [sg_app, sg_nl])
      rw [e]
      exact h1' rfl _ _ .refl ⟨l, rfl, rfl⟩
  · rw [filtT] at hys
    rw [each_S (H := H) hys] at hD
    exact q D H2 nD e2 hD
def spDrop (T : List (Addr × Str)) : Sp := fun vs H Q _ => ∃ (l t : Addr) (es : List Ent) (μ : Nat), vs = [.ref t, .str (S (nls (es.map lineL))), .int (μ : Int)] ∧ Tape l H t ∧ Good es ∧ es.length ≤ 12 ∧
  ∀ z tl c H', sg z = nls ((es.take c).map lineL) ++ tl → 10 ∉ tl → c ≤ es.length → (∀ i e, es[i]? = some e → e.2.2 < μ → i < c) → z.length ≤ 1000 → Ext T [t] H H' → Tape l H' t → Q (.str z) H'
theorem ok_law_drop (D : Def K mg "_law_drop" s_law_drop ["tape", "text", "moment"]) (mb : ∀ x ∈ bltns, mg x = none) (G_law_take : Ok P w K mg base 2 "_law_take" ["tape", "many"] (spTake T)) : Ok P w K mg base 3 "_law_drop" ["tape", "text", "moment"] (spDrop T) := by
  refine D.ok sc_law_drop (fun vs H Q E h => ?_) (fun cdv f A outer s H vs Q E hr h => ?_)
  · obtain ⟨l, t, es, μ, rfl, _⟩ := h
    rfl
  · obtain ⟨l, t, es, μ, rfl, hT, hG, hel, q⟩ := h
    refine ⟨_, (pss_cons (ps_set (i := 3) sc_law_drop.nd rfl (.inl rfl) (pe_slice (sl_U K rfl) (pe_m1 PySem.F.slot_str_split PySem.F.type_str_split mt_splitU (pv 1) pe_str) po_none (po_some (pe_un un_neg pe_int))))
   (pss_cons (ps_setLc (i := 4) (own := [("line", 6)]) (g := gName 6) rfl sc_law_drop.nd rfl rfl (sw_true rfl rfl rfl (by decide +kernel)) (pi_seq K rfl (pv 3)) (blkOk_by (N := N_law_drop) (sc := defScope s_law_drop) (by decide +kernel)) (fun _ _ _ _ _ => (pg_name (i := 6) sc_law_drop.nd rfl (Or.inl rfl))) (fun _ _ _ _ _ => (pts_one (pt_cmpR op_lt (pe_callTy call_int_str (by rfl) (mb _ (by decide)) (by decide +kernel) (pa_cons (pe_ix (ix_U K rfl) (pe_m1 PySem.F.slot_str_split PySem.F.type_str_split mt_splitU (pv 6) pe_str) pe_int (fun _ _ => rfl)) pa_nil)) (pv 2) (nomark _)))) (fun _ _ _ _ _ => (pv 6)))
   (pss_cons (ps_if (PW.pt (pw_or (pt_cmpR (op_eqU K rfl hr.units) (pe_callB (call_lenU K rfl) (by rfl) (mb _ (by decide)) (by decide +kernel) (pa_cons (pv 4) pa_nil)) (pe_callB (call_lenU K rfl) (by rfl) (mb _ (by decide)) (by decide +kernel) (pa_cons (pv 3) pa_nil)) (nomark _)) (pw_or1 (pt_cmpR (op_eqU K rfl hr.units) (pe_callO G_law_take (hr.mono (by decide)) (by rfl) (pa_cons (pv 0) (pa_cons pe_int pa_nil))) pe_int (nomark _))))) (pss_one (ps_ret (pv 1))) pss_nil)
   (pss_cons (ps_set (i := 5) sc_law_drop.nd rfl (.inl rfl) (pe_callB (call_lenU K rfl) (by rfl) (mb _ (by decide)) (by decide +kernel) (pa_cons (pe_m1 PySem.F.slot_str_join PySem.F.type_str_join (mt_joinU K rfl) pe_str (pe_lc (own := [("line", 6)]) (g := gName 6) (tt := tYes) rfl sc_law_drop.nd (pi_seq K rfl (pv 4)) (blkOk_by (N := N_law_drop) (sc := defScope s_law_drop) (by decide +kernel)) (fun _ _ _ _ _ => (pg_name (i := 6) sc_law_drop.nd rfl (Or.inl rfl))) (fun _ _ _ _ _ => pts_nil) (fun _ _ _ _ _ => (pe_op (op_plus K rfl) (pv 6) pe_str)))) pa_nil)))
   (pss_one (ps_ret (pe_slice (sl_U K rfl) (pv 1) po_none (po_some (pe_op (op_plus K rfl) (pv 5) (pe_callO G_law_take (hr.mono (by decide)) (by rfl) (pa_cons (pv 0) (pa_cons (pe_op (op_plus K rfl) (pe_op op_sub (pe_callB (call_lenU K rfl) (by rfl) (mb _ (by decide)) (by decide +kernel) (pa_cons (pv 1) pa_nil)) (pv 5)) pe_int) pa_nil)))))))))))), ?_⟩
    have hok : ∀ e ∈ es, EntOk e := fun e he => by
      obtain ⟨i, hi⟩ := List.getElem?_of_mem he
      exact (hG i e hi).1
    have hzl := sum_lines hok
    have hlin : linesL (sg (S (nls (es.map lineL)))) = es.map lineL := by
      rw [sg_S]
      have h := lines_nls (t := []) hG.free (by simp)
      rw [List.append_nil] at h
      exact h
    have hsgz : sg (S (nls (es.map lineL))) = nls (es.map lineL) := rfl
    generalize hz : S (nls (es.map lineL)) = z at hzl hlin hsgz ⊢
    have hzl2 : z.length ≤ 216 := by omega
    walk_at "rdn"
    refine rd_seq ?_
    walk_at "rd"
    refine rd_split (b := Str.ofString "\n") (by decide +kernel) (Nat.le_trans (show z.length + 2 ≤ 1002 by omega) (by decide)) fun ps nps => ?_
    rw [split_nl]
    obtain ⟨nps, e2, hps⟩ := alL (T := T) nps (((TL.spl [10] 0 [] (sg z)).map S).map V.str)
    have T2 := hT.ext e2
    generalize upd H ps _ = H2 at e2 hps T2 ⊢
    walk_at "rd"
    refine rd_slL (SqL.of hps) fun pl npl => ?_
    obtain ⟨npl, e3, hpl⟩ := alL (T := T) npl (cutV (((TL.spl [10] 0 [] (sg z)).map S).map V.str) none (some (-1)))
    have T3 := T2.ext e3
    generalize upd H2 pl _ = H3 at e3 hpl T3 ⊢
    rw [cutV_neg, ← List.map_dropLast, ← List.map_dropLast] at hpl
    have hpl : H3 pl = some (.lst (((linesL (sg z)).map S).map V.str)) := hpl
    rw [hlin] at hpl
    have hpl : H3 pl = some (.lst (strL (es.map lineL))) := hpl
    have x3 : Ext T [t] H H3 := (e2.trans e3).any
    clear e2 e3 T2 hps
    walk_at "rdn"
    refine rd_seq ?_
    walk_at "rdn"
    refine lcg_rel T [] walk_list (strL (es.map lineL)) rfl (fun i H x H' y => y) (by simp) (fun H' e => SqL.of (lst.x hpl e)) (Nat.lt_of_le_of_lt (show (strL (es.map lineL)).length ≤ 12 by unfold strL; rw [List.length_map, List.length_map, List.length_map]; exact hel) (by decide)) (third μ) (fun y x => y = x) (fun i x hx H' e' R S' h1 h2 => ?_) (fun pk H4 ys npk e4 hpk hys => ?_)
    · unfold strL at hx
      rw [List.getElem?_map, List.getElem?_map, List.getElem?_map] at hx
      obtain ⟨s', h3, rfl⟩ := Option.map_eq_some_iff.mp hx
      obtain ⟨l', h4, rfl⟩ := Option.map_eq_some_iff.mp h3
      obtain ⟨e, he, rfl⟩ := Option.map_eq_some_iff.mp h4
      have heo := hok e (List.mem_of_getElem? he)
      have hll := line_len heo
      have ht := third_line heo μ
      refine rd_name ⟨rfl, ?_⟩
      walk_at "rd"
      refine rd_split (b := Str.ofString " ") (by decide +kernel) (Nat.le_trans (show (S (lineL e)).length + 2 ≤ 1002 by rw [← sg_len]; show (lineL e).length + 2 ≤ 1002; omega) (by decide)) fun pw npw => ?_
      rw [split_sp, words_line heo]
      obtain ⟨npw, e6, hpw⟩ := alL (T := T) npw (([sg e.1, TL.numL e.2.1, TL.numL e.2.2].map S).map V.str)
      generalize upd H' pw _ = H6 at e6 hpw ⊢
      walk_at "rd"
      refine rd_intS (num_ok heo.2.2) ?_
      rw [TL.numL_val]
      walk_at "rd"
      refine rd_ite (fun c => ?_) (fun c => ?_)
      · have c2 : e.2.2 < μ := by omega
        walk_at "rd"
        exact h1 (by rw [ht]; exact decide_eq_true c2) _ _ e6 rfl
      · have c2 : ¬ e.2.2 < μ := by omega
        exact h2 (by rw [ht]; exact decide_eq_false c2) _ e6
    · have hys := each_eq hys
      rw [third_filter hok] at hys
      subst hys
      obtain ⟨hf1, hf2⟩ := filter_take (μ := μ) hG.mono
      generalize hlo : (es.filter fun e => decide (e.2.2 < μ)).length = lo at hf1 hf2
      have hlol : lo ≤ es.length := by
        rw [← hlo]
        exact List.length_filter_le _ _
      rw [hf1] at hpk
      have hpl := lst.x hpl e4
      have T4 := T3.ext e4
      have x4 : Ext T [t] H H4 := x3.trans e4.any
      obtain ⟨pkt, pkl⟩ := T3.ne npk
      clear e4 T3 x3 npk hf1
      have full : ∀ H', Ext T [t] H H' → Tape l H' t → Q (.str z) H' := fun H' e T' => q z [] es.length H' (by rw [List.take_length, List.append_nil]; exact hsgz) (by simp) (Nat.le_refl _) (fun i e he _ => (List.getElem?_eq_some_iff.mp he).1) (by omega) e T'
      have hl1 : ((strL ((es.take lo).map lineL)).length : Int) = (lo : Int) := by
        unfold strL
        rw [List.length_map, List.length_map, List.length_map, List.length_take]
        omega
      have hl2 : ((strL (es.map lineL)).length : Int) = (es.length : Int) := by
        unfold strL
        rw [List.length_map, List.length_map, List.length_map]
      walk_at "rdn"
      refine rd_cut (fun σ' H' => (∃ x5 x6, σ' = [some (.ref t), some (.str z), some (.int (μ : Int)), some (.ref pl), some (.ref pk), x5, x6]) ∧ Ext T [t] H H' ∧ Tape l H' t ∧ H' pk = some (.lst (strL ((es.take lo).map lineL)))) (fun nx' hnx => ?_) (fun σ' H5 h => ?_)
      · walk_at "rd"
        rw [hl1, hl2]
        refine rd_ite (fun c => ?_) (fun c => ?_)
        · walk_at "rd"
          exact full _ x4 T4
        · walk_at "rd"
          refine ⟨l, t, 2, rfl, by decide, by decide, T4, fun d H6 d0 d1 e6 T6 => ?_⟩
          have hpk := lst.y hpk e6 pkt
          walk_at "rd"
          refine rd_ite (fun c2 => ?_) (fun c2 => ?_)
          · walk_at "rd"
            exact full _ (x4.trans e6) T6
          · walk_at "rd"
            exact hnx _ _ ⟨⟨_, _, rfl⟩, x4.trans e6, T6, hpk⟩
      · obtain ⟨⟨y5, y6, rfl⟩, x5, T5, hpk⟩ := h
        clear full x4 T4 hpl hl1 hl2 hlin
        have hok2 : ∀ e ∈ es.take lo, EntOk e := fun e he => hok e (List.mem_of_mem_take he)
        have hls17 : ∀ x ∈ (es.take lo).map lineL, x.length ≤ 17 := fun x hx => by
          obtain ⟨e, he, rfl⟩ := List.mem_map.mp hx
          exact line_len (hok2 e he)
        have hlsl : ((es.take lo).map lineL).length ≤ 12 := by
          rw [List.length_map, List.length_take]
          omega
        have hsplit : es.map lineL = (es.take lo).map lineL ++ (es.drop lo).map lineL := by rw [← List.map_append, List.take_append_drop]
        have hfree := hG.free
        have hA : (S (nls ((es.take lo).map lineL))).length = (nls ((es.take lo).map lineL)).length := by rw [← sg_len, sg_S]
        have hzN : z.length = (nls ((es.take lo).map lineL)).length + (nls ((es.drop lo).map lineL)).length := by
          rw [← sg_len, hsgz, hsplit, nls_app, List.length_append]
        walk_at "rdn"
        refine rd_seq ?_
        walk_at "rd"
        refine lc_nl (T := T) (fun _ => rfl) (fun _ => rfl) hpk hls17 (by omega) fun p1 H6 np1 e6 hp1 => ?_
        have T6 := T5.ext e6
        have x6 : Ext T [t] H H6 := x5.trans e6.any
        clear e6 np1 x5 T5
        walk_at "rd"
        refine rd_join_nls hp1 hls17 (by omega) ?_
        walk_at "rd"
        rw [hA]
        refine ⟨l, t, _, rfl, by omega, by omega, T6, fun d H7 d0 d1 e7 T7 => ?_⟩
        obtain ⟨d, rfl⟩ := Int.eq_ofNat_of_zero_le d0
        walk_at "rd"
        have hcut : cutS (S (nls (es.map lineL))) none (some (((nls ((es.take lo).map lineL)).length : Int) + (d : Int))) = S ((nls (es.map lineL)).take (((nls ((es.take lo).map lineL)).length : Int) + (d : Int)).toNat) := (C8.cutS_slice _ _ _).trans (SX.slice_to (by omega))
        have etn : (((nls ((es.take lo).map lineL)).length : Int) + (d : Int)).toNat = (nls ((es.take lo).map lineL)).length + d := by omega
        rw [etn, hz] at hcut
        rw [hcut]
        obtain ⟨w2, tl, hw2, htl, htk⟩ := take_nls ((es.drop lo).map lineL) d (fun x hx => hfree x (by rw [hsplit]; exact List.mem_append_right _ hx))
        have e1 : (nls (es.map lineL)).take ((nls ((es.take lo).map lineL)).length + d) = nls ((es.take (lo + w2)).map lineL) ++ tl := by
          rw [hsplit, nls_app, List.take_append, List.take_of_length_le (by omega), Nat.add_sub_cancel_left, htk, ← List.append_assoc, ← nls_app, ← List.map_take, ← List.map_append, ← List.take_add]
        rw [List.length_map, List.length_drop] at hw2
        refine q _ tl (lo + w2) H7 (by rw [sg_S, e1]) htl (by omega) (fun i e he hm => Nat.lt_of_lt_of_le (hf2 i e he hm) (Nat.le_add_right _ _)) ?_ (x6.trans e7) T7
        rw [← sg_len, sg_S, List.length_take]
        have : (nls (es.map lineL)).length = z.length := by rw [← hsgz, sg_len]
        omega
end

open PySem PySem.Spec PyProof.Rows L2
open PySem.W (EachIs)
/-- the moments of the first a asks -/
def aT (R : List Ent) (a : Nat) : List Int := (List.range a).map fun j => (mAt R (2 * j) : Int)
theorem aT_len (R : List Ent) (a : Nat) : (aT R a).length = a := by
  unfold aT
  rw [List.length_map, List.length_range]
theorem aT_succ (R : List Ent) (a : Nat) : aT R (a + 1) = aT R a ++ [(mAt R (2 * a) : Int)] := by
  unfold aT
  rw [List.range_succ, List.map_append]
  rfl
theorem aT_fn {R : List Ent} {a j : Nat} (h : j < a) : fn (aT R a) j = (mAt R (2 * j) : Int) := by
  unfold fn aT
  rw [List.getD_eq_getElem?_getD, List.getElem?_map, List.getElem?_range h]
  rfl
/-- at this moment: all that is earlier stands, nothing that is later -/
def MidR (R : List Ent) (μ c : Nat) : Prop := c ≤ R.length ∧ (∀ i, i < R.length → mAt R i < μ → i < c) ∧ ∀ i, i < c → mAt R i ≤ μ
def Fi (R : List Ent) (μ c : Nat) : Prop := c ≤ R.length ∧ ∀ i, i < R.length → (i < c ↔ mAt R i ≤ μ)
def AskOk (R : List Ent) (n μ c a : Nat) : Prop := (c + 1) / 2 ≤ a ∧ a ≤ n ∧ ∀ j, j < a → mAt R (2 * j) ≤ μ
theorem ask_fin {R : List Ent} {n μ c a : Nat} (hl : R.length = 2 * n) (h : AskOk R n μ c a) (hf : Fi R μ c) : a = (c + 1) / 2 := by
  obtain ⟨h1, h2, h3⟩ := h
  by_cases ha : a = 0
  · omega
  · have h4 := h3 (a - 1) (by omega)
    have h5 := (hf.2 (2 * (a - 1)) (by omega)).mpr h4
    omega
section
variable {tb : List Rw} {ds : List Int} {n : Nat} {R : List Ent}
theorem RunK.at_ (h : RunK tb ds n R) {i : Nat} (hi : i < 2 * n) : R[i]? = some (if i % 2 = 0 then askedS else doneS, i / 2 + 1, mAt R i) := by
  have hl := h.hist.len
  have hg : R[i]? = some R[i] := List.getElem?_eq_getElem (by omega)
  obtain ⟨g1, g2⟩ := h.hist.alt i _ hg
  rw [mAt_of hg, hg]
  by_cases hp : i % 2 = 0
  · rw [if_pos hp, ← (g1 hp).1, ← (g1 hp).2]
  · rw [if_neg hp, ← (g2 (by omega)).1, ← (g2 (by omega)).2]
theorem RunK.mono (h : RunK tb ds n R) {i j : Nat} (hij : i ≤ j) (hj : j < 2 * n) : mAt R i ≤ mAt R j := by
  have hl := h.hist.len
  have hg1 : R[i]? = some R[i] := List.getElem?_eq_getElem (by omega)
  have hg2 : R[j]? = some R[j] := List.getElem?_eq_getElem (by omega)
  rw [mAt_of hg1, mAt_of hg2]
  exact h.hist.good.mono i j _ _ hij hg1 hg2
theorem RunK.lt (h : RunK tb ds n R) {i : Nat} (hi : i % 2 = 1) (hj : i + 1 < 2 * n) : mAt R i < mAt R (i + 1) := by
  have hl := h.hist.len
  have hg1 : R[i]? = some R[i] := List.getElem?_eq_getElem (by omega)
  have hg2 : R[i + 1]? = some R[i + 1] := List.getElem?_eq_getElem (by omega)
  rw [mAt_of hg1, mAt_of hg2]
  have g := (h.hist.good (i + 1) _ hg2).2
  rw [entV_even (by rw [take_len hg2]; omega), lastM_take hg1] at g
  exact g.2.1
theorem RunK.tk (h : RunK tb ds n R) {c : Nat} (hc : c < 2 * n) : R.take (c + 1) = R.take c ++ [(if c % 2 = 0 then askedS else doneS, c / 2 + 1, mAt R c)] := by
  have hl := h.hist.len
  have hi : c < R.length := by omega
  have e := h.at_ hc
  rw [List.getElem?_eq_getElem hi] at e
  rw [← List.take_append_getElem hi, Option.some.inj e]
theorem RunK.len_take (h : RunK tb ds n R) {c : Nat} (hc : c ≤ 2 * n) : (R.take c).length = c := by
  have hl := h.hist.len
  rw [List.length_take]
  omega
theorem RunK.dlen (h : RunK tb ds n R) {c : Nat} (hc : c ≤ 2 * n) : (doneL (R.take c)).length = c / 2 := by
  have hl := h.hist.len
  exact alt_done h.hist.alt c (by omega)
theorem RunK.opn (h : RunK tb ds n R) {c : Nat} (hc : c ≤ 2 * n) : openB (R.take c) = decide (c % 2 = 1) := by
  rw [alt_open (h.hist.alt.take c), h.len_take hc]
theorem RunK.lastM_le (h : RunK tb ds n R) {c μ : Nat} (hc : c ≤ 2 * n) (hm : ∀ i, i < c → mAt R i ≤ μ) : lastM (R.take c) ≤ μ := by
  have hl := h.hist.len
  cases c with
  | zero => exact Nat.zero_le _
  | succ c =>
    have hg : R[c]? = some R[c] := List.getElem?_eq_getElem (by omega)
    rw [lastM_take hg, ← mAt_of hg]
    exact hm c (Nat.lt_succ_self c)
theorem RunK.lastK (h : RunK tb ds n R) {c : Nat} (hc : c ≤ 2 * n) (ho : c % 2 = 1) : NK.lastK (R.take c) = c / 2 + 1 := by
  rw [alt_last (h.hist.alt.take c) (by rw [h.len_take hc]; exact ho), h.len_take hc]
theorem RunK.due (h : RunK tb ds n R) {k : Nat} (hk : k < n) : (mAt R (2 * k) : Int) + fn ds k = (mAt R (2 * k + 1) : Int) := (h.del k hk).symm
theorem RunK.bound (h : RunK tb ds n R) (hn : n ≤ 6) {i : Nat} (hi : i < 2 * n) : mAt R i ≤ 2160 := by
  have hl := h.hist.len
  have hb := h.hist.bd
  have hg : R[i]? = some R[i] := List.getElem?_eq_getElem (by omega)
  rw [mAt_of hg]
  have := h.hist.good.le R[i] (List.getElem_mem _)
  omega
/-- what next answers at such a history -/
theorem RunK.nextEnd (h : RunK tb ds n R) (μ : Nat) : nextR n tb (R.take (2 * n)) μ = .tuple [.str "end"] ∧ nextE n tb (R.take (2 * n)) μ = R.take (2 * n) := by
  unfold nextR nextE
  rw [h.dlen (Nat.le_refl _), if_pos (show n < 2 * n / 2 + 1 by omega), if_pos (show n < 2 * n / 2 + 1 by omega)]
  exact ⟨rfl, rfl⟩
theorem RunK.nextOpen (h : RunK tb ds n R) (μ : Nat) {c : Nat} (hc : c < 2 * n) (ho : c % 2 = 1) : nextR n tb (R.take c) μ = .tuple [.str "open", .int ((c / 2 + 1 : Nat) : Int)] ∧ nextE n tb (R.take c) μ = R.take c := by
  unfold nextR nextE
  rw [h.dlen (Nat.le_of_lt hc), h.opn (Nat.le_of_lt hc), if_neg (show ¬ n < c / 2 + 1 by omega), if_neg (show ¬ n < c / 2 + 1 by omega), if_pos (decide_eq_true ho), if_pos (decide_eq_true ho)]
  exact ⟨rfl, rfl⟩
theorem RunK.askAt (h : RunK tb ds n R) {c : Nat} (hc : c < 2 * n) (he : c % 2 = 0) : askF tb (doneL (R.take c)) = (mAt R c : Int) := by
  have := h.ask (c / 2) (by omega)
  rw [show 2 * (c / 2) = c by omega] at this
  exact this.symm
theorem RunK.nextWait (h : RunK tb ds n R) {μ c : Nat} (hc : c < 2 * n) (he : c % 2 = 0) (hm : μ < mAt R c) : nextR n tb (R.take c) μ = .tuple [.str "wait", .int (mAt R c : Int)] ∧ nextE n tb (R.take c) μ = R.take c := by
  unfold nextR nextE
  rw [h.dlen (Nat.le_of_lt hc), h.opn (Nat.le_of_lt hc), h.askAt hc he, if_neg (show ¬ n < c / 2 + 1 by omega), if_neg (show ¬ n < c / 2 + 1 by omega), if_neg (show ¬ decide (c % 2 = 1) = true by rw [decide_eq_false (by omega)]; decide), if_neg (show ¬ decide (c % 2 = 1) = true by rw [decide_eq_false (by omega)]; decide), if_pos (show (μ : Int) < (mAt R c : Int) by omega), if_pos (show (μ : Int) < (mAt R c : Int) by omega)]
  exact ⟨rfl, rfl⟩
theorem RunK.nextAsk (h : RunK tb ds n R) {μ c : Nat} (hc : c < 2 * n) (he : c % 2 = 0) (hm : mAt R c = μ) : nextR n tb (R.take c) μ = .tuple [.str "ask", .int ((c / 2 + 1 : Nat) : Int)] ∧ nextE n tb (R.take c) μ = R.take (c + 1) := by
  unfold nextR nextE
  rw [h.dlen (Nat.le_of_lt hc), h.opn (Nat.le_of_lt hc), h.askAt hc he, if_neg (show ¬ n < c / 2 + 1 by omega), if_neg (show ¬ n < c / 2 + 1 by omega), if_neg (show ¬ decide (c % 2 = 1) = true by rw [decide_eq_false (by omega)]; decide), if_neg (show ¬ decide (c % 2 = 1) = true by rw [decide_eq_false (by omega)]; decide), if_neg (show ¬ (μ : Int) < (mAt R c : Int) by omega), if_neg (show ¬ (μ : Int) < (mAt R c : Int) by omega)]
  rw [h.tk hc, if_pos he, hm]
  exact ⟨rfl, rfl⟩
theorem RunK.fiLow (h : RunK tb ds n R) {μ c : Nat} (hc : c ≤ 2 * n) (h1 : ∀ i, i < c → mAt R i ≤ μ) (h2 : c < 2 * n → μ < mAt R c) : Fi R μ c := by
  have hl := h.hist.len
  refine ⟨by omega, fun i hi => ⟨h1 i, fun hm => ?_⟩⟩
  refine Classical.byContradiction fun hn => ?_
  have := h.mono (i := c) (j := i) (by omega) (by omega)
  have := h2 (by omega)
  omega
theorem fol_true {tb : List Rw} {n : Nat} : ∀ (r : List Ent) (dn : List Int), (∀ j e, r[j]? = some e → e.2.1 ≤ n ∧ (e.1 = askedS → askF tb (dn ++ doneL (r.take j)) ≤ (e.2.2 : Int))) → folF tb n r dn = true
  | [], _, _ => rfl
  | e :: r, dn, h => by
    have h0 := h 0 e rfl
    have e0 : dn ++ doneL ((e :: r).take 0) = dn := List.append_nil _
    rw [e0] at h0
    show (if n < e.2.1 ∨ (e.1 = askedS ∧ (e.2.2 : Int) < askF tb dn) then false else folF tb n r (if e.1 = doneS then dn ++ [(e.2.2 : Int)] else dn)) = true
    rw [if_neg (fun z => z.elim (fun z => by have := h0.1; omega) fun z => by have := h0.2 z.1; have := z.2; omega)]
    refine fol_true r _ fun j x hx => ?_
    have h1 := h (j + 1) x (by rw [List.getElem?_cons_succ]; exact hx)
    refine ⟨h1.1, fun hxa => ?_⟩
    have h2 := h1.2 hxa
    rw [List.take_succ_cons] at h2
    have e2 : dn ++ doneL (e :: r.take j) = (if e.1 = doneS then dn ++ [(e.2.2 : Int)] else dn) ++ doneL (r.take j) := by
      unfold doneL
      rw [List.filter_cons]
      by_cases c : e.1 = doneS
      · rw [if_pos (decide_eq_true c), if_pos c, List.map_cons, List.append_assoc]
        rfl
      · rw [if_neg (by rw [decide_eq_false c]; decide), if_neg c]
    rw [← e2]
    exact h2
theorem RunK.fol (h : RunK tb ds n R) (c : Nat) : folF tb n (R.take c) [] = true := by
  have hl := h.hist.len
  refine fol_true _ _ fun j e he => ?_
  rw [List.getElem?_take] at he
  split at he
  · rename_i hjc
    have hj : j < 2 * n := by
      have := (List.getElem?_eq_some_iff.mp he).1
      omega
    have ha := h.at_ hj
    rw [he] at ha
    have ha := Option.some.inj ha
    subst ha
    refine ⟨by show j / 2 + 1 ≤ n; omega, fun hx => ?_⟩
    have hp : j % 2 = 0 := by
      refine Classical.byContradiction fun hp => ?_
      have hx : (if j % 2 = 0 then askedS else doneS) = askedS := hx
      rw [if_neg hp] at hx
      exact absurd hx (by decide)
    show askF tb ([] ++ doneL ((R.take c).take j)) ≤ (mAt R j : Int)
    rw [List.nil_append, List.take_take, Nat.min_eq_left (by omega), h.askAt hj hp]
    exact Int.le_refl _
  · cases he
end

open PySem PySem.Spec PyProof.Rows L2
open PySem.W (EachIs)
section
variable {T : List (Addr × Str)} {H H' : Hp} {ms : List Addr}
theorem Lsts.two {H : Hp} {p q : Addr} {xs ys : List V} (h1 : H p = some (.lst xs)) (h2 : H q = some (.lst ys)) : Lsts H [p, q] := fun b hb => by
  rcases List.mem_cons.mp hb with e | hb
  · exact ⟨xs, by rw [e]; exact h1⟩
  · exact ⟨ys, by rw [List.mem_singleton.mp hb]; exact h2⟩
theorem Lsts.no {p : Addr} {o : HO} (hm : Lsts H ms) (h : H p = some o) (ho : ∀ xs, o ≠ .lst xs) : p ∉ ms := fun hb => by
  obtain ⟨xs, hx⟩ := hm p hb
  rw [h] at hx
  exact ho xs (Option.some.inj hx)
theorem HandAt.lsts {p C pe : Addr} {va : V} {n : Nat} {tb : List Rw} {es : List Ent} (h : HandAt H p C va n pe tb es) : Lsts H [pe] := by
  obtain ⟨_, _, ⟨xs, hxs, _⟩⟩ := h
  exact lsts_one hxs
theorem HandAt.away {p C pe : Addr} {va : V} {n : Nat} {tb : List Rw} {es : List Ent} (h : HandAt H p C va n pe tb es) (e : Ext T ms H H') (hm : Lsts H ms) (hpe : pe ∉ ms) : HandAt H' p C va n pe tb es := by
  obtain ⟨⟨dx, h1⟩, h2, h3⟩ := h
  exact ⟨⟨dx, e.keep p _ (hm.no h1 (fun _ z => by cases z)) (fun _ z => by cases z) h1⟩, Im.ext e hm _ _ h2, h3.ext e hpe hm⟩
theorem Tape.away {l t : Addr} (h : Tape l H t) (e : Ext T ms H H') (h1 : t ∉ ms) (h2 : l ∉ ms) : Tape l H' t := by
  obtain ⟨ns, pos, rest, st, bud, a1, a2, a3⟩ := h
  exact ⟨ns, pos, rest, st, bud, e.lst h1 a1, e.lst h2 a2, a3⟩
end
section
variable {T : List (Addr × Str)} {P : Program} {w : World} {K : PySem.W.Frag} {mg : Str → Option Value} {base : Heap}
local macro_rules | `(tactic| walk_at "tr") => `(tactic| first
  | assumption
  | exact Ext.refl
  | ((with_reducible refine' Im.x (T := T) (H := ?trH) ?tra ?tre); (case tre => assumption); (case tra => walk_at "tr"))
  | ((with_reducible refine' Im.y (T := T) (H := ?trH) ?tra ?tre ?trt); (case tre => assumption); (case trt => walk_at "tr"); (case tra => walk_at "tr"))
  | ((with_reducible refine' ImAll.x (T := T) (H := ?trH) ?tra ?tre); (case tre => assumption); (case tra => walk_at "tr"))
  | ((with_reducible refine' ImAll.y (T := T) (H := ?trH) ?tra ?tre ?trt); (case tre => assumption); (case trt => walk_at "tr"); (case tra => walk_at "tr"))
  | ((with_reducible refine' Ls.x (T := T) (H := ?trH) ?tra ?tre); (case tre => assumption); (case tra => walk_at "tr"))
  | ((with_reducible refine' Ls.y (T := T) (H := ?trH) ?tra ?tre ?trn ?trt); (case tre => assumption); (case trt => walk_at "tr"); (case trn => walk_at "tr"); (case tra => walk_at "tr"))
  | ((with_reducible refine' SqP.x (T := T) (H := ?trH) ?tra ?tre); (case tre => assumption); (case tra => walk_at "tr"))
  | ((with_reducible refine' SqP.y (T := T) (H := ?trH) ?tra ?tre ?trt); (case tre => assumption); (case trt => walk_at "tr"); (case tra => walk_at "tr"))
  | ((with_reducible refine' StAt.x (T := T) (H := ?trH) ?tra ?tre); (case tre => assumption); (case tra => walk_at "tr"))
  | ((with_reducible refine' StAt.y (T := T) (H := ?trH) ?tra ?tre ?trt); (case tre => assumption); (case trt => walk_at "tr"); (case tra => walk_at "tr"))
  | ((with_reducible refine' Pools.ext0 (T := T) (H := ?trH) ?tra ?tre); (case tre => assumption); (case tra => walk_at "tr"))
  | ((with_reducible refine' Pools.ext (T := T) (H := ?trH) ?tra ?tre ?trt); (case tre => assumption); (case trt => walk_at "tr"); (case tra => walk_at "tr"))
  | ((with_reducible refine' CL.x (T := T) (H := ?trH) ?tra ?tre); (case tre => assumption); (case tra => walk_at "tr"))
  | ((with_reducible refine' CL.y (T := T) (H := ?trH) ?tra ?tre); (case tre => assumption); (case tra => walk_at "tr"))
  | ((with_reducible refine' Tape.ext (T := T) (H := ?trH) ?tra ?tre); (case tre => assumption); (case tra => walk_at "tr"))
  | ((with_reducible refine' lst.x (T := T) (H := ?trH) ?tra ?tre); (case tre => assumption); (case tra => walk_at "tr"))
  | ((with_reducible refine' lst.y (T := T) (H := ?trH) ?tra ?tre ?trn); (case tre => assumption); (case trn => walk_at "tr"); (case tra => walk_at "tr"))
  | ((with_reducible refine' tup.x (T := T) (H := ?trH) ?tra ?tre); (case tre => assumption); (case tra => walk_at "tr"))
  | ((with_reducible refine' tup.y (T := T) (H := ?trH) ?tra ?tre ?trt); (case tre => assumption); (case trt => walk_at "tr"); (case tra => walk_at "tr"))
  | ((with_reducible refine' frz.x (T := T) (H := ?trH) ?tra ?tre); (case tre => assumption); (case tra => walk_at "tr"))
  | ((with_reducible refine' frz.y (T := T) (H := ?trH) ?tra ?tre ?trt); (case tre => assumption); (case trt => walk_at "tr"); (case tra => walk_at "tr"))
  | ((with_reducible refine' Im.z (T := T) (H := ?trH) ?tra ?tre ?trt); (case tre => assumption); (case trt => assumption); (case tra => walk_at "tr"))
  | ((with_reducible refine' ImAll.z (T := T) (H := ?trH) ?tra ?tre ?trt); (case tre => assumption); (case trt => assumption); (case tra => walk_at "tr"))
  | ((with_reducible refine' StAt.z (T := T) (H := ?trH) ?tra ?tre ?trt); (case tre => assumption); (case trt => assumption); (case tra => walk_at "tr"))
  | ((with_reducible refine' SqP.z (T := T) (H := ?trH) ?tra ?tre ?trt); (case tre => assumption); (case trt => assumption); (case tra => walk_at "tr"))
  | ((with_reducible refine' tup.z (T := T) (H := ?trH) ?tra ?tre ?trt); (case tre => assumption); (case trt => assumption); (case tra => walk_at "tr"))
  | ((with_reducible refine' Ls.z (T := T) (H := ?trH) ?tra ?tre ?trt ?trn); (case tre => assumption); (case trt => assumption); (case trn => assumption); (case tra => walk_at "tr"))
  | ((with_reducible refine' lst.z (T := T) (H := ?trH) ?tra ?tre ?trn); (case tre => assumption); (case trn => assumption); (case tra => walk_at "tr"))
  | ((with_reducible refine' CL.z (T := T) (H := ?trH) ?tra ?tre ?trn); (case tre => assumption); (case trn => assumption); (case tra => walk_at "tr"))
  | ((with_reducible refine' Tape.ne1 (H := ?trH) ?trt ?trn); (case trn => assumption); (case trt => walk_at "tr"))
  | ((with_reducible refine' Ext.trans (H1 := ?trH) ?tra (Ext.any ?tre)); (case tre => assumption); (case tra => walk_at "tr"))
  | ((with_reducible refine' Ext.trans (H1 := ?trH) ?tra ?tre); (case tre => assumption); (case tra => walk_at "tr"))
  | ((with_reducible refine' Ext.back1 (T := T) (H1 := ?trH) ?tre ?trn ?tra); (case tra => assumption); (case trn => walk_at "tr"); (case tre => walk_at "tr"))
  | ((with_reducible refine' Ext.back0 (T := T) (H1 := ?trH) ?tre ?tra); (case tra => assumption); (case tre => walk_at "tr"))
  | ((with_reducible refine' SqT.of ?tra); (case tra => walk_at "tr"))
  | ((with_reducible refine' SqL.of ?tra); (case tra => walk_at "tr")))
local macro_rules | `(tactic| walk_at "al") => `(tactic| (refine ⟨by first | (show _ ≤ sizeLine; decide) | walk_at "sz", ?_⟩; intro alp aln; generalize alG : upd _ alp _ = alH; obtain ⟨aln2, alx, alh⟩ := al_of (T := T) aln alG; clear alG aln))
local macro_rules | `(tactic| walk_at "al0") => `(tactic| (intro alp aln; generalize alG : upd _ alp _ = alH; obtain ⟨aln2, alx, alh⟩ := al_of (T := T) aln alG; clear alG aln))

theorem two_ne {p q b : Addr} (h1 : b ≠ p) (h2 : b ≠ q) : b ∉ [p, q] := by
  simp only [List.mem_cons, List.not_mem_nil, or_false]
  rintro (z | z)
  · exact h1 z
  · exact h2 z
def spAct (T : List (Addr × Str)) (C : Addr) : Sp := fun vs H Q _ => ∃ (p : Addr) (va : V) (n : Nat) (pe : Addr) (tb : List Rw) (pa pl : Addr) (ds : List Int) (R : List Ent) (μ c a : Nat), vs = [.ref p, .ref pa, .ref pl, .int (μ : Int)] ∧ HandAt H p C va n pe tb (R.take c) ∧ H pa = some (.lst ((aT R a).map V.int)) ∧ H pl = some (.lst (ds.map V.int)) ∧
  pa ≠ pe ∧ pl ≠ pe ∧ pl ≠ pa ∧ RunK tb ds n R ∧ ds.length = n ∧ n ≤ 6 ∧ TbLt tb ∧ tb.length ≤ 100 ∧ MidR R μ c ∧ AskOk R n μ c a ∧ μ < 100000 ∧
  ∀ H' c', Ext T [pe, pa] H H' → HandAt H' p C va n pe tb (R.take c') → H' pa = some (.lst ((aT R ((c' + 1) / 2)).map V.int)) → H' pl = some (.lst (ds.map V.int)) → Fi R μ c' → Q .non H'
theorem ok_law_act {C CN : Addr} (D : Def K mg "_law_act" s_law_act ["hand", "asked", "delays", "moment"]) (mb : ∀ x ∈ bltns, mg x = none) (M_next : MeO P w K mg base 3 C "next" ["self", "moment"] (sp0 (spNext T C CN))) (M_see : MeO P w K mg base 3 C "see" ["self", "moment"] (sp0 (spSee T C CN))) : Ok P w K mg base 4 "_law_act" ["hand", "asked", "delays", "moment"] (spAct T C) := by
  refine D.ok sc_law_act (fun vs H Q E h => ?_) (fun cdv f A outer s H vs Q E hr h => ?_)
  · obtain ⟨p, va, n, pe, tb, pa, pl, ds, R, μ, c, a, rfl, _⟩ := h
    rfl
  · obtain ⟨p, va, n, pe, tb, pa, pl, ds, R, μ, c, a, rfl, hH, hpa, hpl, n1, n2, n3, hR, hdl, hn, htb, htl, hM, hA, hμ, q⟩ := h
    refine ⟨_, (pss_one (ps_for PassesOwn.never rfl (pi_range1 (by rfl) (mb _ (by decide)) (pa_cons pe_int pa_nil)) (pg_name (i := 4) sc_law_act.nd rfl (.inl rfl)) (pss_cons (ps_set (i := 5) sc_law_act.nd rfl (.inl rfl) (pe_methO M_next (hr.mono (by decide)) (pv 0) (pa_cons (pv 3) pa_nil)))
   (pss_cons (ps_if (PW.pt (pw_and (pt_cmpR (op_neU K rfl hr.units) (pe_ix (ix_U K rfl) (pv 5) pe_int (fun _ _ => rfl)) pe_str (nomark _)) (pw_and1 (pt_cmpR (op_neU K rfl hr.units) (pe_ix (ix_U K rfl) (pv 5) pe_int (fun _ _ => rfl)) pe_str (nomark _))))) (pss_one ps_retN) pss_nil)
   (pss_cons (ps_set (i := 6) sc_law_act.nd rfl (.inl rfl) (pe_ix (ix_U K rfl) (pv 5) pe_int (fun _ _ => rfl)))
   (pss_cons (ps_if (pt_cmpR op_gt (pv 6) (pe_callB (call_lenU K rfl) (by rfl) (mb _ (by decide)) (by decide +kernel) (pa_cons (pv 1) pa_nil)) (nomark _)) (pss_one (ps_expr (pe_bm PySem.F.plainAttrs_list PySem.F.slot_list_append PySem.F.type_list_append mt_append (pv 1) (pa_cons (pv 3) pa_nil)))) pss_nil)
   (pss_cons (ps_set (i := 7) sc_law_act.nd rfl (.inl rfl) (pe_op (op_plus K rfl) (pe_ix (ix_U K rfl) (pv 1) (pe_op op_sub (pv 6) pe_int) (fun _ _ => rfl)) (pe_ix (ix_U K rfl) (pv 2) (pe_op op_sub (pv 6) pe_int) (fun _ _ => rfl))))
   (pss_cons (ps_if (pt_cmpR op_gt (pv 7) (pv 3) (nomark _)) (pss_one ps_retN) pss_nil)
   (pss_one (ps_expr (pe_methO M_see (hr.mono (by decide)) (pv 0) (pa_cons (pv 7) pa_nil)))))))))))), ?_⟩
    have hRl := hR.hist.len
    walk_at "rd"
    refine ⟨by decide, by decide, ?_⟩
    refine forg_range (fun i σ' H' => ∃ (c a : Nat) (x4 x5 x6 x7 : Option V), σ' = [some (.ref p), some (.ref pa), some (.ref pl), some (.int (μ : Int)), x4, x5, x6, x7] ∧ Ext T [pe, pa] H H' ∧ HandAt H' p C va n pe tb (R.take c) ∧ H' pa = some (.lst ((aT R a).map V.int)) ∧ H' pl = some (.lst (ds.map V.int)) ∧ MidR R μ c ∧ AskOk R n μ c a ∧ (i = 0 ∨ (i = 1 ∧ c % 2 = 0 ∧ Fi R μ c)))
      ⟨c, a, _, _, _, _, rfl, .refl, hH, hpa, hpl, hM, hA, .inl rfl⟩ (fun i σ' H' hi h => ?_) (fun σ' H' h => ?_)
    · clear hH hpa hpl hM hA
      obtain ⟨c, a, x4, x5, x6, x7, rfl, eH, hH, hpa, hpl, hM, hA, hi01⟩ := h
      obtain ⟨hM0, hM1, hM2⟩ := id hM
      have hc2 : c ≤ 2 * n := by omega
      obtain ⟨hA1, hA2, hA3⟩ := id hA
      have hLm := hR.lastM_le hc2 hM2
      have hcl := hR.len_take hc2
      walk_at "rdn"
      -- the answer of next
      refine rd_cut (fun σ' H' => ∃ (v : V) (c1 : Nat), σ' = [some (.ref p), some (.ref pa), some (.ref pl), some (.int (μ : Int)), some (.int (0 + (i : Int))), some v, x6, x7] ∧ Ext T [pe, pa] H H' ∧ HandAt H' p C va n pe tb (R.take c1) ∧ H' pa = some (.lst ((aT R a).map V.int)) ∧ H' pl = some (.lst (ds.map V.int)) ∧ Im H' v (nextR n tb (R.take c) μ) ∧
          R.take c1 = nextE n tb (R.take c) μ ∧ ((nextR n tb (R.take c) μ = .tuple [.str "end"] ∧ c1 = c ∧ Fi R μ c) ∨ ((∃ z, nextR n tb (R.take c) μ = .tuple [.str "wait", z]) ∧ c1 = c ∧ Fi R μ c) ∨ (i = 0 ∧ (nextR n tb (R.take c) μ = .tuple [.str "open", .int ((c1 / 2 + 1 : Nat) : Int)] ∨ nextR n tb (R.take c) μ = .tuple [.str "ask", .int ((c1 / 2 + 1 : Nat) : Int)]) ∧ c1 % 2 = 1 ∧ c1 < 2 * n ∧ c ≤ c1 ∧ c1 / 2 ≤ a ∧ (a = c1 / 2 → mAt R (2 * a) = μ) ∧ mAt R (2 * (c1 / 2)) ≤ μ ∧ (∀ j, j < c1 → mAt R j ≤ μ)))) (fun nx' hnx => ?_) (fun σ' H1 h => ?_)
      · obtain ⟨dx, hp⟩ := hH.1
        walk_at "rd"
        refine rd_meth ?_
        walk_at "rd"
        refine ⟨p, dx, _, rfl, hp, hF_no _ _ _ (by decide +kernel) (by decide +kernel) (by decide +kernel), ?_⟩
        walk_at "rd"
        refine ⟨p, va, n, pe, tb, R.take c, μ, rfl, hH, htb, htl, by omega, fun _ v H1 e1 hv hH1 => ?_, fun z => absurd hLm (by omega)⟩
        have hpa := e1.lst (by simpa using n1) hpa
        have hpl := e1.lst (by simpa using n2) hpl
        have x1 : Ext T [pe, pa] H H1 := eH.trans (e1.wide (by simp))
        clear eH e1 hH hp
        walk_at "rd"
        rcases Nat.lt_or_ge c (2 * n) with hc | hc
        · by_cases ho : c % 2 = 1
          · obtain ⟨e2, e3⟩ := hR.nextOpen μ hc ho
            rw [e3] at hH1
            refine hnx _ _ ⟨v, c, rfl, x1, hH1, hpa, hpl, hv, e3.symm, .inr (.inr ⟨?_, .inl e2, ho, hc, Nat.le_refl _, by omega, fun z => by omega, hM2 _ (by omega), hM2⟩)⟩
            rcases hi01 with h | ⟨_, h, _⟩
            · exact h
            · omega
          · have he : c % 2 = 0 := by omega
            by_cases hm : μ < mAt R c
            · obtain ⟨e2, e3⟩ := hR.nextWait hc he hm
              rw [e3] at hH1
              exact hnx _ _ ⟨v, c, rfl, x1, hH1, hpa, hpl, hv, e3.symm, .inr (.inl ⟨⟨_, e2⟩, rfl, hR.fiLow hc2 hM2 fun _ => hm⟩)⟩
            · have hmu : mAt R c = μ := by
                refine Classical.byContradiction fun z => ?_
                have := hM1 c (by omega) (by omega)
                omega
              obtain ⟨e2, e3⟩ := hR.nextAsk hc he hmu
              rw [e3] at hH1
              have ec : (c + 1) / 2 = c / 2 := by omega
              refine hnx _ _ ⟨v, c + 1, rfl, x1, hH1, hpa, hpl, hv, e3.symm, .inr (.inr ⟨?_, .inr (by rw [ec]; exact e2), by omega, by omega, Nat.le_succ _, by omega, fun z => by rw [show 2 * a = c by omega]; exact hmu, by rw [show 2 * ((c + 1) / 2) = c by omega]; omega, fun j hj => ?_⟩)⟩
              · rcases hi01 with h | ⟨_, _, h⟩
                · exact h
                · have := (h.2 c (by omega)).mpr (by omega)
                  omega
              · by_cases hjc : j = c
                · rw [hjc]
                  omega
                · exact hM2 j (by omega)
        · have ecn : c = 2 * n := by omega
          subst ecn
          obtain ⟨e2, e3⟩ := hR.nextEnd μ
          rw [e3] at hH1
          exact hnx _ _ ⟨v, 2 * n, rfl, x1, hH1, hpa, hpl, hv, e3.symm, .inl ⟨e2, rfl, hR.fiLow hc2 hM2 fun z => by omega⟩⟩
      · obtain ⟨v, c1, rfl, x1, hH1, hpa, hpl, hv, _, hcase⟩ := h
        clear eH hH
        have leave : ∀ c', c' = c → Fi R μ c → c1 = c → Q .non H1 := fun c' _ hF e => by
          subst e
          have ea := ask_fin hRl hA hF
          rw [ea] at hpa
          exact q H1 c1 x1 hH1 hpa hpl hF
        walk_at "rdn"
        refine rd_cut (fun σ' H' => σ' = [some (.ref p), some (.ref pa), some (.ref pl), some (.int (μ : Int)), some (.int (0 + (i : Int))), some v, x6, x7] ∧ H' = H1 ∧ i = 0 ∧ (∃ wd : Str, nextR n tb (R.take c) μ = .tuple [.str wd, .int ((c1 / 2 + 1 : Nat) : Int)]) ∧ c1 % 2 = 1 ∧ c1 < 2 * n ∧ c ≤ c1 ∧ c1 / 2 ≤ a ∧ (a = c1 / 2 → mAt R (2 * a) = μ) ∧ mAt R (2 * (c1 / 2)) ≤ μ ∧ (∀ j, j < c1 → mAt R j ≤ μ)) (fun nx' hnx => ?_) (fun σ' H2 h => ?_)
        · rcases hcase with ⟨e1, ec, hF⟩ | ⟨⟨z, e1⟩, ec, hF⟩ | ⟨hi0, hw, hrest⟩
          · rw [e1] at hv
            walk_at "rd"
            refine rd_ixSs hv (show atI _ 0 = some (PyData.str "end") from rfl) ?_
            walk_at "rd"
            refine rd_iteN (fun _ => ?_) (fun z => absurd z (by decide +kernel))
            walk_at "rd"
            refine rd_ixSs hv (show atI _ 0 = some (PyData.str "end") from rfl) ?_
            walk_at "rd"
            refine rd_iteN (fun _ => ?_) (fun z => absurd z (by decide +kernel))
            walk_at "rd"
            exact leave c rfl hF ec
          · rw [e1] at hv
            walk_at "rd"
            refine rd_ixSs hv (show atI _ 0 = some (PyData.str "wait") from rfl) ?_
            walk_at "rd"
            refine rd_iteN (fun _ => ?_) (fun z => absurd z (by decide +kernel))
            walk_at "rd"
            refine rd_ixSs hv (show atI _ 0 = some (PyData.str "wait") from rfl) ?_
            walk_at "rd"
            refine rd_iteN (fun _ => ?_) (fun z => absurd z (by decide +kernel))
            walk_at "rd"
            exact leave c rfl hF ec
          · rcases hw with e1 | e1
            · rw [e1] at hv
              walk_at "rd"
              refine rd_ixSs hv (show atI _ 0 = some (PyData.str "open") from rfl) ?_
              walk_at "rd"
              refine rd_iteN (fun _ => ?_) (fun z => absurd z (by decide +kernel))
              walk_at "rd"
              refine rd_ixSs hv (show atI _ 0 = some (PyData.str "open") from rfl) ?_
              walk_at "rd"
              refine rd_iteN (fun z => absurd rfl z) (fun _ => ?_)
              walk_at "rd"
              exact hnx _ _ ⟨rfl, rfl, hi0, ⟨_, e1⟩, hrest⟩
            · rw [e1] at hv
              walk_at "rd"
              refine rd_ixSs hv (show atI _ 0 = some (PyData.str "ask") from rfl) ?_
              walk_at "rd"
              refine rd_iteN (fun z => absurd rfl z) (fun _ => ?_)
              walk_at "rd"
              exact hnx _ _ ⟨rfl, rfl, hi0, ⟨_, e1⟩, hrest⟩
        · clear leave hcase
          obtain ⟨rfl, rfl, hi0, ⟨wd, e1⟩, ho, hc1, hcc, hca, haμ, hm1, hm2⟩ := h
          rw [e1] at hv
          have ek : (((c1 / 2 + 1 : Nat) : Int)) - 1 = ((c1 / 2 : Nat) : Int) := by omega
          walk_at "rdn"
          refine rd_seq ?_
          walk_at "rdn"
          refine rd_ixI hv (i := 1) rfl fun u hu => ?_
          cases hu
          walk_at "rdn"
          refine rd_cut (fun σ' H' => ∃ a1, σ' = [some (.ref p), some (.ref pa), some (.ref pl), some (.int (μ : Int)), some (.int (0 + (i : Int))), some v, some (.int ((c1 / 2 + 1 : Nat) : Int)), x7] ∧ Ext T [pe, pa] H H' ∧ HandAt H' p C va n pe tb (R.take c1) ∧ H' pa = some (.lst ((aT R a1).map V.int)) ∧ H' pl = some (.lst (ds.map V.int)) ∧ c1 / 2 + 1 ≤ a1 ∧ a1 ≤ n ∧ ∀ j, j < a1 → mAt R (2 * j) ≤ μ) (fun nx' hnx => ?_) (fun σ' H3 h => ?_)
          · have hal : (((aT R a).map V.int).length : Int) = (a : Int) := by rw [List.length_map, aT_len]
            have hal2 : ((aT R a).map V.int).length ≤ 100 := by
              rw [List.length_map, aT_len]
              omega
            walk_at "rd"
            rw [hal]
            refine rd_ite (fun c2 => ?_) (fun c2 => ?_)
            · have ha : a = c1 / 2 := by omega
              refine rd_drop ?_
              walk_at "rd"
              have eM : Ext T [pa] H2 (upd H2 pa (.lst ((aT R a).map V.int ++ [V.int (μ : Int)]))) := Ext.mut (by simp) hpa
              have hH4 := hH1.away eM (lsts_one hpa) (by simpa using n1.symm)
              have hpl4 := eM.lst (by simpa using n3) hpl
              have e5 : (aT R a).map V.int ++ [V.int (μ : Int)] = (aT R (a + 1)).map V.int := by
                rw [aT_succ, haμ ha, List.map_append]
                rfl
              refine hnx _ _ ⟨a + 1, rfl, x1.trans (eM.wide (by simp)), hH4, by rw [upd_same, e5], hpl4, by omega, by omega, fun j hj => ?_⟩
              by_cases hja : j = a
              · rw [hja, haμ ha]
                exact Nat.le_refl _
              · exact hA3 j (by omega)
            · walk_at "rd"
              exact hnx _ _ ⟨a, rfl, x1, hH1, hpa, hpl, by omega, hA2, hA3⟩
          · obtain ⟨a1, rfl, x3, hH3, hpa, hpl, ha1, ha2, ha3⟩ := h
            clear x1 hH1 hA hA1 hA2 hA3 hca haμ
            obtain ⟨_, hpl3⟩ := And.intro hpl hpl
            walk_at "rdn"
            refine rd_seq ?_
            walk_at "rd"
            rw [ek]
            refine rd_ixL (SqL.of hpa) (at_fn (show c1 / 2 < (aT R a1).length by rw [aT_len]; omega)) ?_
            rw [aT_fn (show c1 / 2 < a1 by omega)]
            walk_at "rd"
            rw [ek]
            refine rd_ixL (SqL.of hpl) (at_fn (show c1 / 2 < ds.length by omega)) ?_
            have ed := hR.due (k := c1 / 2) (by omega)
            have ec1 : 2 * (c1 / 2) + 1 = c1 := by omega
            rw [ec1] at ed
            walk_at "rdn"
            rw [ed]
            refine rd_cut (fun σ' H' => σ' = [some (.ref p), some (.ref pa), some (.ref pl), some (.int (μ : Int)), some (.int (0 + (i : Int))), some v, some (.int ((c1 / 2 + 1 : Nat) : Int)), some (.int (mAt R c1 : Int))] ∧ H' = H3 ∧ mAt R c1 ≤ μ) (fun nx' hnx => ?_) (fun σ' H4 h => ?_)
            · walk_at "rd"
              refine rd_ite (fun c2 => ?_) (fun c2 => ?_)
              · walk_at "rd"
                have hF : Fi R μ c1 := hR.fiLow (by omega) hm2 (fun _ => by omega)
                have ea : a1 = (c1 + 1) / 2 := ask_fin hRl ⟨by omega, ha2, ha3⟩ hF
                rw [ea] at hpa
                exact q H3 c1 x3 hH3 hpa hpl hF
              · walk_at "rd"
                exact hnx _ _ ⟨rfl, rfl, by omega⟩
            · obtain ⟨rfl, rfl, hdμ⟩ := h
              have hc1l := hR.len_take (Nat.le_of_lt hc1)
              have hop := hR.opn (Nat.le_of_lt hc1)
              rw [decide_eq_true ho] at hop
              have hdue : lastM (R.take c1) ≤ mAt R c1 := hR.lastM_le (Nat.le_of_lt hc1) fun j hj => hR.mono (Nat.le_of_lt hj) hc1
              have hLK := hR.lastK (Nat.le_of_lt hc1) ho
              have htk := hR.tk hc1
              rw [if_neg (show ¬ c1 % 2 = 0 by omega)] at htk
              obtain ⟨dx, hp⟩ := hH3.1
              walk_at "rd"
              refine rd_meth ?_
              walk_at "rd"
              refine ⟨p, dx, _, rfl, hp, hF_no _ _ _ (by decide +kernel) (by decide +kernel) (by decide +kernel), ?_⟩
              walk_at "rd"
              refine ⟨p, va, n, pe, tb, R.take c1, mAt R c1, rfl, hH3, by omega, fun _ _ H5 e5 hH5 => ?_, (fun z => by rw [hop] at z; cases z), (fun _ z => absurd hdue (by omega))⟩
              rw [hLK, ← htk] at hH5
              have hpa := e5.lst (by simpa using n1) hpa
              have hpl := e5.lst (by simpa using n2) hpl
              have hge : μ ≤ mAt R c1 := by
                refine Classical.byContradiction fun z => ?_
                have := hM1 c1 (by omega) (by omega)
                omega
              have hall : ∀ j, j < c1 + 1 → mAt R j ≤ μ := fun j hj => by
                have := hR.mono (i := j) (j := c1) (by omega) hc1
                omega
              have hF : Fi R μ (c1 + 1) := hR.fiLow (by omega) hall fun z => by
                have := hR.lt ho z
                omega
              refine ⟨c1 + 1, a1, _, _, _, _, rfl, x3.trans (e5.wide (by simp)), hH5, hpa, hpl, ⟨by omega, fun j hj hjm => ?_, hall⟩, ⟨by omega, ha2, ha3⟩, .inr ⟨by omega, by omega, hF⟩⟩
              have := hM1 j hj hjm
              omega
    · obtain ⟨c, a, x4, x5, x6, x7, rfl, eH, hH, hpa, hpl, hM, hA, hi01⟩ := h
      exfalso
      rcases hi01 with h | ⟨h, _⟩
      · exact absurd h (by decide)
      · exact absurd h (by decide)
end

open PySem PySem.Spec PyProof.Rows L2
open PySem.W (EachIs)
section
variable {T : List (Addr × Str)} {P : Program} {w : World} {K : PySem.W.Frag} {mg : Str → Option Value} {base : Heap}
local macro_rules | `(tactic| walk_at "tr") => `(tactic| first
  | assumption
  | exact Ext.refl
  | ((with_reducible refine' Im.x (T := T) (H := ?trH) ?tra ?tre); (case tre => assumption); (case tra => walk_at "tr"))
  | ((with_reducible refine' Im.y (T := T) (H := ?trH) ?tra ?tre ?trt); (case tre => assumption); (case trt => walk_at "tr"); (case tra => walk_at "tr"))
  | ((with_reducible refine' ImAll.x (T := T) (H := ?trH) ?tra ?tre); (case tre => assumption); (case tra => walk_at "tr"))
  | ((with_reducible refine' ImAll.y (T := T) (H := ?trH) ?tra ?tre ?trt); (case tre => assumption); (case trt => walk_at "tr"); (case tra => walk_at "tr"))
  | ((with_reducible refine' Ls.x (T := T) (H := ?trH) ?tra ?tre); (case tre => assumption); (case tra => walk_at "tr"))
  | ((with_reducible refine' Ls.y (T := T) (H := ?trH) ?tra ?tre ?trn ?trt); (case tre => assumption); (case trt => walk_at "tr"); (case trn => walk_at "tr"); (case tra => walk_at "tr"))
  | ((with_reducible refine' SqP.x (T := T) (H := ?trH) ?tra ?tre); (case tre => assumption); (case tra => walk_at "tr"))
  | ((with_reducible refine' SqP.y (T := T) (H := ?trH) ?tra ?tre ?trt); (case tre => assumption); (case trt => walk_at "tr"); (case tra => walk_at "tr"))
  | ((with_reducible refine' StAt.x (T := T) (H := ?trH) ?tra ?tre); (case tre => assumption); (case tra => walk_at "tr"))
  | ((with_reducible refine' StAt.y (T := T) (H := ?trH) ?tra ?tre ?trt); (case tre => assumption); (case trt => walk_at "tr"); (case tra => walk_at "tr"))
  | ((with_reducible refine' Pools.ext0 (T := T) (H := ?trH) ?tra ?tre); (case tre => assumption); (case tra => walk_at "tr"))
  | ((with_reducible refine' Pools.ext (T := T) (H := ?trH) ?tra ?tre ?trt); (case tre => assumption); (case trt => walk_at "tr"); (case tra => walk_at "tr"))
  | ((with_reducible refine' CL.x (T := T) (H := ?trH) ?tra ?tre); (case tre => assumption); (case tra => walk_at "tr"))
  | ((with_reducible refine' CL.y (T := T) (H := ?trH) ?tra ?tre); (case tre => assumption); (case tra => walk_at "tr"))
  | ((with_reducible refine' Tape.ext (T := T) (H := ?trH) ?tra ?tre); (case tre => assumption); (case tra => walk_at "tr"))
  | ((with_reducible refine' lst.x (T := T) (H := ?trH) ?tra ?tre); (case tre => assumption); (case tra => walk_at "tr"))
  | ((with_reducible refine' lst.y (T := T) (H := ?trH) ?tra ?tre ?trn); (case tre => assumption); (case trn => walk_at "tr"); (case tra => walk_at "tr"))
  | ((with_reducible refine' tup.x (T := T) (H := ?trH) ?tra ?tre); (case tre => assumption); (case tra => walk_at "tr"))
  | ((with_reducible refine' tup.y (T := T) (H := ?trH) ?tra ?tre ?trt); (case tre => assumption); (case trt => walk_at "tr"); (case tra => walk_at "tr"))
  | ((with_reducible refine' frz.x (T := T) (H := ?trH) ?tra ?tre); (case tre => assumption); (case tra => walk_at "tr"))
  | ((with_reducible refine' frz.y (T := T) (H := ?trH) ?tra ?tre ?trt); (case tre => assumption); (case trt => walk_at "tr"); (case tra => walk_at "tr"))
  | ((with_reducible refine' Im.z (T := T) (H := ?trH) ?tra ?tre ?trt); (case tre => assumption); (case trt => assumption); (case tra => walk_at "tr"))
  | ((with_reducible refine' ImAll.z (T := T) (H := ?trH) ?tra ?tre ?trt); (case tre => assumption); (case trt => assumption); (case tra => walk_at "tr"))
  | ((with_reducible refine' StAt.z (T := T) (H := ?trH) ?tra ?tre ?trt); (case tre => assumption); (case trt => assumption); (case tra => walk_at "tr"))
  | ((with_reducible refine' SqP.z (T := T) (H := ?trH) ?tra ?tre ?trt); (case tre => assumption); (case trt => assumption); (case tra => walk_at "tr"))
  | ((with_reducible refine' tup.z (T := T) (H := ?trH) ?tra ?tre ?trt); (case tre => assumption); (case trt => assumption); (case tra => walk_at "tr"))
  | ((with_reducible refine' Ls.z (T := T) (H := ?trH) ?tra ?tre ?trt ?trn); (case tre => assumption); (case trt => assumption); (case trn => assumption); (case tra => walk_at "tr"))
  | ((with_reducible refine' lst.z (T := T) (H := ?trH) ?tra ?tre ?trn); (case tre => assumption); (case trn => assumption); (case tra => walk_at "tr"))
  | ((with_reducible refine' CL.z (T := T) (H := ?trH) ?tra ?tre ?trn); (case tre => assumption); (case trn => assumption); (case tra => walk_at "tr"))
  | ((with_reducible refine' Tape.ne1 (H := ?trH) ?trt ?trn); (case trn => assumption); (case trt => walk_at "tr"))
  | ((with_reducible refine' Ext.trans (H1 := ?trH) ?tra (Ext.any ?tre)); (case tre => assumption); (case tra => walk_at "tr"))
  | ((with_reducible refine' Ext.trans (H1 := ?trH) ?tra ?tre); (case tre => assumption); (case tra => walk_at "tr"))
  | ((with_reducible refine' Ext.back1 (T := T) (H1 := ?trH) ?tre ?trn ?tra); (case tra => assumption); (case trn => walk_at "tr"); (case tre => walk_at "tr"))
  | ((with_reducible refine' Ext.back0 (T := T) (H1 := ?trH) ?tre ?tra); (case tra => assumption); (case tre => walk_at "tr"))
  | ((with_reducible refine' SqT.of ?tra); (case tra => walk_at "tr"))
  | ((with_reducible refine' SqL.of ?tra); (case tra => walk_at "tr")))
local macro_rules | `(tactic| walk_at "al") => `(tactic| (refine ⟨by first | (show _ ≤ sizeLine; decide) | walk_at "sz", ?_⟩; intro alp aln; generalize alG : upd _ alp _ = alH; obtain ⟨aln2, alx, alh⟩ := al_of (T := T) aln alG; clear alG aln))
local macro_rules | `(tactic| walk_at "al0") => `(tactic| (intro alp aln; generalize alG : upd _ alp _ = alH; obtain ⟨aln2, alx, alh⟩ := al_of (T := T) aln alG; clear alG aln))

/-- a new own object that is taken away again -/
theorem ext_made (H : Hp) {p dx : Addr} {o1 o2 : HO} (np : H p = none) (ndx : H dx = none) : Ext T [] H (del (upd (upd H dx o1) p o2) p) := .same fun b x e => by
  have h1 : b ≠ p := ne_of_none e np
  rw [del_ne h1, upd_ne h1, upd_ne (ne_of_none e ndx)]
  exact e
theorem Ext.dropQ {ms ms2 : List Addr} {H H1 H2 : Hp} {q : Addr} (e1 : Ext T ms H H1) (e2 : Ext T (q :: ms2) H1 H2) (h : ∀ b ∈ ms2, b ∈ ms) (hq : q ∈ ms ∨ Nw H q) : Ext T ms H H2 := by
  refine ⟨fun b o hb ho hk => ?_, fun t => e2.tabs (e1.tabs t)⟩
  refine e2.keep b o (fun hm => ?_) ho (e1.keep b o hb ho hk)
  rcases List.mem_cons.mp hm with z | hm
  · rcases hq with hq | hq
    · exact hb (z ▸ hq)
    · obtain ⟨ps, z2⟩ := hq o (z ▸ hk)
      exact ho ps z2
  · exact hb (h b hm)
theorem midOf {R : List Ent} {μ c : Nat} (h : Fi R μ c) : MidR R μ c := by
  refine ⟨h.1, fun i hi hm => (h.2 i hi).mpr (by omega), fun i hi => (h.2 i (by have := h.1; omega)).mp hi⟩
theorem askOf {R : List Ent} {n μ c : Nat} (hl : R.length = 2 * n) (h : Fi R μ c) : AskOk R n μ c ((c + 1) / 2) := by
  have := h.1
  exact ⟨Nat.le_refl _, by omega, fun j hj => (h.2 (2 * j) (by omega)).mp (by omega)⟩
def spTurn (T : List (Addr × Str)) (C : Addr) : Sp := fun vs H Q _ => ∃ (l t p : Addr) (va : V) (n : Nat) (pe : Addr) (tb : List Rw) (pw pa pl : Addr) (ds : List Int) (R : List Ent) (μ c a : Nat), vs = [.ref t, .ref p, .ref pw, .ref pl, .int (μ : Int)] ∧ H pw = some (.tup [va, .int (n : Int), .ref pa]) ∧ Tape l H t ∧ HandAt H p C va n pe tb (R.take c) ∧ H pa = some (.lst ((aT R a).map V.int)) ∧ H pl = some (.lst (ds.map V.int)) ∧
  (pa ≠ pe ∧ pl ≠ pe ∧ pl ≠ pa) ∧ (pe ≠ t ∧ pe ≠ l ∧ pa ≠ t ∧ pa ≠ l ∧ pl ≠ t) ∧ RunK tb ds n R ∧ ds.length = n ∧ n ≤ 6 ∧ TbLt tb ∧ tb.length ≤ 100 ∧ MidR R μ c ∧ AskOk R n μ c a ∧ μ < 100000 ∧
  ∀ p' pe' c' H', HandAt H' p' C va n pe' tb (R.take c') → H' pa = some (.lst ((aT R ((c' + 1) / 2)).map V.int)) → H' pl = some (.lst (ds.map V.int)) → Fi R μ c' → Tape l H' t → Ext T [t, pe, pa] H H' → (pe' = pe ∨ Nw H pe') → Q (.ref p') H'
theorem ok_law_turn {C : Addr} (D : Def K mg "_law_turn" s_law_turn ["tape", "hand", "world", "delays", "moment"]) (mb : ∀ x ∈ bltns, mg x = none) (G_law_take : Ok P w K mg base 2 "_law_take" ["tape", "many"] (spTake T)) (G_law_act : Ok P w K mg base 4 "_law_act" ["hand", "asked", "delays", "moment"] (spAct T C)) (G_law_drop : Ok P w K mg base 3 "_law_drop" ["tape", "text", "moment"] (spDrop T))
    (C_Hand : MkO P w K mg base 5 "Hand" C ["self", "table", "count", "text"] (spHand T C)) (M_book : MeO P w K mg base 2 C "book" ["self"] (spBook T C)) : Ok P w K mg base 7 "_law_turn" ["tape", "hand", "world", "delays", "moment"] (spTurn T C) := by
  refine D.ok sc_law_turn (fun vs H Q E h => ?_) (fun cdv f A outer s H vs Q E hr h => ?_)
  · obtain ⟨l, t, p, va, n, pe, tb, pw, pa, pl, ds, R, μ, c, a, rfl, _⟩ := h
    rfl
  · obtain ⟨l, t, p, va, n, pe, tb, pw, pa, pl, ds, R, μ, c, a, rfl, hpw, hT, hH, hpa, hpl, ⟨n1, n2, n3⟩, ⟨n4, n5, n6, n7, n8⟩, hR, hdl, hn, htb, htl, hM, hA, hμ, q⟩ := h
    refine ⟨_, (pss_cons (ps_asg (pv 2) (pg_tupU (n := 3) K rfl rfl (pgs_cons (pg_name (i := 5) sc_law_turn.nd rfl (.inl rfl)) (pgs_cons (pg_name (i := 6) sc_law_turn.nd rfl (.inl rfl)) (pgs_cons (pg_name (i := 7) sc_law_turn.nd rfl (.inl rfl)) pgs_nil)))))
   (pss_cons (ps_for PassesOwn.never rfl (pi_range1 (by rfl) (mb _ (by decide)) (pa_cons pe_int pa_nil)) (pg_name (i := 8) sc_law_turn.nd rfl (.inl rfl)) (pss_cons (ps_expr (pe_callO G_law_act (hr.mono (by decide)) (by rfl) (pa_cons (pv 1) (pa_cons (pv 7) (pa_cons (pv 3) (pa_cons (pv 4) pa_nil))))))
   (pss_one (ps_if (pt_cmpR (op_eqU K rfl hr.units) (pe_callO G_law_take (hr.mono (by decide)) (by rfl) (pa_cons (pv 0) (pa_cons pe_int pa_nil))) pe_int (nomark _)) (pss_one (ps_set (i := 1) sc_law_turn.nd rfl (.inl rfl) (pe_makeO C_Hand (hr.mono (by decide)) (by rfl) (pa_cons (pv 5) (pa_cons (pv 6) (pa_cons (pe_callO G_law_drop (hr.mono (by decide)) (by rfl) (pa_cons (pv 0) (pa_cons (pe_methO0 M_book (hr.mono (by decide)) (pv 1)) (pa_cons (pv 4) pa_nil)))) pa_nil)))))) pss_nil))))
   (pss_cons (ps_expr (pe_callO G_law_act (hr.mono (by decide)) (by rfl) (pa_cons (pv 1) (pa_cons (pv 7) (pa_cons (pv 3) (pa_cons (pv 4) pa_nil))))))
   (pss_one (ps_ret (pv 1)))))), ?_⟩
    have hRl := hR.hist.len
    -- what stands at H stays apart
    have apart : ∀ pe', (pe' = pe ∨ Nw H pe') → pa ≠ pe' ∧ pl ≠ pe' ∧ pe' ≠ t ∧ pe' ≠ l := fun pe' h => by
      rcases h with rfl | h
      · exact ⟨n1, n2, n4, n5⟩
      · exact ⟨h.lst hpa, h.lst hpl, (hT.ne h).1, (hT.ne h).2⟩
    walk_at "rdn"
    refine rd_seq ?_
    walk_at "rdn"
    refine rd_gtup (SqT.of hpw) rfl (rd_gcons (rd_name (rd_gcons (rd_name (rd_gcons (rd_name (rd_gnil ?_)))))))
    -- one act
    have act : ∀ {H1 : Hp} {p' pe' : Addr} {c a : Nat} {Q1 : VK}, Ext T [t, pe, pa] H H1 → (pe' = pe ∨ Nw H pe') → Tape l H1 t → (∃ xs, H1 pe = some (.lst xs)) → HandAt H1 p' C va n pe' tb (R.take c) → H1 pa = some (.lst ((aT R a).map V.int)) → H1 pl = some (.lst (ds.map V.int)) → MidR R μ c → AskOk R n μ c a →
        (∀ H' c', Ext T [t, pe, pa] H H' → Tape l H' t → (∃ xs, H' pe = some (.lst xs)) → HandAt H' p' C va n pe' tb (R.take c') → H' pa = some (.lst ((aT R ((c' + 1) / 2)).map V.int)) → H' pl = some (.lst (ds.map V.int)) → Fi R μ c' → Q1 .non H') → spAct T C [.ref p', .ref pa, .ref pl, .int (μ : Int)] H1 Q1 E0 := by
      intro H1 p' pe' c a Q1 e1 hpe T1 hpx hH hpa hpl hM hA go
      obtain ⟨m1, m2, m3, m4⟩ := apart pe' hpe
      refine ⟨p', va, n, pe', tb, pa, pl, ds, R, μ, c, a, rfl, hH, hpa, hpl, m1, m2, n3, hR, hdl, hn, htb, htl, hM, hA, hμ, fun H' c' e hH' hpa' hpl' hF => ?_⟩
      exact go H' c' (e1.dropQ e (by simp) (hpe.imp (fun z => by rw [z]; simp) id)) (T1.away e (two_ne m3.symm n6.symm) (two_ne m4.symm n7.symm)) (by
        by_cases z : pe = pe'
        · subst z
          obtain ⟨_, _, ⟨xs, hxs, _⟩⟩ := hH'
          exact ⟨xs, hxs⟩
        · obtain ⟨xs, hxs⟩ := hpx
          exact ⟨xs, e.lst (two_ne z n1.symm) hxs⟩) hH' hpa' hpl' hF
    walk_at "rdn"
    refine rd_seq ?_
    walk_at "rd"
    refine ⟨by decide, by decide, ?_⟩
    refine forg_range (fun i σ' H' => ∃ (p' pe' : Addr) (c a : Nat) (x8 : Option V), σ' = [some (.ref t), some (.ref p'), some (.ref pw), some (.ref pl), some (.int (μ : Int)), some va, some (.int (n : Int)), some (.ref pa), x8] ∧ Ext T [t, pe, pa] H H' ∧ (pe' = pe ∨ Nw H pe') ∧ Tape l H' t ∧ (∃ xs, H' pe = some (.lst xs)) ∧ HandAt H' p' C va n pe' tb (R.take c) ∧ H' pa = some (.lst ((aT R a).map V.int)) ∧ H' pl = some (.lst (ds.map V.int)) ∧ MidR R μ c ∧ AskOk R n μ c a)
      ⟨p, pe, c, a, _, rfl, .refl, .inl rfl, hT, (by obtain ⟨_, _, ⟨xs, hxs, _⟩⟩ := hH; exact ⟨xs, hxs⟩), hH, hpa, hpl, hM, hA⟩ (fun i σ' H' hi h => ?_) (fun σ' H' h => ?_)
    · obtain ⟨p', pe', c, a, x8, rfl, eH, hpe, TH, hpx, hH, hpa, hpl, hM, hA⟩ := h
      walk_at "rdn"
      refine rd_seq ?_
      walk_at "rdn"
      refine act eH hpe TH hpx hH hpa hpl hM hA fun H1 c1 e1 T1 hpx hH hpa hpl hF => ?_
      clear eH TH hM hA
      walk_at "rd"
      refine ⟨l, t, 3, rfl, by decide, by decide, T1, fun d H2 d0 d1 e2 T2 => ?_⟩
      obtain ⟨m1, m2, m3, m4⟩ := apart pe' hpe
      have hH := hH.away e2 T1.lsts (by simpa using m3)
      have hpa := lst.y hpa e2 n6
      have hpl := lst.y hpl e2 n8
      have hpx : ∃ xs, H2 pe = some (.lst xs) := hpx.imp fun xs h => lst.y h e2 n4
      have e2 : Ext T [t, pe, pa] H H2 := e1.trans (e2.wide (by simp))
      clear e1 T1
      walk_at "rd"
      refine rd_ite (fun c2 => ?_) (fun c2 => ?_)
      · walk_at "rd"
        refine rd_make ?_
        walk_at "rd"
        refine rd_meth ?_
        obtain ⟨dx, hp⟩ := hH.1
        walk_at "rd"
        refine ⟨p', dx, _, rfl, hp, hF_no _ _ _ (by decide +kernel) (by decide +kernel) (by decide +kernel), ?_⟩
        walk_at "rd"
        have hc1l := hF.1
        have hG := hR.hist.good.take c1
        have hok : ∀ e ∈ R.take c1, EntOk e := fun e he => by
          obtain ⟨i, hi⟩ := List.getElem?_of_mem he
          exact (hG i e hi).1
        have hcl : (R.take c1).length = c1 := hR.len_take (by omega)
        refine ⟨p', va, n, pe', tb, R.take c1, rfl, hH, by omega, hok, fun H3 e3 => ?_⟩
        have hva := hH.2.1.x e3
        have hpa := lst.x hpa e3
        have hpl := lst.x hpl e3
        have hpx : ∃ xs, H3 pe = some (.lst xs) := hpx.imp fun xs h => lst.x h e3
        have T3 := T2.ext e3
        have x3 : Ext T [t, pe, pa] H H3 := e2.trans e3.any
        clear hH hp e2 T2 e3
        walk_at "rd"
        refine ⟨l, t, R.take c1, μ, rfl, T3, hG, by omega, fun z tl c3 H4 hz htl2 hc3 hlow hzl e4 T4 => ?_⟩
        have hva := hva.y e4 T3
        have hpa := lst.y hpa e4 n6
        have hpl := lst.y hpl e4 n8
        have hpx : ∃ xs, H4 pe = some (.lst xs) := hpx.imp fun xs h => lst.y h e4 n4
        have x4 : Ext T [t, pe, pa] H H4 := x3.trans (e4.wide (by simp))
        clear x3 T3 e4
        rw [hcl] at hc3
        have etk : (R.take c1).take c3 = R.take c3 := by rw [List.take_take, Nat.min_eq_left hc3]
        rw [etk] at hz
        have hG3 := hR.hist.good.take c3
        have hrd : rdL (linesL (sg z)) [] 1 = .ok (R.take c3) := by
          rw [hz, lines_nls hG3.free htl2]
          exact rdL_one hG3
        walk_at "rd"
        intro p2 dx2 np ndx hne
        have ex := ext_made (T := T) H4 (o1 := .own p2) (o2 := .ins C dx2 []) np ndx
        refine ⟨p2, dx2, va, n, z, tb, R.take c3, rfl, upd_same, hva.x ex, htb, htl, hzl, hrd, by rw [hR.len_take (by omega)]; omega, hR.fol c3, fun H5 pe2 hH2 e5 npe2 => ⟨rfl, ?_⟩⟩
        have npe3 := Ext.back0 ex npe2
        have x45 := ex.trans e5
        have npe4 : Nw H pe2 := Ext.back x4 (by
          simp only [List.mem_cons, List.not_mem_nil, or_false]
          rintro (z | z | z)
          · exact (T4.ne npe3).1 z
          · obtain ⟨xs, hxs⟩ := hpx
            exact (npe3.lst hxs) z.symm
          · exact (npe3.lst hpa) z.symm) npe3
        refine ⟨p2, pe2, c3, (c1 + 1) / 2, _, rfl, x4.trans x45.any, .inr npe4, T4.ext x45, hpx.imp fun xs h => lst.x h x45, hH2, lst.x hpa x45, lst.x hpl x45, ⟨by omega, fun i hi hm => ?_, fun i hi => (hF.2 i (by omega)).mp (by omega)⟩, ⟨by omega, by omega, (askOf hRl hF).2.2⟩⟩
        have hi1 : i < c1 := (hF.2 i hi).mpr (by omega)
        have hg : R[i]? = some R[i] := List.getElem?_eq_getElem hi
        refine hlow i R[i] ?_ (by rw [← mAt_of hg]; exact hm)
        rw [List.getElem?_take, if_pos hi1]
        exact hg
      · walk_at "rd"
        exact ⟨p', pe', c1, (c1 + 1) / 2, _, rfl, e2, hpe, T2, hpx, hH, hpa, hpl, midOf hF, askOf hRl hF⟩
    · obtain ⟨p', pe', c, a, x8, rfl, eH, hpe, TH, hpx, hH, hpa, hpl, hM, hA⟩ := h
      walk_at "rdn"
      refine rd_seq ?_
      walk_at "rdn"
      refine act eH hpe TH hpx hH hpa hpl hM hA fun H1 c1 e1 T1 hpx hH hpa hpl hF => ?_
      walk_at "rd"
      exact q p' pe' c1 H1 hH hpa hpl hF T1 e1 hpe
end

open PySem PySem.Spec PyProof.Rows L2
open PySem.W (EachIs dataLe dataLt sort_maps)
def inLe (a b : Int) : Bool := !decide (b < a)
theorem inLe_data (a b : Int) : inLe a b = dataLe false id (.int a) (.int b) := by
  rw [PySem.W.dataLe_eq]
  show _ = !dataLt (.int b) (.int a)
  rw [PySem.W.dataLt_int]
  rfl
def srtI (l : List Int) : List Int := l.mergeSort inLe
theorem srtI_eq (l : List Int) : srtD (l.map .int) = (srtI l).map .int := (sort_maps PyData.int fun a _ b _ => inLe_data a b).symm
theorem srtI_mem {l : List Int} {x : Int} : x ∈ srtI l ↔ x ∈ l := (List.mergeSort_perm l inLe).mem_iff
theorem srtI_len (l : List Int) : (srtI l).length = l.length := (List.mergeSort_perm l inLe).length_eq
theorem srtI_mono {l : List Int} {i j : Nat} {a b : Int} (hij : i ≤ j) (ha : (srtI l)[i]? = some a) (hb : (srtI l)[j]? = some b) : a ≤ b := by
  by_cases e : i = j
  · subst e
    rw [ha] at hb
    exact Int.le_of_eq (Option.some.inj hb)
  · have hp : (srtI l).Pairwise (fun a b => inLe a b = true) := List.pairwise_mergeSort (fun a b c h1 h2 => by
      unfold inLe at *
      simp only [Bool.not_eq_true', decide_eq_false_iff_not] at *
      omega) (fun a b => by
      unfold inLe
      simp only [Bool.or_eq_true, Bool.not_eq_true', decide_eq_false_iff_not]
      omega) l
    obtain ⟨hi, ea⟩ := List.getElem?_eq_some_iff.mp ha
    obtain ⟨hj, eb⟩ := List.getElem?_eq_some_iff.mp hb
    have := List.pairwise_iff_getElem.mp hp i j hi hj (by omega)
    rw [ea, eb] at this
    unfold inLe at this
    simp only [Bool.not_eq_true', decide_eq_false_iff_not] at this
    omega
/-- the entries that stand are those whose moment was among the first j -/
def Proc (R : List Ent) (M : List Int) (j c : Nat) : Prop := c ≤ R.length ∧ ∀ i, i < R.length → (i < c ↔ ∃ k, k < j ∧ M[k]? = some (mAt R i : Int))
theorem Proc.zero (R : List Ent) (M : List Int) : Proc R M 0 0 := ⟨Nat.zero_le _, fun i _ => ⟨fun h => absurd h (Nat.not_lt_zero _), fun ⟨_, h, _⟩ => absurd h (Nat.not_lt_zero _)⟩⟩
theorem Proc.mid {R : List Ent} {ms : List Int} {j c μ : Nat} (h : Proc R (srtI ms) j c) (hm : ∀ i, i < R.length → (mAt R i : Int) ∈ ms) (hj : (srtI ms)[j]? = some (μ : Int)) : MidR R μ c := by
  refine ⟨h.1, fun i hi hlt => (h.2 i hi).mpr ?_, fun i hi => ?_⟩
  · obtain ⟨k, hk⟩ := List.getElem?_of_mem (srtI_mem.mpr (hm i hi))
    refine ⟨k, Classical.byContradiction fun z => ?_, hk⟩
    have := srtI_mono (by omega) hj hk
    omega
  · obtain ⟨k, hk, e⟩ := (h.2 i (by have := h.1; omega)).mp hi
    have := srtI_mono (by omega) e hj
    omega
theorem Proc.next {R : List Ent} {ms : List Int} {j c μ : Nat} (h : Fi R μ c) (hm : ∀ i, i < R.length → (mAt R i : Int) ∈ ms) (hj : (srtI ms)[j]? = some (μ : Int)) : Proc R (srtI ms) (j + 1) c := by
  refine ⟨h.1, fun i hi => ⟨fun hc => ?_, fun ⟨k, hk, e⟩ => ?_⟩⟩
  · have hle := (h.2 i hi).mp hc
    obtain ⟨k, hk⟩ := List.getElem?_of_mem (srtI_mem.mpr (hm i hi))
    by_cases hkj : k < j + 1
    · exact ⟨k, hkj, hk⟩
    · have := srtI_mono (i := j) (j := k) (by omega) hj hk
      have e : (mAt R i : Int) = (μ : Int) := by omega
      exact ⟨j, Nat.lt_succ_self j, by rw [e]; exact hj⟩
  · have := srtI_mono (i := k) (j := j) (by omega) e hj
    exact (h.2 i hi).mpr (by omega)
theorem Proc.last {R : List Ent} {ms : List Int} {c : Nat} (h : Proc R (srtI ms) (srtI ms).length c) (hm : ∀ i, i < R.length → (mAt R i : Int) ∈ ms) : c = R.length := by
  refine Classical.byContradiction fun z => ?_
  have hc : c < R.length := by have := h.1; omega
  obtain ⟨k, hk⟩ := List.getElem?_of_mem (srtI_mem.mpr (hm c hc))
  exact absurd ((h.2 c hc).mpr ⟨k, (List.getElem?_eq_some_iff.mp hk).1, hk⟩) (Nat.lt_irrefl c)
theorem askMid {R : List Ent} {n μ c : Nat} (hl : R.length = 2 * n) (h : MidR R μ c) : AskOk R n μ c ((c + 1) / 2) := by
  have := h.1
  exact ⟨Nat.le_refl _, by omega, fun j hj => h.2.2 (2 * j) (by omega)⟩
theorem ints_ofB {lo hi : Int} : ∀ {vs : List V}, (∀ v ∈ vs, ∃ d : Int, v = .int d ∧ lo ≤ d ∧ d ≤ hi) → ∃ ds : List Int, vs = ds.map V.int ∧ ∀ d ∈ ds, lo ≤ d ∧ d ≤ hi
  | [], _ => ⟨[], rfl, fun _ h => nomatch h⟩
  | v :: r, h => by
    obtain ⟨ds, e, hd⟩ := ints_ofB (vs := r) fun x hx => h x (List.mem_cons_of_mem _ hx)
    obtain ⟨d, e1, h1⟩ := h v List.mem_cons_self
    refine ⟨d :: ds, by rw [e, e1]; rfl, fun x hx => ?_⟩
    rcases List.mem_cons.mp hx with z | hx
    · rw [z]
      exact h1
    · exact hd x hx
def askL (es : List Ent) : List Int := (es.filter fun e => decide (e.1 = askedS)).map fun e => (e.2.2 : Int)
theorem askL_app (a b : List Ent) : askL (a ++ b) = askL a ++ askL b := by
  unfold askL
  rw [List.filter_append, List.map_append]
theorem RunK.asks {tb : List Rw} {ds : List Int} {n : Nat} {R : List Ent} (h : RunK tb ds n R) : ∀ k, k ≤ n → askL (R.take (2 * k)) = aT R k
  | 0, _ => rfl
  | k + 1, hk => by
    have ih := h.asks k (by omega)
    have e1 := h.tk (c := 2 * k) (by omega)
    have e2 := h.tk (c := 2 * k + 1) (by omega)
    rw [if_pos (by omega)] at e1
    rw [if_neg (by omega)] at e2
    rw [show 2 * (k + 1) = 2 * k + 1 + 1 by omega, e2, e1, askL_app, askL_app, ih, aT_succ]
    have a1 : askL [((askedS, 2 * k / 2 + 1, mAt R (2 * k)) : Ent)] = [(mAt R (2 * k) : Int)] := by
      unfold askL
      rw [List.filter_cons, if_pos (by show decide (askedS = askedS) = true; decide)]
      rfl
    have a2 : askL [((doneS, (2 * k + 1) / 2 + 1, mAt R (2 * k + 1)) : Ent)] = [] := by
      unfold askL
      rw [List.filter_cons, if_neg (by show ¬ decide (doneS = askedS) = true; decide)]
      rfl
    rw [a1, a2, List.append_nil]
theorem RunK.asksAll {tb : List Rw} {ds : List Int} {n : Nat} {R : List Ent} (h : RunK tb ds n R) : askL R = aT R n := by
  have := h.asks n (Nat.le_refl n)
  have hl := h.hist.len
  rw [← hl, List.take_length] at this
  exact this
theorem dep_lints (t : List Int) : PyData.depth (.list (t.map PyData.int)) ≤ 64 := by
  show PyData.depthAll (t.map PyData.int) + 1 ≤ 64
  rw [dep_ints2]
  decide
theorem lsI {H : Hp} {a : Addr} {ds : List Int} (h : H a = some (.lst (ds.map V.int))) : Ls H a (ds.map PyData.int) := ⟨_, h, imAll_int ds⟩
theorem int_im {H : Hp} {ys : List V} {ds : List Int} (h : ImAll H ys (ds.map PyData.int)) : ys = ds.map V.int := by
  induction ds generalizing ys with
  | nil =>
    cases h
    rfl
  | cons d ds ih =>
    cases h with
    | cons a b =>
      cases a
      rw [ih b]
      rfl
theorem mem_ints {x : Int} {ds : List Int} : PyData.int x ∈ ds.map PyData.int ↔ decide (x ∈ ds) = true := by
  rw [decide_eq_true_eq, List.mem_map]
  exact ⟨fun ⟨y, hy, e⟩ => PyData.int.inj e ▸ hy, fun h => ⟨x, h, rfl⟩⟩

open PySem PySem.Spec PyProof.Rows L2
open PySem.W (EachIs AllAlike Sortable)
section
variable {T : List (Addr × Str)} {P : Program} {w : World} {K : PySem.W.Frag} {mg : Str → Option Value} {base : Heap}
local macro_rules | `(tactic| walk_at "tr") => `(tactic| first
  | assumption
  | exact Ext.refl
  | ((with_reducible refine' Im.x (T := T) (H := ?trH) ?tra ?tre); (case tre => assumption); (case tra => walk_at "tr"))
  | ((with_reducible refine' Im.y (T := T) (H := ?trH) ?tra ?tre ?trt); (case tre => assumption); (case trt => walk_at "tr"); (case tra => walk_at "tr"))
  | ((with_reducible refine' ImAll.x (T := T) (H := ?trH) ?tra ?tre); (case tre => assumption); (case tra => walk_at "tr"))
  | ((with_reducible refine' ImAll.y (T := T) (H := ?trH) ?tra ?tre ?trt); (case tre => assumption); (case trt => walk_at "tr"); (case tra => walk_at "tr"))
  | ((with_reducible refine' Ls.x (T := T) (H := ?trH) ?tra ?tre); (case tre => assumption); (case tra => walk_at "tr"))
  | ((with_reducible refine' Ls.y (T := T) (H := ?trH) ?tra ?tre ?trn ?trt); (case tre => assumption); (case trt => walk_at "tr"); (case trn => walk_at "tr"); (case tra => walk_at "tr"))
  | ((with_reducible refine' SqP.x (T := T) (H := ?trH) ?tra ?tre); (case tre => assumption); (case tra => walk_at "tr"))
  | ((with_reducible refine' SqP.y (T := T) (H := ?trH) ?tra ?tre ?trt); (case tre => assumption); (case trt => walk_at "tr"); (case tra => walk_at "tr"))
  | ((with_reducible refine' StAt.x (T := T) (H := ?trH) ?tra ?tre); (case tre => assumption); (case tra => walk_at "tr"))
  | ((with_reducible refine' StAt.y (T := T) (H := ?trH) ?tra ?tre ?trt); (case tre => assumption); (case trt => walk_at "tr"); (case tra => walk_at "tr"))
  | ((with_reducible refine' Pools.ext0 (T := T) (H := ?trH) ?tra ?tre); (case tre => assumption); (case tra => walk_at "tr"))
  | ((with_reducible refine' Pools.ext (T := T) (H := ?trH) ?tra ?tre ?trt); (case tre => assumption); (case trt => walk_at "tr"); (case tra => walk_at "tr"))
  | ((with_reducible refine' CL.x (T := T) (H := ?trH) ?tra ?tre); (case tre => assumption); (case tra => walk_at "tr"))
  | ((with_reducible refine' CL.y (T := T) (H := ?trH) ?tra ?tre); (case tre => assumption); (case tra => walk_at "tr"))
  | ((with_reducible refine' Tape.ext (T := T) (H := ?trH) ?tra ?tre); (case tre => assumption); (case tra => walk_at "tr"))
  | ((with_reducible refine' lst.x (T := T) (H := ?trH) ?tra ?tre); (case tre => assumption); (case tra => walk_at "tr"))
  | ((with_reducible refine' lst.y (T := T) (H := ?trH) ?tra ?tre ?trn); (case tre => assumption); (case trn => walk_at "tr"); (case tra => walk_at "tr"))
  | ((with_reducible refine' tup.x (T := T) (H := ?trH) ?tra ?tre); (case tre => assumption); (case tra => walk_at "tr"))
  | ((with_reducible refine' tup.y (T := T) (H := ?trH) ?tra ?tre ?trt); (case tre => assumption); (case trt => walk_at "tr"); (case tra => walk_at "tr"))
  | ((with_reducible refine' frz.x (T := T) (H := ?trH) ?tra ?tre); (case tre => assumption); (case tra => walk_at "tr"))
  | ((with_reducible refine' frz.y (T := T) (H := ?trH) ?tra ?tre ?trt); (case tre => assumption); (case trt => walk_at "tr"); (case tra => walk_at "tr"))
  | ((with_reducible refine' Im.z (T := T) (H := ?trH) ?tra ?tre ?trt); (case tre => assumption); (case trt => assumption); (case tra => walk_at "tr"))
  | ((with_reducible refine' ImAll.z (T := T) (H := ?trH) ?tra ?tre ?trt); (case tre => assumption); (case trt => assumption); (case tra => walk_at "tr"))
  | ((with_reducible refine' StAt.z (T := T) (H := ?trH) ?tra ?tre ?trt); (case tre => assumption); (case trt => assumption); (case tra => walk_at "tr"))
  | ((with_reducible refine' SqP.z (T := T) (H := ?trH) ?tra ?tre ?trt); (case tre => assumption); (case trt => assumption); (case tra => walk_at "tr"))
  | ((with_reducible refine' tup.z (T := T) (H := ?trH) ?tra ?tre ?trt); (case tre => assumption); (case trt => assumption); (case tra => walk_at "tr"))
  | ((with_reducible refine' Ls.z (T := T) (H := ?trH) ?tra ?tre ?trt ?trn); (case tre => assumption); (case trt => assumption); (case trn => assumption); (case tra => walk_at "tr"))
  | ((with_reducible refine' lst.z (T := T) (H := ?trH) ?tra ?tre ?trn); (case tre => assumption); (case trn => assumption); (case tra => walk_at "tr"))
  | ((with_reducible refine' CL.z (T := T) (H := ?trH) ?tra ?tre ?trn); (case tre => assumption); (case trn => assumption); (case tra => walk_at "tr"))
  | ((with_reducible refine' Tape.ne1 (H := ?trH) ?trt ?trn); (case trn => assumption); (case trt => walk_at "tr"))
  | ((with_reducible refine' Ext.trans (H1 := ?trH) ?tra (Ext.any ?tre)); (case tre => assumption); (case tra => walk_at "tr"))
  | ((with_reducible refine' Ext.trans (H1 := ?trH) ?tra ?tre); (case tre => assumption); (case tra => walk_at "tr"))
  | ((with_reducible refine' Ext.back1 (T := T) (H1 := ?trH) ?tre ?trn ?tra); (case tra => assumption); (case trn => walk_at "tr"); (case tre => walk_at "tr"))
  | ((with_reducible refine' Ext.back0 (T := T) (H1 := ?trH) ?tre ?tra); (case tra => assumption); (case tre => walk_at "tr"))
  | ((with_reducible refine' SqT.of ?tra); (case tra => walk_at "tr"))
  | ((with_reducible refine' SqL.of ?tra); (case tra => walk_at "tr")))
local macro_rules | `(tactic| walk_at "al") => `(tactic| (refine ⟨by first | (show _ ≤ sizeLine; decide) | walk_at "sz", ?_⟩; intro alp aln; generalize alG : upd _ alp _ = alH; obtain ⟨aln2, alx, alh⟩ := al_of (T := T) aln alG; clear alG aln))
local macro_rules | `(tactic| walk_at "al0") => `(tactic| (intro alp aln; generalize alG : upd _ alp _ = alH; obtain ⟨aln2, alx, alh⟩ := al_of (T := T) aln alG; clear alG aln))

/-- what stands between two moments -/
structure WSt (H : Hp) (l t p C : Addr) (va : V) (n : Nat) (pe : Addr) (tb : List Rw) (pa pl pr pq : Addr) (ds : List Int) (R : List Ent) (M : List Int) (c : Nat) : Prop where
  tp : Tape l H t
  hd : HandAt H p C va n pe tb (R.take c)
  ha : H pa = some (.lst ((aT R ((c + 1) / 2)).map V.int))
  hl : H pl = some (.lst (ds.map V.int))
  hr : Ls H pr (R.map entD)
  hq : H pq = some (.lst (M.map V.int))
  n1 : pa ≠ pe ∧ pl ≠ pe
  n2 : pe ≠ t ∧ pe ≠ l
  n3 : pr ≠ pe ∧ pq ≠ pe
theorem Lsts.three {H : Hp} {p q r : Addr} (h1 : ∃ xs, H p = some (.lst xs)) (h2 : ∃ xs, H q = some (.lst xs)) (h3 : ∃ xs, H r = some (.lst xs)) : Lsts H [p, q, r] := fun b hb => by
  rcases List.mem_cons.mp hb with e | hb
  · rw [e]
    exact h1
  rcases List.mem_cons.mp hb with e | hb
  · rw [e]
    exact h2
  · rw [List.mem_singleton.mp hb]
    exact h3
theorem three_ne {p q r b : Addr} (h1 : b ≠ p) (h2 : b ≠ q) (h3 : b ≠ r) : b ∉ [p, q, r] := by
  simp only [List.mem_cons, List.not_mem_nil, or_false]
  rintro (z | z | z)
  · exact h1 z
  · exact h2 z
  · exact h3 z
theorem WSt.x {H H' : Hp} {l t p C : Addr} {va : V} {n : Nat} {pe : Addr} {tb : List Rw} {pa pl pr pq : Addr} {ds : List Int} {R : List Ent} {M : List Int} {c : Nat} (h : WSt H l t p C va n pe tb pa pl pr pq ds R M c) (e : Ext T [] H H') : WSt H' l t p C va n pe tb pa pl pr pq ds R M c :=
  ⟨h.tp.ext e, h.hd.x e, lst.x h.ha e, lst.x h.hl e, h.hr.x e, lst.x h.hq e, h.n1, h.n2, h.n3⟩
theorem WSt.turn {H H' : Hp} {l t p C : Addr} {va : V} {n : Nat} {pe : Addr} {tb : List Rw} {pa pl pr pq : Addr} {ds : List Int} {R : List Ent} {M : List Int} {c c' : Nat} {p' pe' : Addr} (h : WSt H l t p C va n pe tb pa pl pr pq ds R M c) (e : Ext T [t, pe, pa] H H') (hpe : pe' = pe ∨ Nw H pe') (T' : Tape l H' t) (hd : HandAt H' p' C va n pe' tb (R.take c'))
    (ha : H' pa = some (.lst ((aT R ((c' + 1) / 2)).map V.int))) (hl : H' pl = some (.lst (ds.map V.int))) (m1 : pr ≠ t ∧ pr ≠ pa) (m2 : pq ≠ t ∧ pq ≠ pa) : WSt H' l t p' C va n pe' tb pa pl pr pq ds R M c' := by
  obtain ⟨_, _, ⟨es, hes, _⟩⟩ := h.hd
  obtain ⟨rs, hrs, _⟩ := id h.hr
  have hL : Lsts H [t, pe, pa] := Lsts.three (h.tp.lsts t (by simp)) ⟨_, hes⟩ ⟨_, h.ha⟩
  refine ⟨T', hd, ha, hl, h.hr.ext e (three_ne m1.1 h.n3.1 m1.2) hL, e.lst (three_ne m2.1 h.n3.2 m2.2) h.hq, ?_, ?_, ?_⟩
  · rcases hpe with rfl | hp
    · exact h.n1
    · exact ⟨hp.lst h.ha, hp.lst h.hl⟩
  · rcases hpe with rfl | hp
    · exact h.n2
    · exact h.tp.ne hp
  · rcases hpe with rfl | hp
    · exact h.n3
    · exact ⟨hp.lst hrs, hp.lst h.hq⟩
theorem ImAll.intsI {H : Hp} (ds : List Int) : ImAll H (ds.map V.int) (ds.map PyData.int) := imAll_int ds
def spLaw (T : List (Addr × Str)) (K : PySem.W.Frag) : Sp := fun vs H Q _ => ∃ (a : Addr) (ns : List Int), vs = [.ref a] ∧ SqL K H a (ns.map V.int) ∧ ns.length ≤ 63 ∧ ∀ H', Q (.bl true) H'
theorem ok_law {C CN : Addr} {f : Addr} {fd : FuncData} (F : Fun K "law" "law" s_law f fd) (mb : ∀ x ∈ bltns, mg x = none)
    (G_law_tape : Ok P w K mg base 1 "_law_tape" ["script", "budget"] (spTape T K)) (G_law_take : Ok P w K mg base 2 "_law_take" ["tape", "many"] (spTake T)) (G_law_table : Ok P w K mg base 3 "_law_table" ["tape", "count"] (spTable2 T))
    (C_Hand : MkO P w K mg base 5 "Hand" C ["self", "table", "count", "text"] (spHand T C)) (M_book : MeO P w K mg base 2 C "book" ["self"] (spBook T C)) (M_next : MeO P w K mg base 3 C "next" ["self", "moment"] (sp0 (spNext T C CN)))
    (G_law_run : Ok P w K mg base 2 "_law_run" ["table", "delays"] (spLRun T)) (G_law_turn : Ok P w K mg base 7 "_law_turn" ["tape", "hand", "world", "delays", "moment"] (spTurn T C))
    (G_law_lines : Ok P w K mg base 1 "_law_lines" ["entries"] (spLines T)) : FnOk P w K mg base CX0 8 f fd ["script"] (spLaw T K) := by
  refine F.ok sc_law (fun vs H Q E h => ?_) (fun cdv A outer s H vs Q E hr h => ?_)
  · obtain ⟨a, ns, rfl, _⟩ := h
    rfl
  · obtain ⟨a, ns, rfl, ha, hl, q⟩ := h
    refine ⟨_, (pss_cons (ps_set (i := 1) sc_law.nd rfl (.inr rfl) (pe_callO G_law_tape (hr.mono (by decide)) (by rfl) (pa_cons (pv 0) (pa_cons pe_int pa_nil))))
   (pss_cons (ps_set (i := 2) sc_law.nd rfl (.inl rfl) (pe_op (op_plus K rfl) pe_int (pe_callO G_law_take (hr.mono (by decide)) (by rfl) (pa_cons (pv 1) (pa_cons pe_int pa_nil)))))
   (pss_cons (ps_set (i := 3) sc_law.nd rfl (.inl rfl) (pe_callO G_law_table (hr.mono (by decide)) (by rfl) (pa_cons (pv 1) (pa_cons (pv 2) pa_nil))))
   (pss_cons (ps_setLc (i := 4) (own := [("k", 13)]) (g := gName 13) (tt := tYes) rfl sc_law.nd rfl rfl (sw_true rfl rfl rfl (by decide +kernel)) (pi_range1 (by rfl) (mb _ (by decide)) (pa_cons (pv 2) pa_nil)) (blkOk_by (N := N_law) (sc := defScope s_law) (by decide +kernel)) (fun _ _ _ _ _ => (pg_name (i := 13) sc_law.nd rfl (Or.inl rfl))) (fun _ _ _ _ _ => pts_nil) (fun _ _ _ _ _ => (pe_callO G_law_take (hr.mono (by decide)) (by rfl) (pa_cons (pv 1) (pa_cons (pe_ix (ix_U K rfl) (pe_lst (pa_cons pe_int (pa_cons pe_int (pa_cons pe_int pa_nil)))) (pe_callO G_law_take (hr.mono (by decide)) (by rfl) (pa_cons (pv 1) (pa_cons pe_int pa_nil))) (fun _ _ => rfl)) pa_nil)))))
   (pss_cons (ps_set (i := 5) sc_law.nd rfl (.inl rfl) (pe_callO G_law_run (hr.mono (by decide)) (by rfl) (pa_cons (pv 3) (pa_cons (pv 4) pa_nil))))
   (pss_cons (ps_set (i := 6) sc_law.nd rfl (.inl rfl) (pe_makeO C_Hand (hr.mono (by decide)) (by rfl) (pa_cons (pv 3) (pa_cons (pv 2) (pa_cons pe_str pa_nil)))))
   (pss_cons (ps_set (i := 7) sc_law.nd rfl (.inl rfl) (pe_lst pa_nil))
   (pss_cons (ps_set (i := 8) sc_law.nd rfl (.inl rfl) (pe_lst pa_nil))
   (pss_cons (ps_for PassesOwn.never rfl (pi_seq K rfl (pv 5)) (pg_name (i := 9) sc_law.nd rfl (.inl rfl)) (pss_one (ps_for PassesOwn.never rfl (pi_seq K rfl (pe_tup (pa_cons (pe_op op_sub (pe_ix (ix_U K rfl) (pv 9) pe_int (fun _ _ => rfl)) pe_int) (pa_cons (pe_ix (ix_U K rfl) (pv 9) pe_int (fun _ _ => rfl)) (pa_cons (pe_op (op_plus K rfl) (pe_ix (ix_U K rfl) (pv 9) pe_int (fun _ _ => rfl)) pe_int) pa_nil))))) (pg_name (i := 10) sc_law.nd rfl (.inl rfl)) (pss_one (ps_if (PW.pt (pw_and (pt_cmpR op_ge (pv 10) pe_int (nomark _)) (pw_and1 (pt_cmpR (op_ninW K rfl (Room.units65 hr)) (pv 10) (pv 8) rfl)))) (pss_one (ps_expr (pe_bm PySem.F.plainAttrs_list PySem.F.slot_list_append PySem.F.type_list_append mt_append (pv 8) (pa_cons (pv 10) pa_nil)))) pss_nil)))))
   (pss_cons (ps_for PassesOwn.never rfl (pi_seq K rfl (pe_callB (call_sortedU K rfl hr.units) (by rfl) (mb _ (by decide)) (by decide +kernel) (pa_cons (pv 8) pa_nil))) (pg_name (i := 11) sc_law.nd rfl (.inl rfl)) (pss_one (ps_set (i := 6) sc_law.nd rfl (.inl rfl) (pe_callO G_law_turn (hr.mono (by decide)) (by rfl) (pa_cons (pv 1) (pa_cons (pv 6) (pa_cons (pe_tup (pa_cons (pv 3) (pa_cons (pv 2) (pa_cons (pv 7) pa_nil)))) (pa_cons (pv 4) (pa_cons (pv 11) pa_nil)))))))))
   (pss_cons (ps_if (pt_cmpR (op_neU K rfl hr.units) (pv 7) (pe_lc (own := [("entry", 9)]) (g := gName 9) rfl sc_law.nd (pi_seq K rfl (pv 5)) (blkOk_by (N := N_law) (sc := defScope s_law) (by decide +kernel)) (fun _ _ _ _ _ => (pg_name (i := 9) sc_law.nd rfl (Or.inl rfl))) (fun _ _ _ _ _ => (pts_one (pt_cmpR (op_eqU K rfl hr.units) (pe_ix (ix_U K rfl) (pv 9) pe_int (fun _ _ => rfl)) pe_str (nomark _)))) (fun _ _ _ _ _ => (pe_ix (ix_U K rfl) (pv 9) pe_int (fun _ _ => rfl)))) (nomark _)) (pss_one (ps_ret pe_bl)) pss_nil)
   (pss_cons (ps_set (i := 12) sc_law.nd rfl (.inl rfl) (pe_op (op_plus K rfl) (pe_ix (ix_U K rfl) (pe_ix (ix_U K rfl) (pv 5) (pe_un un_neg pe_int) (fun _ _ => rfl)) pe_int (fun _ _ => rfl)) pe_int))
   (pss_one (ps_ret (pe_and (pe_cmpR (op_eqU K rfl hr.units) (pe_methO0 M_book (hr.mono (by decide)) (pv 6)) (pe_callO G_law_lines (hr.mono (by decide)) (by rfl) (pa_cons (pv 5) pa_nil)) (nomark _)) (pe_one (pe_cmpR (op_eqU K rfl hr.units) (pe_methO M_next (hr.mono (by decide)) (pv 6) (pa_cons (pv 12) pa_nil)) (pe_tup (pa_cons pe_str pa_nil)) (nomark _)))))))))))))))))), ?_⟩
    walk_at "rdn"
    refine rd_seq ?_
    walk_at "rdn"
    refine ⟨a, ns, 0, rfl, ha, hl, fun t l H1 nt e1 T1 => ?_⟩
    walk_at "rdn"
    refine rd_seq ?_
    walk_at "rdn"
    refine ⟨l, t, 6, rfl, by decide, by decide, T1, fun c H2 hc0 hc1 e2 T2 => ?_⟩
    obtain ⟨c, rfl⟩ := Int.eq_ofNat_of_zero_le hc0
    have en : (1 : Int) + (c : Int) = ((c + 1 : Nat) : Int) := by omega
    walk_at "rdn"
    rw [en]
    have hn6 : c + 1 ≤ 6 := by omega
    have hn1 : 1 ≤ c + 1 := by omega
    generalize c + 1 = n at hn6 hn1 ⊢
    clear en hc0 hc1
    refine rd_seq ?_
    walk_at "rdn"
    refine ⟨l, t, n, rfl, hn6, T2, fun va tb H3 htb htw htl hva e3 T3 => ?_⟩
    have htlt : TbLt tb := fun r hr => (htb r hr).1
    have htl : tb.length ≤ 100 := by omega
    clear e1 e2 e3 T1 T2 nt
    walk_at "rdn"
    refine rd_seq ?_
    walk_at "rd"
    refine ⟨by omega, by omega, ?_⟩
    rw [Int.toNat_natCast]
    refine lcg_range_tape T T3 (fun v => ∃ d : Int, v = .int d ∧ 0 ≤ d ∧ d ≤ 59) (Nat.lt_of_le_of_lt hn6 (by decide)) (fun i H' hi e' T' Rk go => ?_) (fun pl H4 vs npl e4 T4 hpl hlen hall => ?_)
    · walk_at "rd"
      refine rd_pickL (l := l) rfl T' rfl (by decide) (by decide) fun c hc H5 e5 T5 => ?_
      have hc2 : ∃ m : Int, c = .int m ∧ 0 < m ∧ m ≤ 60 := by
        rcases List.mem_cons.mp hc with e | hc
        · exact ⟨1, e, by decide, by decide⟩
        rcases List.mem_cons.mp hc with e | hc
        · exact ⟨6, e, by decide, by decide⟩
        rcases List.mem_cons.mp hc with e | hc
        · exact ⟨60, e, by decide, by decide⟩
        cases hc
      obtain ⟨m, rfl, hm0, hm1⟩ := hc2
      walk_at "rd"
      refine ⟨l, t, m, rfl, by omega, by omega, T5, fun d H6 d0 d1 e6 T6 => ?_⟩
      exact go _ _ ⟨d, rfl, d0, by omega⟩ (e5.trans e6) T6
    · obtain ⟨ds, rfl, hds⟩ := ints_ofB hall
      rw [List.length_map] at hlen
      have hva := hva.y e4 T3
      obtain ⟨plt, pll⟩ := T3.ne npl
      clear hall npl e4 T3
      walk_at "rdn"
      refine rd_seq ?_
      walk_at "rdn"
      refine ⟨va, pl, tb, ds, rfl, hva, hpl, htlt, htw, htl, by omega, hds, fun pr R H5 npr e5 hLr hR => ?_⟩
      rw [hlen] at hR
      have hva := hva.x e5
      obtain ⟨prt, prl⟩ := T4.ne npr
      have plr : pl ≠ pr := npr.lst hpl
      have hpl := lst.x hpl e5
      have T5 := T4.ext e5
      clear T4 e5 npr
      have hRl := hR.hist.len
      walk_at "rdn"
      refine rd_seq ?_
      walk_at "rdn"
      refine rd_make ?_
      walk_at "rdn"
      intro p dx np ndx hne
      have ex := ext_made (T := T) H5 (o1 := .own p) (o2 := .ins C dx []) np ndx
      have z1 : rdL (linesL (sg (Str.ofString ""))) [] 1 = .ok [] := by
        rw [show linesL (sg (Str.ofString "")) = [] from by decide +kernel]
        rfl
      refine ⟨p, dx, va, n, Str.ofString "", tb, [], rfl, upd_same, hva.x ex, htlt, htl, by decide +kernel, z1, by decide, rfl, fun H6 pe hH e6 npe => ⟨rfl, ?_⟩⟩
      have x6 := ex.trans e6
      have npe := Ext.back0 ex npe
      obtain ⟨pet, pel⟩ := T5.ne npe
      have T6 := T5.ext x6
      have ple : pl ≠ pe := npe.lst hpl
      have hpl := lst.x hpl x6
      obtain ⟨xs, hxs, hxi⟩ := hLr
      have pre : pr ≠ pe := npe.lst hxs
      have hxs := lst.x hxs x6
      have hxi := hxi.x x6
      clear ex e6 x6 z1 np ndx hne npe hva T5
      walk_at "rdn"
      refine rd_seq ?_
      walk_at "rdn"
      refine ⟨by walk_at "sz", fun pa npa => ?_⟩
      have pae : pa ≠ pe := fun z => by
        obtain ⟨ys, hys, _⟩ := hH.2.2
        rw [← z, npa] at hys
        cases hys
      obtain ⟨npa, e7, hpa⟩ := alL (T := T) npa ([] : List V)
      obtain ⟨pat, pal⟩ := T6.ne npa
      have pla : pl ≠ pa := npa.lst hpl
      have pra : pr ≠ pa := npa.lst hxs
      have hH := hH.x e7
      have T7 := T6.ext e7
      have hpl := lst.x hpl e7
      have hxs := lst.x hxs e7
      have hxi := hxi.x e7
      clear npa T6
      generalize upd H6 pa _ = H7 at e7 hpa hH T7 hpl hxs hxi ⊢
      clear e7
      walk_at "rdn"
      refine rd_seq ?_
      walk_at "rdn"
      refine ⟨by walk_at "sz", fun pm npm => ?_⟩
      obtain ⟨npm, e8, hpm⟩ := alL (T := T) npm ([] : List V)
      have hxs8 := lst.x hxs e8
      generalize upd H7 pm _ = H8 at e8 hpm hxs8 ⊢
      have hxl : xs.length = 2 * n := by rw [hxi.len, List.length_map, hRl]
      walk_at "rdn"
      -- the moments
      refine rd_cut (fun σ' H' => ∃ (ms : List Int) (x9 x10 : Option V), σ' = [some (.ref a), some (.ref t), some (.int (n : Int)), some va, some (.ref pl), some (.ref pr), some (.ref p), some (.ref pa), some (.ref pm), x9, x10, none, none, none] ∧ Ext T [] H7 H' ∧ H' pm = some (.lst (ms.map V.int)) ∧ (∀ i, i < R.length → (mAt R i : Int) ∈ ms) ∧ (∀ x ∈ ms, 0 ≤ x ∧ x ≤ 3000) ∧ ms.length ≤ 36) (fun nx' hnx => ?_) (fun σ' H9 h => ?_)
      · walk_at "rd"
        refine forg_list (xs := xs) (fun i σ' H' => ∃ (ms : List Int) (x9 x10 : Option V), σ' = [some (.ref a), some (.ref t), some (.int (n : Int)), some va, some (.ref pl), some (.ref pr), some (.ref p), some (.ref pa), some (.ref pm), x9, x10, none, none, none] ∧ Ext T [] H7 H' ∧ H' pm = some (.lst (ms.map V.int)) ∧ (∀ j, j < i → (mAt R j : Int) ∈ ms) ∧ (∀ x ∈ ms, 0 ≤ x ∧ x ≤ 3000) ∧ ms.length ≤ 3 * i)
          ⟨[], _, _, rfl, e8, hpm, (fun j h => absurd h (Nat.not_lt_zero _)), (fun _ h => nomatch h), Nat.le_refl _⟩ (fun i σ' H' _ h => ?_) (fun i x σ' H' hx h => ?_) (fun σ' H' h => ?_)
        · obtain ⟨ms, x9, x10, rfl, eH, _⟩ := h
          exact SqL.of (lst.x hxs eH)
        · obtain ⟨ms, x9, x10, rfl, eH, hpm, hin, hbd, hml⟩ := h
          clear e8 hxs8
          obtain ⟨e, he, hxe⟩ := ent_getX hxi hx
          have hi : i < R.length := (List.getElem?_eq_some_iff.mp he).1
          have hmi := mAt_of he
          have hbnd := hR.bound hn6 (show i < 2 * n by omega)
          have hm1 := (good_pos hR.hist.good i e he).2
          rw [hmi] at hbnd
          obtain ⟨pu, rfl, hpu⟩ := (hxe.x eH).ent'
          refine rd_name ?_
          walk_at "rd"
          refine rd_ixT (i := 2) (SqP.t hpu) (v := .int (e.2.2 : Int)) rfl ?_
          walk_at "rd"
          refine rd_ixT (i := 2) (SqP.t hpu) (v := .int (e.2.2 : Int)) rfl ?_
          walk_at "rd"
          refine rd_ixT (i := 2) (SqP.t hpu) (v := .int (e.2.2 : Int)) rfl ?_
          walk_at "rd"
          refine ⟨by walk_at "sz", fun pz npz => ?_⟩
          obtain ⟨npz, eZ, hpz⟩ := alT (T := T) npz [V.int ((e.2.2 : Int) - 1), .int (e.2.2 : Int), .int ((e.2.2 : Int) + 1)]
          have hzm : pz ≠ pm := (npz.lst hpm).symm
          have hpm := lst.x hpm eZ
          have eH := eH.trans eZ
          generalize upd H' pz _ = HZ at eZ hpz hpm eH ⊢
          clear eZ npz hpu
          refine ⟨pz, rfl, rd_seqT (SqT.of hpz) ?_⟩
          refine forg_tup (xs := [V.int ((e.2.2 : Int) - 1), .int (e.2.2 : Int), .int ((e.2.2 : Int) + 1)]) (fun k σ' H' => ∃ (ms : List Int) (x10 : Option V), σ' = [some (.ref a), some (.ref t), some (.int (n : Int)), some va, some (.ref pl), some (.ref pr), some (.ref p), some (.ref pa), some (.ref pm), some (.ref pu), x10, none, none, none] ∧ Ext T [] H7 H' ∧ H' pm = some (.lst (ms.map V.int)) ∧ H' pz = some (.tup [V.int ((e.2.2 : Int) - 1), .int (e.2.2 : Int), .int ((e.2.2 : Int) + 1)]) ∧ (∀ j, j < i → (mAt R j : Int) ∈ ms) ∧ (∀ x ∈ ms, 0 ≤ x ∧ x ≤ 3000) ∧ ms.length ≤ 3 * i + k ∧ (2 ≤ k → (e.2.2 : Int) ∈ ms))
            ⟨ms, _, rfl, eH, hpm, hpz, hin, hbd, hml, fun z => absurd z (by decide)⟩ (fun k σ' H' _ h => ?_) (fun k x σ' H' hx h => ?_) (fun σ' H' h => ?_)
          · obtain ⟨ms, x10, rfl, eH, hpm, hpz, _⟩ := h
            exact SqT.of hpz
          · clear eH hpm hpz hin hbd hml
            obtain ⟨ms, x10, rfl, eH, hpm, hpz, hin, hbd, hml, h2⟩ := h
            have hy : ∃ y : Int, x = .int y ∧ 0 ≤ y ∧ y ≤ 3000 ∧ (k = 1 → y = (e.2.2 : Int)) ∧ k < 3 := by
              match k, hx with
              | 0, hx => exact ⟨_, (Option.some.inj hx).symm, by omega, by omega, fun z => absurd z (by decide), by decide⟩
              | 1, hx => exact ⟨_, (Option.some.inj hx).symm, by omega, by omega, fun _ => rfl, by decide⟩
              | 2, hx => exact ⟨_, (Option.some.inj hx).symm, by omega, by omega, fun z => absurd z (by decide), by decide⟩
              | k + 3, hx => cases hx
            obtain ⟨y, rfl, hy0, hy1, hyk, hk3⟩ := hy
            refine rd_name ?_
            have hml2 : (ms.map V.int).length ≤ 100 := by
              rw [List.length_map]
              omega
            walk_at "rd"
            refine rd_ite (fun c => ?_) (fun c => absurd hy0 (by omega))
            walk_at "rd"
            refine rd_ninWL (.int y) (lsI hpm) (by show 0 ≤ 64; decide) (dep_lints _) mem_ints ?_
            walk_at "rd"
            refine rd_iteN (fun c2 => ?_) (fun c2 => ?_)
            · walk_at "rd"
              refine ⟨ms ++ [y], _, rfl, eH.own npm hpm, by rw [upd_same, List.map_append]; rfl, by rw [upd_ne hzm]; exact hpz, fun j hj => List.mem_append_left _ (hin j hj), fun x hx => ?_, by rw [List.length_append]; show _ + 1 ≤ _; omega, fun z => ?_⟩
              · rcases List.mem_append.mp hx with hx | hx
                · exact hbd x hx
                · rw [List.mem_singleton.mp hx]
                  exact ⟨hy0, hy1⟩
              · by_cases hk : k = 1
                · rw [← hyk hk]
                  exact List.mem_append_right _ List.mem_cons_self
                · exact List.mem_append_left _ (h2 (by omega))
            · walk_at "rd"
              exact ⟨ms, _, rfl, eH, hpm, hpz, hin, hbd, by omega, fun z => by
                by_cases hk : k = 1
                · rw [← hyk hk]
                  exact c2
                · exact h2 (by omega)⟩
          · obtain ⟨ms, x10, rfl, eH, hpm, hpz, hin, hbd, hml, h2⟩ := h
            refine ⟨ms, _, _, rfl, eH, hpm, fun j hj => ?_, hbd, by have : ([V.int ((e.2.2 : Int) - 1), .int (e.2.2 : Int), .int ((e.2.2 : Int) + 1)] : List V).length = 3 := rfl; omega⟩
            by_cases hji : j = i
            · rw [hji, hmi]
              exact h2 (by show 2 ≤ 3; decide)
            · exact hin j (by omega)
        · obtain ⟨ms, x9, x10, rfl, eH, hpm, hin, hbd, hml⟩ := h
          walk_at "rd"
          exact hnx _ _ ⟨ms, _, _, rfl, eH, hpm, fun i hi => hin i (by omega), hbd, by omega⟩
      · obtain ⟨ms, x9, x10, rfl, eM, hpm9, hms, hbd, hml⟩ := h
        have hH := hH.x eM
        have hpl := lst.x hpl eM
        have hpa := lst.x hpa eM
        have hxs := lst.x hxs eM
        have hxi := hxi.x eM
        have T9 := T7.ext eM
        clear eM T7 e8 hpm hxs8
        have hbound : ∀ x ∈ srtI ms, 0 ≤ x ∧ x ≤ 3000 := fun x hx => hbd x (srtI_mem.mp hx)
        have hsl : (srtI ms).length ≤ 36 := by
          rw [srtI_len]
          exact hml
        walk_at "rdn"
        refine rd_cut (fun σ' H' => ∃ (p pe pq : Addr) (x9 x10 x11 : Option V), σ' = [some (.ref a), some (.ref t), some (.int (n : Int)), some va, some (.ref pl), some (.ref pr), some (.ref p), some (.ref pa), some (.ref pm), x9, x10, x11, none, none] ∧ WSt H' l t p C va n pe tb pa pl pr pq ds R (srtI ms) (2 * n)) (fun nx' hnx => ?_) (fun σ' HB h => ?_)
        · walk_at "rd"
          refine rd_sortA (T := T) (lsI hpm9) (fun d hd d' hd' => ?_) (.inr fun d hd => ?_) (fun d hd => ?_) fun pq HA ys npq eA hpq hys => ?_
          · obtain ⟨_, _, rfl⟩ := List.mem_map.mp hd
            obtain ⟨_, _, rfl⟩ := List.mem_map.mp hd'
            rfl
          · obtain ⟨_, _, rfl⟩ := List.mem_map.mp hd
            exact ⟨fun z => (nomatch z), fun _ z => (nomatch z)⟩
          · obtain ⟨_, _, rfl⟩ := List.mem_map.mp hd
            show 0 ≤ 60
            decide
          rw [srtI_eq] at hys
          have hys := int_im hys
          subst hys
          obtain ⟨qt, ql⟩ := T9.ne npq
          have qa : pq ≠ pa := (npq.lst hpa).symm
          have qe : pq ≠ pe := by
            obtain ⟨_, _, ⟨es, hes, _⟩⟩ := hH
            exact (npq.lst hes).symm
          have W0 : WSt HA l t p C va n pe tb pa pl pr pq ds R (srtI ms) 0 := ⟨T9.ext eA, hH.x eA, lst.x hpa eA, lst.x hpl eA, ⟨xs, lst.x hxs eA, hxi.x eA⟩, hpq, ⟨pae, ple⟩, ⟨pet, pel⟩, ⟨pre, qe⟩⟩
          clear hH hpl hpa hxs hxi T9 hpm9 eA npq
          walk_at "rd"
          refine forg_list (xs := (srtI ms).map V.int) (fun j σ' H' => ∃ (p pe : Addr) (c : Nat) (x11 : Option V), σ' = [some (.ref a), some (.ref t), some (.int (n : Int)), some va, some (.ref pl), some (.ref pr), some (.ref p), some (.ref pa), some (.ref pm), x9, x10, x11, none, none] ∧ WSt H' l t p C va n pe tb pa pl pr pq ds R (srtI ms) c ∧ Proc R (srtI ms) j c)
            ⟨p, pe, 0, _, rfl, W0, .zero _ _⟩ (fun i σ' H' _ h => ?_) (fun j x σ' H' hx h => ?_) (fun σ' H' h => ?_)
          · obtain ⟨p, pe, c, x11, rfl, W, _⟩ := h
            exact SqL.of W.hq
          · clear W0
            obtain ⟨p, pe, c, x11, rfl, W, hP⟩ := h
            rw [List.getElem?_map] at hx
            obtain ⟨y, hy, rfl⟩ := Option.map_eq_some_iff.mp hx
            obtain ⟨hy0, hy1⟩ := hbound y (List.mem_of_getElem? hy)
            obtain ⟨μ, rfl⟩ := Int.eq_ofNat_of_zero_le hy0
            have hMid := hP.mid hms hy
            refine rd_name ?_
            walk_at "rd"
            refine ⟨by walk_at "sz", fun pw npw => ?_⟩
            obtain ⟨npw, eW, hpw⟩ := alT (T := T) npw [va, .int (n : Int), .ref pa]
            have W := W.x eW
            generalize upd H' pw _ = HW at eW hpw W ⊢
            clear eW npw
            walk_at "rd"
            refine ⟨l, t, p, va, n, pe, tb, pw, pa, pl, ds, R, μ, c, (c + 1) / 2, rfl, hpw, W.tp, W.hd, W.ha, W.hl, ⟨W.n1.1, W.n1.2, pla⟩, ⟨W.n2.1, W.n2.2, pat, pal, plt⟩, hR, hlen, hn6, htlt, htl, hMid, askMid hRl hMid, by omega, fun p' pe' c' H2 hd2 ha2 hl2 hF T2 e2 hpe2 => ?_⟩
            walk_at "rd"
            exact ⟨p', pe', c', _, rfl, W.turn e2 hpe2 T2 hd2 ha2 hl2 ⟨prt, pra⟩ ⟨qt, qa⟩, Proc.next hF hms hy⟩
          · obtain ⟨p, pe, c, x11, rfl, W, hP⟩ := h
            rw [List.length_map] at hP
            have ec := hP.last hms
            rw [hRl] at ec
            subst ec
            walk_at "rd"
            exact hnx _ _ ⟨p, pe, pq, _, _, _, rfl, W⟩
        · clear hH hpl hpa hxs hxi T9 hpm9 pet pel ple pre pae
          obtain ⟨p, pe, pq, y9, y10, y11, rfl, W⟩ := h
          have hTk : R.take (2 * n) = R := by rw [← hRl, List.take_length]
          obtain ⟨rs, hrs, hri⟩ := W.hr
          have hrl : rs.length = R.length := by rw [hri.len, List.length_map]
          have ean : (2 * n + 1) / 2 = n := by omega
          walk_at "rdn"
          refine rd_cut (fun σ' H' => (∃ y9', σ' = [some (.ref a), some (.ref t), some (.int (n : Int)), some va, some (.ref pl), some (.ref pr), some (.ref p), some (.ref pa), some (.ref pm), y9', y10, y11, none, none]) ∧ Ext T [] HB H') (fun nx' hnx => ?_) (fun σ' HC h => ?_)
          · walk_at "rd"
            refine lcg_rel T [] walk_list rs rfl (fun i H x H' y => y) (by simp) (fun H' e => SqL.of (lst.x hrs e)) (Nat.lt_of_le_of_lt (show rs.length ≤ 12 by omega) (by decide)) (pIm HB entD fun e => decide (e.1 = askedS)) (fun y x => ∃ e, Im HB x (entD e) ∧ y = V.int (e.2.2 : Int)) (fun i x hx H' e' R' S' h1 h2 => ?_) (fun D H2 ys nD e2 hD hys => ?_)
            · obtain ⟨e, he, hxe⟩ := ent_getX hri hx
              have hpe := pIm_eq (c := fun e : Ent => decide (e.1 = askedS)) (fun a b => ent_injX a b) hxe
              obtain ⟨r, rfl, hr⟩ := (hxe.x e').ent'
              have ed : decide (e.1 = Str.ofString "asked") = decide (e.1 = askedS) := rfl
              refine rd_name ⟨rfl, ?_⟩
              walk_at "rd"
              refine rd_ixT (i := 0) (SqP.t hr) (v := .str e.1) rfl ?_
              walk_at "rd"
              rw [ed]
              refine rd_ite (fun c => ?_) (fun c => ?_)
              · walk_at "rd"
                refine rd_ixT (i := 2) (SqP.t hr) (v := .int (e.2.2 : Int)) rfl ?_
                exact h1 (by rw [hpe]; exact decide_eq_true c) _ _ .refl ⟨e, hxe, rfl⟩
              · exact h2 (by rw [hpe]; exact decide_eq_false c) _ .refl
            · have h3 := each_filter (c := fun e : Ent => decide (e.1 = askedS)) (fun a b => ent_injX a b) hri
              have key : ∀ {zs : List V} {as : List Ent}, EachIs (fun x a => Im HB x (entD a)) zs as → ImAll HB zs (as.map entD) := by
                intro zs as h
                induction h with
                | nil => exact .nil
                | cons a _ ih => exact .cons a ih
              have hys := eachs_of ent_injX hys (key h3)
              have hD : H2 D = some (.lst ((aT R n).map V.int)) := by
                rw [hD, hys, ← hR.asksAll]
                unfold askL
                rw [List.map_map]
                rfl
              have hha := lst.x W.ha e2
              rw [ean] at hha
              walk_at "rd"
              refine rd_neLs2 (lsI hha) (lsI hD) (dep_lints _) ?_
              walk_at "rd"
              exact hnx _ _ ⟨⟨_, rfl⟩, e2⟩
          · obtain ⟨⟨y9', rfl⟩, eC⟩ := h
            have W := W.x eC
            have hrs := lst.x hrs eC
            have hri := hri.x eC
            clear eC
            have hRne : R ≠ [] := fun z => by
              rw [z] at hRl
              have : (0 : Nat) = 2 * n := hRl
              omega
            obtain ⟨e, r, hl1, hl2, hl3⟩ := ent_last hri hRne
            have hLM := lastM_of hl1
            have hG := hR.hist.good
            have hok : ∀ e ∈ R, EntOk e := fun e he => by
              obtain ⟨i, hi⟩ := List.getElem?_of_mem he
              exact (hG i e hi).1
            walk_at "rdn"
            refine rd_seq ?_
            walk_at "rd"
            refine rd_ixL (SqL.of hrs) hl2 ?_
            walk_at "rd"
            refine rd_ixT (i := 2) (SqP.t hl3) (v := .int (e.2.2 : Int)) rfl ?_
            obtain ⟨dx, hp⟩ := W.hd.1
            have hHd := W.hd
            rw [hTk] at hHd
            walk_at "rd"
            refine rd_meth ?_
            walk_at "rd"
            refine ⟨p, dx, _, rfl, hp, hF_no _ _ _ (by decide +kernel) (by decide +kernel) (by decide +kernel), ?_⟩
            walk_at "rd"
            refine ⟨p, va, n, pe, tb, R, rfl, hHd, by omega, hok, fun HD eD => ?_⟩
            have hHd := hHd.x eD
            have hLr2 : Ls HD pr (R.map entD) := W.hr.x eD
            walk_at "rd"
            refine ⟨pr, R, rfl, hLr2, by omega, hok, fun HE eE => ?_⟩
            have hHd := hHd.x eE
            walk_at "rd"
            rw [decide_eq_true rfl]
            obtain ⟨dx2, hp2⟩ := hHd.1
            walk_at "rd"
            refine rd_meth ?_
            walk_at "rd"
            refine ⟨p, dx2, _, rfl, hp2, hF_no _ _ _ (by decide +kernel) (by decide +kernel) (by decide +kernel), ?_⟩
            walk_at "rd"
            have em : (e.2.2 : Int) + 1 = ((e.2.2 + 1 : Nat) : Int) := by omega
            rw [em]
            obtain ⟨hNE, _⟩ := hR.nextEnd (e.2.2 + 1)
            rw [hTk] at hNE
            refine ⟨p, va, n, pe, tb, R, e.2.2 + 1, rfl, hHd, htlt, htl, by omega, fun _ v HF eF hv _ => ?_, fun z => absurd z (by omega)⟩
            rw [hNE] at hv
            walk_at "rd"
            refine ⟨by walk_at "sz", fun pq2 npq2 => ?_⟩
            obtain ⟨npq2, eG, hpq2⟩ := alT (T := T) npq2 [V.str (Str.ofString "end")]
            have hv := hv.x eG
            generalize upd HF pq2 _ = HG at eG hpq2 hv ⊢
            refine rd_eqI (b := true) hv (.tup hpq2 (.cons (.str _ (by decide +kernel)) .nil)) (by decide) (by decide) (by simp) ?_
            exact q _
end

open PySem PySem.Spec PyProof.Rows L2
abbrev parts_NotAllowed : List Expr := [.Constant (.str "not allowed: ") 0 ⟨12, 27, 12, 40⟩, .FormattedValue (.Name "word" ⟨12, 41, 12, 45⟩) (-1) none ⟨12, 40, 12, 46⟩]
abbrev ps_NotAllowed : List Pos := [⟨12, 8, 12, 13⟩, ⟨12, 8, 12, 15⟩, ⟨12, 8, 12, 24⟩, ⟨12, 25, 12, 47⟩, ⟨12, 8, 12, 48⟩, ⟨12, 8, 12, 48⟩]
abbrev parts_BadText : List Expr := [.Constant (.str "line ") 0 ⟨7, 27, 7, 32⟩, .FormattedValue (.Name "line" ⟨7, 33, 7, 37⟩) (-1) none ⟨7, 32, 7, 38⟩, .Constant (.str " is wrong") 0 ⟨7, 38, 7, 47⟩]
abbrev ps_BadText : List Pos := [⟨7, 8, 7, 13⟩, ⟨7, 8, 7, 15⟩, ⟨7, 8, 7, 24⟩, ⟨7, 25, 7, 48⟩, ⟨7, 8, 7, 49⟩, ⟨7, 8, 7, 49⟩]
theorem all_mk {l : PySem.W.OpenLaw} {w : World} {K : PySem.W.Frag} {h : Heap} {mg : Str → Option Value} {fa CN C_NotAllowed I_NotAllowed C_BadText I_BadText CH : Addr} (X : K.In h) (G : h.Ns mainGlobals mg) (hfa : mg "law" = some (.ref fa))
    (d1 : DefIn K "is_word" s_is_word) (d2 : DefIn K "is_number" s_is_number) (d3 : DefIn K "entry_line" s_entry_line) (d4 : DefIn K "is_entry" s_is_entry) (d5 : DefIn K "read_book" s_read_book) (d6 : DefIn K "ask_moment" s_ask_moment) (d7 : DefIn K "follows_table" s_follows_table) (d8 : DefIn K "_law_mix" s_law_mix) (d9 : DefIn K "_law_tape" s_law_tape) (d10 : DefIn K "_law_take" s_law_take) (d11 : DefIn K "_law_table" s_law_table) (d12 : DefIn K "_law_first" s_law_first) (d13 : DefIn K "_law_lines" s_law_lines) (d14 : DefIn K "_law_run" s_law_run) (d15 : DefIn K "_law_drop" s_law_drop) (d16 : DefIn K "_law_act" s_law_act) (d17 : DefIn K "_law_turn" s_law_turn) (d18 : DefIn K "law" s_law)
    (c_NotAllowed : ClsIn l.prog K "NotAllowed" "word" C_NotAllowed I_NotAllowed CN) (i_NotAllowed : InitIn l.prog K "word" C_NotAllowed I_NotAllowed parts_NotAllowed ps_NotAllowed ⟨11, 17, 11, 21⟩ ⟨11, 23, 11, 27⟩ ⟨13, 8, 13, 12⟩ ⟨13, 8, 13, 17⟩ ⟨13, 20, 13, 24⟩ ⟨13, 8, 13, 24⟩ "NotAllowed.__init__")
    (c_BadText : ClsIn l.prog K "BadText" "line" C_BadText I_BadText CN) (i_BadText : InitIn l.prog K "line" C_BadText I_BadText parts_BadText ps_BadText ⟨6, 17, 6, 21⟩ ⟨6, 23, 6, 27⟩ ⟨8, 8, 8, 12⟩ ⟨8, 8, 8, 17⟩ ⟨8, 20, 8, 24⟩ ⟨8, 8, 8, 24⟩ "BadText.__init__")
    (tp : (l.prog.main.scope.names.lookup ("super" : Str)).isSome = false)
    (aH : PySem.W.nsIn K mainGlobals "Hand" = some (some (.ref CH)))
    (pg : PySem.W.plainGet K CH Str.empty = true)
    (hd : PySem.W.hasDictIn K CH = true)
    (po : PySem.W.plainOver K CH = true)
    (sa : PySem.W.findIn K (.ref CH) "__setattr__" = some (some (.builtin "object.__setattr__")))
    (mk : PySem.W.makesIn K CH = true)
    (kc : PySem.W.keepIn K (.ref CH) = true)
    (nT : PySem.W.findIn K (.ref CH) "_table" = some none)
    (nC : PySem.W.findIn K (.ref CH) "_count" = some none)
    (nE : PySem.W.findIn K (.ref CH) "_entries" = some none)
    (m1 : MethIn K CH "__init__" "Hand.__init__" s_Hand_init)
    (m2 : MethIn K CH "next" "Hand.next" s_Hand_next)
    (m3 : MethIn K CH "see" "Hand.see" s_Hand_see)
    (m4 : MethIn K CH "book" "Hand.book" s_Hand_book)
    (m5 : MethIn K CH "done" "Hand.done" s_Hand_done)
    (m6 : MethIn K CH "_latest" "Hand._latest" s_Hand_latest)
    (m7 : MethIn K CH "_is_open" "Hand._is_open" s_Hand_is_open)
    (mb : ∀ x ∈ bltns, PySem.W.nsIn K mainGlobals x = some none) (c1 : ∃ t, PySem.W.nsIn K mainGlobals "DIGITS" = some (some (.str "0123456789" t))) (c2 : ∃ t, PySem.W.nsIn K mainGlobals "MAX_DIGITS" = some (some (.int 5 t))) :
    LamX.LawAtS l w K CX0 8 63 "script" mg fa h := by
  have M : Cst mg := ⟨c1.imp fun _ e => PySem.W.mg_of X G e, c2.imp fun _ e => PySem.W.mg_of X G e⟩
  have mb : ∀ x ∈ bltns, mg x = none := fun x hx => PySem.W.mg_none_of X G (mb x hx)
  have T_NotAllowed : ExcT l.prog K mg "NotAllowed" "word" C_NotAllowed I_NotAllowed := ExcT.of X G c_NotAllowed i_NotAllowed tp (parts2 fld_word (by decide +kernel)) (fun _ _ _ _ _ => ⟨_, rfl⟩)
  have T_BadText : ExcT l.prog K mg "BadText" "line" C_BadText I_BadText := ExcT.of X G c_BadText i_BadText tp (parts3 fld_line (by decide +kernel) (by decide +kernel)) (fun _ _ _ _ _ => ⟨_, rfl⟩)
  obtain ⟨f, oc, od, kV, doc, pm, an, cdv, ct, osl, h1, h2, h3, h4⟩ := d18
  have F_law := fun_mk (st := s_law) h2 h3 h4
  have e := hfa.symm.trans (PySem.W.mg_of X G h1)
  cases e
  have D_is_word := d1.mk (ps := ["text", "letters", "most"]) X G fun _ _ _ _ _ _ us hl => match us, hl with | [_, _, _], _ => rfl
  have D_is_number := d2.mk (ps := ["text"]) X G fun _ _ _ _ _ _ us hl => match us, hl with | [_], _ => rfl
  have D_entry_line := d3.mk (ps := ["entry"]) X G fun _ _ _ _ _ _ us hl => match us, hl with | [_], _ => rfl
  have D_is_entry := d4.mk (ps := ["entries", "words"]) X G fun _ _ _ _ _ _ us hl => match us, hl with | [_, _], _ => rfl
  have D_read_book := d5.mk (ps := ["text"]) X G fun _ _ _ _ _ _ us hl => match us, hl with | [_], _ => rfl
  have D_ask_moment := d6.mk (ps := ["table", "done"]) X G fun _ _ _ _ _ _ us hl => match us, hl with | [_, _], _ => rfl
  have D_follows_table := d7.mk (ps := ["table", "count", "entries"]) X G fun _ _ _ _ _ _ us hl => match us, hl with | [_, _, _], _ => rfl
  have D_law_mix := d8.mk (ps := ["number"]) X G fun _ _ _ _ _ _ us hl => match us, hl with | [_], _ => rfl
  have D_law_tape := d9.mk (ps := ["script", "budget"]) X G fun _ _ _ _ _ _ us hl => match us, hl with | [_, _], _ => rfl
  have D_law_take := d10.mk (ps := ["tape", "many"]) X G fun _ _ _ _ _ _ us hl => match us, hl with | [_, _], _ => rfl
  have D_law_table := d11.mk (ps := ["tape", "count"]) X G fun _ _ _ _ _ _ us hl => match us, hl with | [_, _], _ => rfl
  have D_law_first := d12.mk (ps := ["table", "done"]) X G fun _ _ _ _ _ _ us hl => match us, hl with | [_, _], _ => rfl
  have D_law_lines := d13.mk (ps := ["entries"]) X G fun _ _ _ _ _ _ us hl => match us, hl with | [_], _ => rfl
  have D_law_run := d14.mk (ps := ["table", "delays"]) X G fun _ _ _ _ _ _ us hl => match us, hl with | [_, _], _ => rfl
  have D_law_drop := d15.mk (ps := ["tape", "text", "moment"]) X G fun _ _ _ _ _ _ us hl => match us, hl with | [_, _, _], _ => rfl
  have D_law_act := d16.mk (ps := ["hand", "asked", "delays", "moment"]) X G fun _ _ _ _ _ _ us hl => match us, hl with | [_, _, _, _], _ => rfl
  have D_law_turn := d17.mk (ps := ["tape", "hand", "world", "delays", "moment"]) X G fun _ _ _ _ _ _ us hl => match us, hl with | [_, _, _, _, _], _ => rfl
  refine ⟨PySem.W.fnOf "law" "law" (defArgs s_law) (defBody s_law) (defScope s_law) .none kV doc pm an cdv ct, [], spLaw [] K, fun p hp => ?_, fun p hp => ?_, fun p hp => ?_, fun s u => .of_eq rfl, fun H a ns hl _ hT hS => ?_, fun base _ _ hTB => ?_⟩
  · cases hp
  · cases hp
  · cases hp
  · exact ⟨a, ns, rfl, hS, hl, fun _ => rfl⟩
  · have W : Hl K CH := ⟨⟨pg, hd, po, sa⟩, nT, nC, nE⟩
    have hmC := PySem.W.mg_of X G aH
    obtain ⟨f1, fd1, F1, M1, B1⟩ := m1.fn (ps := ["self", "table", "count", "text"]) fun _ _ _ _ _ _ us hl => match us, hl with | [_, _, _, _], _ => rfl
    obtain ⟨f2, fd2, F2, M2, B2⟩ := m2.fn (ps := ["self", "moment"]) fun _ _ _ _ _ _ us hl => match us, hl with | [_, _], _ => rfl
    obtain ⟨f3, fd3, F3, M3, B3⟩ := m3.fn (ps := ["self", "moment"]) fun _ _ _ _ _ _ us hl => match us, hl with | [_, _], _ => rfl
    obtain ⟨f4, fd4, F4, M4, B4⟩ := m4.fn (ps := ["self"]) fun _ _ _ _ _ _ us hl => match us, hl with | [_], _ => rfl
    obtain ⟨f5, fd5, F5, M5, B5⟩ := m5.fn (ps := ["self"]) fun _ _ _ _ _ _ us hl => match us, hl with | [_], _ => rfl
    obtain ⟨f6, fd6, F6, M6, B6⟩ := m6.fn (ps := ["self"]) fun _ _ _ _ _ _ us hl => match us, hl with | [_], _ => rfl
    obtain ⟨f7, fd7, F7, M7, B7⟩ := m7.fn (ps := ["self"]) fun _ _ _ _ _ _ us hl => match us, hl with | [_], _ => rfl
    have O_mix := ok_law_mix (P := l.prog) (w := w) (base := base) D_law_mix mb
    have O_tape := ok_law_tape (P := l.prog) (w := w) (base := base) (T := []) D_law_tape mb
    have O_take := ok_law_take (T := []) D_law_take O_mix mb
    have O_word := ok_is_word (P := l.prog) (w := w) (base := base) (T := []) D_is_word mb
    have O_num := ok_is_number D_is_number mb M O_word
    have O_line := ok_entry_line (P := l.prog) (w := w) (base := base) D_entry_line mb
    have O_ent := ok_is_entry D_is_entry mb O_num
    have O_read := ok_read_book D_read_book mb T_BadText O_ent
    have O_ask := ok_ask_moment (P := l.prog) (w := w) (base := base) (T := []) D_ask_moment mb
    have O_fol := ok_follows_table D_follows_table mb O_ask
    have E6 : MeO l.prog w K mg base 1 CH "_latest" ["self"] (spLatest CH) := ⟨f6, fd6, W.cl, M6, ok_latest F6 W mb, B6⟩
    have E7 : MeO l.prog w K mg base 1 CH "_is_open" ["self"] (spOpen CH) := ⟨f7, fd7, W.cl, M7, ok_open F7 W mb, B7⟩
    have E5 : MeO l.prog w K mg base 1 CH "done" ["self"] (spDone [] CH) := ⟨f5, fd5, W.cl, M5, ok_done F5 W mb, B5⟩
    have E4 : MeO l.prog w K mg base 2 CH "book" ["self"] (spBook [] CH) := ⟨f4, fd4, W.cl, M4, ok_book F4 W mb O_line, B4⟩
    have E1 : MkO l.prog w K mg base 5 "Hand" CH ["self", "table", "count", "text"] (spHand [] CH) := ⟨f1, fd1, ⟨mk, M1.at_, M1.fn, kc⟩, ok_init F1 W mb O_read.ok0 O_fol, hmC, B1⟩
    have E2 : MeX l.prog w K mg base 3 CH "next" ["self", "moment"] (spNext [] CH C_NotAllowed) := ⟨f2, fd2, ⟨W.cl, M2⟩, ok_next F2 W mb T_NotAllowed E6 E7 E5 O_ask, B2⟩
    have E3 : MeX l.prog w K mg base 3 CH "see" ["self", "moment"] (spSee [] CH C_NotAllowed) := ⟨f3, fd3, ⟨W.cl, M3⟩, ok_see F3 W mb T_NotAllowed E6 E7, B3⟩
    have O_table := ok_law_table D_law_table mb O_take
    have O_lines := ok_law_lines (P := l.prog) (w := w) (base := base) (T := []) D_law_lines mb
    have O_first := ok_law_first (P := l.prog) (w := w) (base := base) (T := []) D_law_first mb
    have O_run := ok_law_run D_law_run mb O_first
    have O_drop := ok_law_drop D_law_drop mb O_take
    have O_act := ok_law_act D_law_act mb E2.me0 E3.me0
    have O_turn := ok_law_turn D_law_turn mb O_take O_act O_drop E1 E4
    exact ok_law F_law mb O_tape O_take O_table E1 E4 E2.me0 O_run O_turn O_lines

end NK
open PySem PySem.W PyProof.Rows
set_option maxHeartbeats 0 in
theorem PySem.Challenge.cw_neverdark_k78_whole_falls_of_a_hand_holds : PySem.Challenge.rw_neverdark_k78_whole_falls_of_a_hand.Holds := by
  w_on; o_law; k_head; (case hw => w_witness2)
  k_fill
  refine LamX.walk_ofTs (l := PySem.Challenge.rw_neverdark_k78_whole_falls_of_a_hand) (n := 63) (k := 8) (x := "script") (CX := fun _ => L2.CX0) rfl (by decide) rfl ⟨rfl, by decide, by decide⟩ (fun w h Y => Y) ?F (fun _ _ _ _ _ h => h)
  case F =>
    intro w mg fa h Y KX G hmg
    refine' NK.all_mk KX G hmg ?d1 ?d2 ?d3 ?d4 ?d5 ?d6 ?d7 ?d8 ?d9 ?d10 ?d11 ?d12 ?d13 ?d14 ?d15 ?d16 ?d17 ?d18 ?c_NotAllowed ?i_NotAllowed ?c_BadText ?i_BadText ?tp ?aH ?pg ?hd ?po ?sa ?mk ?kc ?nT ?nC ?nE ?m1 ?m2 ?m3 ?m4 ?m5 ?m6 ?m7 ?mb ?c1 ?c2
    case d1 => (refine' NK.DefIn.of ?x1 ?x2 ?x3 ?x4; (case x1 => k_is); (case x2 => k_is); (case x3 => k_is); (case x4 => k_is))
    case d2 => (refine' NK.DefIn.of ?x1 ?x2 ?x3 ?x4; (case x1 => k_is); (case x2 => k_is); (case x3 => k_is); (case x4 => k_is))
    case d3 => (refine' NK.DefIn.of ?x1 ?x2 ?x3 ?x4; (case x1 => k_is); (case x2 => k_is); (case x3 => k_is); (case x4 => k_is))
    case d4 => (refine' NK.DefIn.of ?x1 ?x2 ?x3 ?x4; (case x1 => k_is); (case x2 => k_is); (case x3 => k_is); (case x4 => k_is))
    case d5 => (refine' NK.DefIn.of ?x1 ?x2 ?x3 ?x4; (case x1 => k_is); (case x2 => k_is); (case x3 => k_is); (case x4 => k_is))
    case d6 => (refine' NK.DefIn.of ?x1 ?x2 ?x3 ?x4; (case x1 => k_is); (case x2 => k_is); (case x3 => k_is); (case x4 => k_is))
    case d7 => (refine' NK.DefIn.of ?x1 ?x2 ?x3 ?x4; (case x1 => k_is); (case x2 => k_is); (case x3 => k_is); (case x4 => k_is))
    case d8 => (refine' NK.DefIn.of ?x1 ?x2 ?x3 ?x4; (case x1 => k_is); (case x2 => k_is); (case x3 => k_is); (case x4 => k_is))
    case d9 => (refine' NK.DefIn.of ?x1 ?x2 ?x3 ?x4; (case x1 => k_is); (case x2 => k_is); (case x3 => k_is); (case x4 => k_is))
    case d10 => (refine' NK.DefIn.of ?x1 ?x2 ?x3 ?x4; (case x1 => k_is); (case x2 => k_is); (case x3 => k_is); (case x4 => k_is))
    case d11 => (refine' NK.DefIn.of ?x1 ?x2 ?x3 ?x4; (case x1 => k_is); (case x2 => k_is); (case x3 => k_is); (case x4 => k_is))
    case d12 => (refine' NK.DefIn.of ?x1 ?x2 ?x3 ?x4; (case x1 => k_is); (case x2 => k_is); (case x3 => k_is); (case x4 => k_is))
    case d13 => (refine' NK.DefIn.of ?x1 ?x2 ?x3 ?x4; (case x1 => k_is); (case x2 => k_is); (case x3 => k_is); (case x4 => k_is))
    case d14 => (refine' NK.DefIn.of ?x1 ?x2 ?x3 ?x4; (case x1 => k_is); (case x2 => k_is); (case x3 => k_is); (case x4 => k_is))
    case d15 => (refine' NK.DefIn.of ?x1 ?x2 ?x3 ?x4; (case x1 => k_is); (case x2 => k_is); (case x3 => k_is); (case x4 => k_is))
    case d16 => (refine' NK.DefIn.of ?x1 ?x2 ?x3 ?x4; (case x1 => k_is); (case x2 => k_is); (case x3 => k_is); (case x4 => k_is))
    case d17 => (refine' NK.DefIn.of ?x1 ?x2 ?x3 ?x4; (case x1 => k_is); (case x2 => k_is); (case x3 => k_is); (case x4 => k_is))
    case d18 => (refine' NK.DefIn.of ?x1 ?x2 ?x3 ?x4; (case x1 => k_is); (case x2 => k_is); (case x3 => k_is); (case x4 => k_is))
    case c_NotAllowed => (refine' NK.ClsIn.of ?x1 ?x2 ?x3 ?x4 ?x5 ?x6 ?x7 ?x8 ?x9 ?x10 ?x11 ?x12 ?x13 ?x14 ?x15 ?x16 ?x17 ?x18 ?x19 ?x20 ?x21 ?x22; (case x1 => first | k_is | ks_is | exact rfl); (case x2 => first | k_is | ks_is | exact rfl); (case x3 => first | k_is | ks_is | exact rfl); (case x4 => first | k_is | ks_is | exact rfl); (case x5 => first | k_is | ks_is | exact rfl); (case x6 => first | k_is | ks_is | exact rfl); (case x7 => first | k_is | ks_is | exact rfl); (case x8 => first | k_is | ks_is | exact rfl); (case x9 => first | k_is | ks_is | exact rfl); (case x10 => first | k_is | ks_is | exact rfl); (case x11 => first | k_is | ks_is | exact rfl); (case x12 => first | k_is | ks_is | exact rfl); (case x13 => first | k_is | ks_is | exact rfl); (case x14 => first | k_is | ks_is | exact rfl); (case x15 => first | k_is | ks_is | exact rfl); (case x16 => first | k_is | ks_is | exact rfl); (case x17 => first | k_is | ks_is | exact rfl); (case x18 => first | k_is | ks_is | exact rfl); (case x19 => first | k_is | ks_is | exact rfl); (case x20 => first | k_is | ks_is | exact rfl); (case x21 => first | k_is | ks_is | exact rfl); (case x22 => first | k_is | ks_is | exact rfl))
    case i_NotAllowed => (refine' NK.InitIn.of ?x1 ?x2 ?x3 ?x4 ?x5 ?x6; (case x1 => k_is); (case x2 => k_is); (case x3 => k_is); (case x4 => exact rfl); (case x5 => first | exact rfl | decide +kernel); (case x6 => k_is))
    case c_BadText => (refine' NK.ClsIn.of ?x1 ?x2 ?x3 ?x4 ?x5 ?x6 ?x7 ?x8 ?x9 ?x10 ?x11 ?x12 ?x13 ?x14 ?x15 ?x16 ?x17 ?x18 ?x19 ?x20 ?x21 ?x22; (case x1 => first | k_is | ks_is | exact rfl); (case x2 => first | k_is | ks_is | exact rfl); (case x3 => first | k_is | ks_is | exact rfl); (case x4 => first | k_is | ks_is | exact rfl); (case x5 => first | k_is | ks_is | exact rfl); (case x6 => first | k_is | ks_is | exact rfl); (case x7 => first | k_is | ks_is | exact rfl); (case x8 => first | k_is | ks_is | exact rfl); (case x9 => first | k_is | ks_is | exact rfl); (case x10 => first | k_is | ks_is | exact rfl); (case x11 => first | k_is | ks_is | exact rfl); (case x12 => first | k_is | ks_is | exact rfl); (case x13 => first | k_is | ks_is | exact rfl); (case x14 => first | k_is | ks_is | exact rfl); (case x15 => first | k_is | ks_is | exact rfl); (case x16 => first | k_is | ks_is | exact rfl); (case x17 => first | k_is | ks_is | exact rfl); (case x18 => first | k_is | ks_is | exact rfl); (case x19 => first | k_is | ks_is | exact rfl); (case x20 => first | k_is | ks_is | exact rfl); (case x21 => first | k_is | ks_is | exact rfl); (case x22 => first | k_is | ks_is | exact rfl))
    case i_BadText => (refine' NK.InitIn.of ?x1 ?x2 ?x3 ?x4 ?x5 ?x6; (case x1 => k_is); (case x2 => k_is); (case x3 => k_is); (case x4 => exact rfl); (case x5 => first | exact rfl | decide +kernel); (case x6 => k_is))
    case tp => first | exact rfl | decide +kernel
    case aH => first | k_is | exact rfl | decide +kernel
    case pg => first | k_is | exact rfl | decide +kernel
    case hd => first | k_is | exact rfl | decide +kernel
    case po => first | k_is | exact rfl | decide +kernel
    case sa => first | k_is | exact rfl | decide +kernel
    case mk => first | k_is | exact rfl | decide +kernel
    case kc => first | k_is | exact rfl | decide +kernel
    case nT => first | k_is | exact rfl | decide +kernel
    case nC => first | k_is | exact rfl | decide +kernel
    case nE => first | k_is | exact rfl | decide +kernel
    case m1 => (refine' NK.MethIn.of ?x1 ?x2 ?x3 ?x4 ?x5; (case x1 => k_is); (case x2 => k_is); (case x3 => k_is); (case x4 => k_is); (case x5 => k_is))
    case m2 => (refine' NK.MethIn.of ?x1 ?x2 ?x3 ?x4 ?x5; (case x1 => k_is); (case x2 => k_is); (case x3 => k_is); (case x4 => k_is); (case x5 => k_is))
    case m3 => (refine' NK.MethIn.of ?x1 ?x2 ?x3 ?x4 ?x5; (case x1 => k_is); (case x2 => k_is); (case x3 => k_is); (case x4 => k_is); (case x5 => k_is))
    case m4 => (refine' NK.MethIn.of ?x1 ?x2 ?x3 ?x4 ?x5; (case x1 => k_is); (case x2 => k_is); (case x3 => k_is); (case x4 => k_is); (case x5 => k_is))
    case m5 => (refine' NK.MethIn.of ?x1 ?x2 ?x3 ?x4 ?x5; (case x1 => k_is); (case x2 => k_is); (case x3 => k_is); (case x4 => k_is); (case x5 => k_is))
    case m6 => (refine' NK.MethIn.of ?x1 ?x2 ?x3 ?x4 ?x5; (case x1 => k_is); (case x2 => k_is); (case x3 => k_is); (case x4 => k_is); (case x5 => k_is))
    case m7 => (refine' NK.MethIn.of ?x1 ?x2 ?x3 ?x4 ?x5; (case x1 => k_is); (case x2 => k_is); (case x3 => k_is); (case x4 => k_is); (case x5 => k_is))
    case mb =>
      intro x hx
      rcases List.mem_cons.mp hx with e | hx
      · rw [e]; k_is
      rcases List.mem_cons.mp hx with e | hx
      · rw [e]; k_is
      rcases List.mem_cons.mp hx with e | hx
      · rw [e]; k_is
      rcases List.mem_cons.mp hx with e | hx
      · rw [e]; k_is
      rcases List.mem_cons.mp hx with e | hx
      · rw [e]; k_is
      rcases List.mem_cons.mp hx with e | hx
      · rw [e]; k_is
      rcases List.mem_cons.mp hx with e | hx
      · rw [e]; k_is
      rcases List.mem_cons.mp hx with e | hx
      · rw [e]; k_is
      rcases List.mem_cons.mp hx with e | hx
      · rw [e]; k_is
      rcases List.mem_cons.mp hx with e | hx
      · rw [e]; k_is
      rcases List.mem_cons.mp hx with e | hx
      · rw [e]; k_is
      rcases List.mem_cons.mp hx with e | hx
      · rw [e]; k_is
      rcases List.mem_cons.mp hx with e | hx
      · rw [e]; k_is
      cases hx
    case c1 => refine' NK.cstS_of ?x; (case x => k_is)
    case c2 => refine' NK.cstI_of ?x; (case x => k_is)

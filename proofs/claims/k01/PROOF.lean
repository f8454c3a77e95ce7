import PyProof.Rows.All
import Wide.All
import OpenK.AllK
import Wide.FinOn
import PySem.Challenge.RW_neverdark_k01_texts_of_cases
import HandS.ForMost
import HandS.Walk
import HandS.IsInst
import HandS.Style
import HandS.FStr
import HandS.WideBits
import HandS.Deep
import HandS.Steps
import HandS.Lambda
import HandS.EndTab
import KE.SortKeyHeap
import KE.DatumOrd
import KE.KDictPairs
import KE.KDictCopyH
import PyProof.P3In
import HandS.NoneIn
import HandS.Star
import HandS.List
import KE.DataMinMax
import HandS.Flow
import HandS.Iter
import HandS.Zip
import HandS.DictTup
import HandS.ForExc
import HandS.ExcIs
import HandS.ExcField
import HandS.ExcSuper
import KE.KExcSuper
import KE.SortData
import KE.RegKSuper
import KE.GoesEnumKw
import KE.GoesMore
import HandS.Codes
import KE.KUnpackStar
import HandS.CallLocal
set_option Elab.async false
set_option linter.all false
set_option maxRecDepth 100000
set_option maxHeartbeats 4000000
namespace NK
open PySem PySem.Spec PyProof.Rows L2
/-! ### a def of the text that keeps a promise, found by its name -/
def Ok (P : Program) (w : World) (K : PySem.W.Frag) (mg : Str → Option Value) (base : Heap) (k : Nat) (x : Str) (ps : List Str) (sp : Sp) : Prop :=
  ∃ (f : Addr) (fd : FuncData), FnOk P w K mg base CX0 k f fd ps sp ∧ mg x = some (.ref f) ∧ PySem.W.keepIn K (.ref f) = true ∧ Binds K fd ps []
def Def (K : PySem.W.Frag) (mg : Str → Option Value) (x : Str) (st : Stmt) (ps : List Str) : Prop :=
  ∃ (f : Addr) (fd : FuncData), Fun K x x st f fd ∧ mg x = some (.ref f) ∧ Binds K fd ps []
section
variable {P : Program} {w : World} {K : PySem.W.Frag} {mg : Str → Option Value} {base : Heap}
theorem Def.ok {x : Str} {st : Stmt} {N ps : List Str} {k : Nat} {sp : Sp} (D : Def K mg x st ps) (S : FnScope N ps (defScope st)) (len : ∀ vs H Q E, sp vs H Q E → vs.length = ps.length)
    (hbody : ∀ (cdv : Value) (f : Addr) (A : Around) (outer : List Env) (s : Shared) (H : Hp) (vs : List V) (Q : VK) (E : XK), Room k (A.deeper (envOfC x (defScope st) s.heap.objs.size f cdv)) → sp vs H Q E →
      ∃ t, PSs (cxOf CX0 P w K mg base N x (defScope st) f cdv A outer s H E).nox (defBody st) t ∧ t { nx := fun _ H' => Q .non H', rt := Q } (start N vs) H) : Ok P w K mg base (k + 1) x ps sp := by
  obtain ⟨f, fd, F, hm, hb⟩ := D
  exact ⟨f, fd, F.ok S len fun cdv A outer s H vs Q E hr h => hbody cdv f A outer s H vs Q E hr h, hm, F.kp, hb⟩
theorem Ok.mono {j k : Nat} {x : Str} {ps : List Str} {sp : Sp} (h : Ok P w K mg base j x ps sp) (hk : j ≤ k) : Ok P w K mg base k x ps sp := by
  obtain ⟨f, fd, F, r⟩ := h
  exact ⟨f, fd, F.mono hk, r⟩
end
section
variable {X : Cx}
theorem pe_callO {x : Str} {p pos : Pos} {e : Expr} {es : List Expr} {t : TA} {k : Nat} {ps : List Str} {sp : Sp} (h : Ok X.prog X.w X.K X.mg X.base k x ps sp) (hr : Room k X.A) (hg : Gl X x) (ha : PA X (e :: es) t)
    (hdb : (x == ("__debug__" : Str)) = false := by decide) (he : starEach (e :: es) X.env = (false, eval e X.env) :: starEach es X.env := by rfl) (hpl : (backTo pos (starEach es X.env)).any (·.1) = false := by rfl) :
    PE X (.Call (.Name x p) (e :: es) [] pos) (tCall sp [] E0 t) := by
  obtain ⟨f, fd, F, hm, hk, hb⟩ := h
  exact pe_call F hr hg hm hk hb .nil pass0 ha hdb he hpl
/-- a module's constant -/
theorem pe_glS {x : Str} {z : Str} {pos : Pos} (hg : Gl X x) (hm : ∃ t, X.mg x = some (.str z t)) (hd : (x == ("__debug__" : Str)) = false := by decide) : PE X (.Name x pos) (tC (.str z)) := by
  obtain ⟨t, hm⟩ := hm
  exact pe_glob hg hm ⟨t, rfl⟩ hd
theorem pe_glI {x : Str} {z : Int} {pos : Pos} (hg : Gl X x) (hm : ∃ t, X.mg x = some (.int z t)) (hd : (x == ("__debug__" : Str)) = false := by decide) : PE X (.Name x pos) (tC (.int z)) := by
  obtain ⟨t, hm⟩ := hm
  exact pe_glob hg hm ⟨t, rfl⟩ hd
/-- the empty tuple ahead of another one -/
def rCatT0 (K : PySem.W.Frag) : R2 := fun x y H Q => ∃ a b ys, x = .ref a ∧ y = .ref b ∧ SqT K H a [] ∧ SqT K H b ys ∧ Q (.ref b) H
theorem op_catT0 {X : Cx} (K : PySem.W.Frag) (hK : X.K = K) : OpR X (binaryOp .Add) (rCatT0 K) := by
  subst hK
  intro pins s σ H x y v u Q I rx ry h
  obtain ⟨a, b, ys, rfl, rfl, ha, hb, q⟩ := h
  cases rx
  cases ry
  obtain ⟨its, rv, ⟨o, ho, hc, n, hd⟩, hz⟩ := I.tuple ha
  obtain ⟨its2, rv2, ⟨o2, ho2, hc2, n2, hd2⟩, hz2⟩ := I.tuple hb
  cases rv
  obtain ⟨c1, d1, k1, s1⟩ := o
  obtain ⟨c2, d2, k2, s2⟩ := o2
  simp only at hc hd hc2 hd2
  subst hc hd hc2 hd2
  have t1 : s.TypeIs (.ref a) "tuple" := ⟨_, ho, rfl⟩
  have t2 : s.TypeIs (.ref b) "tuple" := ⟨_, ho2, rfl⟩
  refine PySem.wpAny_binaryOp_concat (T := "tuple") (id := "tuple.__add__") t1 t2 PySem.noFill_tuple_add PySem.seq_tuple_add ?_
  exact PySem.call_meets PySem.F.slot_tuple_add t1 PySem.F.entry_tuple_add (PySem.F.args_tuple_add_2 _ _) (PyProof.Rows.tuple_addW0 a b #[] its2.toArray n n2 d1 d2 s1 s2 rfl) ⟨ho, ho2, ⟨.ref b, H, I, rfl, q⟩⟩
/-! ### one rule for each sign, whatever its operands are; K is the written part by its name -/
def rPlus (K : PySem.W.Frag) : R2 := fun x y H Q => (rI0 (fun i j => .int (i + j)) x y H Q) ∨ (∃ i j, x = .str i ∧ y = .str j ∧ i.length + j.length ≤ sizeLine ∧ Q (.str (i ++ j)) H) ∨ (rCat x y H Q) ∨ (rCatT K x y H Q) ∨ (rCatT0 K x y H Q)
theorem op_plus (K : PySem.W.Frag) (hK : X.K = K) : OpR X (binaryOp .Add) (rPlus K) := by
  have h0 := op_catT0 (X := X) K hK
  subst hK
  exact op_add.or (op_add_str.or (op_cat.or (op_catT.or h0)))
def rEqU (K : PySem.W.Frag) : R2 := fun x y H Q => rEq x y H Q ∨ rEqD K x y H Q
def rNeU (K : PySem.W.Frag) : R2 := fun x y H Q => rNe x y H Q ∨ rNeD K x y H Q
theorem op_eqU (K : PySem.W.Frag) (hK : X.K = K) (hu : X.A.units + 64 < cLine) : OpR X (compareOp .Eq) (rEqU K) := by
  subst hK
  exact op_eq.or (op_eqD hu)
theorem op_neU (K : PySem.W.Frag) (hK : X.K = K) (hu : X.A.units + 64 < cLine) : OpR X (compareOp .NotEq) (rNeU K) := by
  subst hK
  exact op_ne.or (op_neD hu)
def rInU (K : PySem.W.Frag) : R2 := fun x y H Q => rIn K false x y H Q ∨ rInS x y H Q
def rNinU (K : PySem.W.Frag) : R2 := fun x y H Q => rIn K true x y H Q ∨ rNotInS x y H Q
theorem op_inU (K : PySem.W.Frag) (hK : X.K = K) : OpR X (compareOp .In) (rInU K) := by
  subst hK
  exact op_in_seq.or op_in_sign
theorem op_ninU (K : PySem.W.Frag) (hK : X.K = K) : OpR X (compareOp .NotIn) (rNinU K) := by
  subst hK
  exact op_notIn_seq.or op_notIn_sign
def rIsU : R2 := fun x y H Q => rIsB x y H Q ∨ rIsN x y H Q
def rIsNU : R2 := fun x y H Q => rNotB x y H Q ∨ rNotN x y H Q
theorem op_isU : OpR X (compareOp .Is) rIsU := op_isBl.or op_isN
theorem op_isnotU : OpR X (compareOp .IsNot) rIsNU := op_notBl.or op_notN
theorem ix_U (K : PySem.W.Frag) (hK : X.K = K) : IxR X (rIx K) := by
  subst hK
  exact ix_seq
def rSlU (K : PySem.W.Frag) : V → Option Int → Option Int → Hp → VK → Prop := fun x lo hi H Q => rSlL K x lo hi H Q ∨ rSlS x lo hi H Q ∨ rSlT K x lo hi H Q
theorem sl_U (K : PySem.W.Frag) (hK : X.K = K) : SlR X (rSlU K) := by
  subst hK
  exact sl_list.or (sl_str.or sl_tup)
def rLenU (K : PySem.W.Frag) : List V → Hp → VK → Prop := fun xs H Q => (∃ z, xs = [.str z] ∧ z.length ≤ sizeLine ∧ Q (.int z.length) H) ∨ (∃ p ys, xs = [.ref p] ∧ (SqL K H p ys ∨ SqT K H p ys) ∧ Q (.int ys.length) H)
theorem call_lenU (K : PySem.W.Frag) (hK : X.K = K) : CallR X (.builtin "len") (rLenU K) := by
  subst hK
  exact call_len_str.or call_len_seq
def rInt1 : List V → Hp → VK → Prop := fun xs H Q => (∃ i, xs = [.int i] ∧ Q (.int i) H) ∨ ∃ k, xs = [.bl k] ∧ Q (.int (if k then 1 else 0)) H
theorem call_int1U : CallR X (.type "int") rInt1 := call_int1
def rListOf (K : PySem.W.Frag) : List V → Hp → VK → Prop := fun xs H Q => ∃ p ys, xs = [.ref p] ∧ (SqL K H p ys ∨ SqT K H p ys) ∧ ∀ l, H l = none → Q (.ref l) (upd H l (.lst ys))
theorem call_listU (K : PySem.W.Frag) (hK : X.K = K) : CallR X (.type "list") (rListOf K) := by
  subst hK
  exact call_list_of
def rTupOf (K : PySem.W.Frag) : List V → Hp → VK → Prop := fun xs H Q => ∃ p ys, xs = [.ref p] ∧ ((SqL K H p ys ∧ ∀ l, H l = none → Q (.ref l) (upd H l (.tup ys))) ∨ (SqT K H p ys ∧ Q (.ref p) H))
theorem call_tupU (K : PySem.W.Frag) (hK : X.K = K) : CallR X (.type "tuple") (rTupOf K) := by
  subst hK
  exact call_tuple_of
theorem call_allU (K : PySem.W.Frag) (hK : X.K = K) (hc : X.calm = true) : CallR X (.builtin "all") (rAll K) := by
  subst hK
  exact cr_all hc
theorem call_anyU (K : PySem.W.Frag) (hK : X.K = K) (hc : X.calm = true) : CallR X (.builtin "any") (rAny K) := by
  subst hK
  exact cr_any hc
theorem call_isiU (K : PySem.W.Frag) (hK : X.K = K) : CallR X (.builtin "isinstance") (rIsi K) := by
  subst hK
  exact call_isi
def rSplit : V → List V → Hp → VK → Prop := fun x xs H Q => ∃ a b, x = .str a ∧ xs = [.str b] ∧ (b.length == 0) = false ∧ a.length + 2 ≤ sizeLine ∧ rNewStrs (Txt.split a b) H Q
def rJoin (K : PySem.W.Frag) : V → List V → Hp → VK → Prop := fun x xs H Q => ∃ a p, ∃ ys : List Str, x = .str a ∧ xs = [.ref p] ∧ (SqL K H p (ys.map V.str) ∨ SqT K H p (ys.map V.str)) ∧ (ys.map (·.length)).sum + ys.length * a.length ≤ 16777216 ∧ Q (.str (Txt.join a ys)) H
def rEndsW : V → List V → Hp → VK → Prop := fun x xs H Q => ∃ a b, x = .str a ∧ xs = [.str b] ∧ Q (.bl (Txt.endswith a b)) H
theorem mt_splitU : MtR X "str.split" rSplit := mt_split
theorem mt_endsU : MtR X "str.endswith" rEndsW := mt_endswith
theorem mt_joinU (K : PySem.W.Frag) (hK : X.K = K) : MtR X "str.join" (rJoin K) := by
  subst hK
  exact mt_join
theorem pt_E {e : Expr} {t : TE} (h : PE X e t) (he : ∀ whole, isTrue e X.env whole = (do let v ← whole; standAt e.pos; holding [v] (truthy v)) := by intro _; rfl) : PT X e (tB t) := pt_val h he
theorem pe_rev (K : PySem.W.Frag) (hK : X.K = K) {e : Expr} {te : TE} {k : Nat} {p1 p2 p3 pos : Pos} (he : PE X e te) : PE X (.Subscript e (.Slice none none (some (.UnaryOp .USub (.Constant (.int 1) k p1) p2)) p3) pos) (tRevL K te) := by
  subst hK
  exact pe_revL he
end
/-! ### steps of a reading -/
section
variable {K : PySem.W.Frag} {σ : L2.St} {H : Hp} {Q : VK} {te ta tb : TE} {D : Ends} {nx : L2.St → Hp → Prop} {rt : VK} {bk ct : L2.St → Hp → Prop}
theorem rd_var {i : Nat} {v : V} (h : σ[i]? = some (some v)) (q : Q v H) : tVar i σ H Q := ⟨v, h, q⟩
theorem rd_c {v : V} (q : Q v H) : tC v σ H Q := q
theorem rd_op {r : R2} (q : ta σ H fun x H1 => tb σ H1 fun y H2 => r x y H2 Q) : tOp r ta tb σ H Q := q
theorem rd_un {r : V → Hp → VK → Prop} (q : ta σ H fun x H1 => r x H1 Q) : tUn r ta σ H Q := q
theorem rd_i0 {f : Int → Int → V} {i j : Int} (q : Q (f i j) H) : rI0 f (.int i) (.int j) H Q := ⟨i, j, rfl, rfl, q⟩
theorem rd_i {C : Int → Int → Prop} {f : Int → Int → V} {i j : Int} (c : C i j) (q : Q (f i j) H) : rI C f (.int i) (.int j) H Q := ⟨i, j, rfl, rfl, c, q⟩
theorem rd_plusI {i j : Int} (q : Q (.int (i + j)) H) : rPlus K (.int i) (.int j) H Q := .inl ⟨i, j, rfl, rfl, q⟩
theorem rd_plusS {i j : Str} (c : i.length + j.length ≤ sizeLine) (q : Q (.str (i ++ j)) H) : rPlus K (.str i) (.str j) H Q := .inr (.inl ⟨i, j, rfl, rfl, c, q⟩)
theorem rd_uI {f : Int → Int} {i : Int} (q : Q (.int (f i)) H) : rU (fun i => .int (f i)) (.int i) H Q := ⟨i, rfl, q⟩
theorem rd_eqS {x y : V} (h : scal x y = true) (q : Q (.bl (decide (x = y))) H) : rEqU K x y H Q := .inl ⟨h, q⟩
theorem rd_neS {x y : V} (h : scal x y = true) (q : Q (.bl (!decide (x = y))) H) : rNeU K x y H Q := .inl ⟨h, q⟩
theorem rd_ixL {p : Addr} {xs : List V} {i : Int} {v : V} (h : SqL K H p xs) (a : atI xs i = some v) (q : Q v H) : rIx K (.ref p) (.int i) H Q := .inl ⟨p, xs, i, v, rfl, rfl, h, a, q⟩
theorem rd_ixT {p : Addr} {xs : List V} {i : Int} {v : V} (h : SqT K H p xs) (a : atI xs i = some v) (q : Q v H) : rIx K (.ref p) (.int i) H Q := .inr (.inl ⟨p, xs, i, v, rfl, rfl, h, a, q⟩)
theorem rd_B {Q : Bool → Hp → Prop} (q : te σ H fun v H1 => ∃ b, v = .bl b ∧ Q b H1) : tB te σ H Q := q
theorem rd_bl {b : Bool} {Q : Bool → Prop} (q : Q b) : ∃ c, V.bl b = .bl c ∧ Q c := ⟨b, rfl, q⟩
theorem rd_if {c : TT} {t u : TS} (q : c σ H fun b H1 => if b = true then t D σ H1 else u D σ H1) : tIfS c t u D σ H := q
theorem rd_ifE {c : TT} (q : c σ H fun b H1 => if b = true then ta σ H1 Q else tb σ H1 Q) : tIf c ta tb σ H Q := q
theorem rd_seq {t u : TS} (q : t ⟨fun σ H => u ⟨nx, rt, bk, ct⟩ σ H, rt, bk, ct⟩ σ H) : tSeq t u ⟨nx, rt, bk, ct⟩ σ H := q
theorem rd_next (q : nx σ H) : tNext ⟨nx, rt, bk, ct⟩ σ H := q
theorem rd_asg {g : TG} (q : te σ H fun x H1 => g x σ H1 nx) : tAsg te g ⟨nx, rt, bk, ct⟩ σ H := q
theorem rd_name {i : Nat} {v : V} {Q : L2.St → Hp → Prop} (q : Q (σ.set i (some v)) H) : gName i v σ H Q := q
theorem rd_ret (q : te σ H rt) : tRet te ⟨nx, rt, bk, ct⟩ σ H := q
theorem rd_drop (q : te σ H fun _ H1 => nx σ H1) : tDrop te ⟨nx, rt, bk, ct⟩ σ H := q
theorem rd_call {sp : Sp} {E : XK} {t : TA} (q : t σ H fun vs H1 => sp (vs ++ []) H1 Q E) : tCall sp [] E t σ H Q := q
theorem rd_cons {tr : TA} {Q : List V → Hp → Prop} (q : ta σ H fun x H1 => tr σ H1 fun xs H2 => Q (x :: xs) H2) : tCons ta tr σ H Q := q
theorem rd_nil {Q : List V → Hp → Prop} (q : Q [] H) : tNil σ H Q := q
theorem rd_cb {r : List V → Hp → VK → Prop} {t : TA} (q : t σ H fun vs H1 => r vs H1 Q) : tCB r t σ H Q := q
theorem rd_sub {to ti : TE} {t : TSet} {v : V} {Q : L2.St → Hp → Prop} (q : to σ H fun o H1 => ti σ H1 fun i H2 => t o i v H2 fun H3 => Q σ H3) : gSub to ti t v σ H Q := q
theorem rd_not (q : ta σ H fun x H1 => ∃ c, x = .bl c ∧ Q (.bl (!c)) H1) : tNotV ta σ H Q := q
theorem rd_and (q : ta σ H fun x H1 => ∃ c, x = .bl c ∧ if c = true then tb σ H1 Q else Q (.bl false) H1) : tAndV ta tb σ H Q := q
theorem rd_or (q : ta σ H fun x H1 => ∃ c, x = .bl c ∧ if c = true then Q (.bl true) H1 else tb σ H1 Q) : tOrV ta tb σ H Q := q
theorem rd_T {Q : Bool → Hp → Prop} (q : te σ H fun v H1 => ∃ b, v = .bl b ∧ Q b H1) : tTest te σ H Q := q
theorem rd_tnot {t : TT} {Q : Bool → Hp → Prop} (q : t σ H fun c H1 => Q (!c) H1) : tNot t σ H Q := q
theorem rd_tand {t u : TT} {Q : Bool → Hp → Prop} (q : t σ H fun c H1 => if c = true then u σ H1 Q else Q false H1) : tAnd t u σ H Q := q
theorem rd_tor {t u : TT} {Q : Bool → Hp → Prop} (q : t σ H fun c H1 => if c = true then Q true H1 else u σ H1 Q) : tOr t u σ H Q := q
theorem rd_chain {r r' : R2} {tc : TE} (q : ta σ H fun x H1 => tb σ H1 fun y H2 => r x y H2 fun z H3 => ∃ k, z = .bl k ∧ (if k = true then tc σ H3 fun w' H4 => r' y w' H4 Q else Q (.bl false) H3)) : tChain r r' ta tb tc σ H Q := q
theorem rd_ite {p A B : Prop} [Decidable p] (h1 : p → A) (h2 : ¬ p → B) : if decide p = true then A else B := by
  by_cases h : p
  · rw [if_pos (decide_eq_true h)]
    exact h1 h
  · rw [if_neg (by rw [decide_eq_false h]; decide)]
    exact h2 h
theorem rd_itn {p A B : Prop} [Decidable p] (h1 : p → B) (h2 : ¬ p → A) : if (!decide p) = true then A else B := by
  by_cases h : p
  · rw [decide_eq_true h]
    exact h1 h
  · rw [decide_eq_false h]
    exact h2 h
theorem rd_len {z : Str} (h : z.length ≤ sizeLine) (q : Q (.int z.length) H) : rLenU K [.str z] H Q := .inl ⟨z, rfl, h, q⟩
theorem rd_lenL {p : Addr} {ys : List V} (h : SqL K H p ys) (q : Q (.int ys.length) H) : rLenU K [.ref p] H Q := .inr ⟨p, ys, rfl, .inl h, q⟩
theorem rd_int1 {i : Int} (q : Q (.int i) H) : rInt1 [.int i] H Q := .inl ⟨i, rfl, q⟩
theorem rd_listL {p : Addr} {ys : List V} (h : SqL K H p ys) (q : ∀ l, H l = none → Q (.ref l) (upd H l (.lst ys))) : rListOf K [.ref p] H Q := ⟨p, ys, rfl, .inl h, q⟩
theorem rd_tupL {p : Addr} {ys : List V} (h : SqL K H p ys) (q : ∀ l, H l = none → Q (.ref l) (upd H l (.tup ys))) : rTupOf K [.ref p] H Q := ⟨p, ys, rfl, .inl ⟨h, q⟩⟩
theorem rd_m1 {r : V → List V → Hp → VK → Prop} (q : ta σ H fun x H1 => (∃ a, x = .str a) ∧ tb σ H1 fun y H2 => r x [y] H2 Q) : tM1 r ta tb σ H Q := q
theorem rd_split {a b : Str} (hb : (b.length == 0) = false) (ha : a.length + 2 ≤ sizeLine) (q : ∀ p, H p = none → Q (.ref p) (upd H p (.lst ((Txt.split a b).map V.str)))) : rSplit (.str a) [.str b] H Q := ⟨a, b, rfl, rfl, hb, ha, q⟩
theorem rd_ends {a b : Str} (q : Q (.bl (Txt.endswith a b)) H) : rEndsW (.str a) [.str b] H Q := ⟨a, b, rfl, rfl, q⟩
theorem rd_join {a : Str} {p : Addr} {ys : List Str} (h : SqL K H p (ys.map V.str)) (c : (ys.map (·.length)).sum + ys.length * a.length ≤ 16777216) (q : Q (.str (Txt.join a ys)) H) : rJoin K (.str a) [.ref p] H Q := ⟨a, p, ys, rfl, rfl, .inl h, c, q⟩
theorem rd_inS {c : Nat} {z : Str} (q : Q (.bl (decide (c ∈ z.cps.toList))) H) : rInU K (.str ⟨#[c]⟩) (.str z) H Q := .inr ⟨c, z, rfl, rfl, q⟩
theorem rd_ninS {c : Nat} {z : Str} (q : Q (.bl (!decide (c ∈ z.cps.toList))) H) : rNinU K (.str ⟨#[c]⟩) (.str z) H Q := .inr ⟨c, z, rfl, rfl, q⟩
theorem rd_all {a : Addr} {bs : List Bool} (h : SqL K H a (bs.map V.bl)) (q : Q (.bl (bs.all id)) H) : rAll K [.ref a] H Q := ⟨a, bs, rfl, h, q⟩
theorem rd_isStr {z : Str} (q : Q (.bl true) H) : rIsi K [.str z, .ty "str"] H Q := ⟨_, _, _, _, true, rfl, .ty _, .base (.str _), rfl, q⟩
theorem rd_lst {t : TA} (q : t σ H fun xs H1 => xs.length ≤ sizeLine ∧ ∀ p, H1 p = none → Q (.ref p) (upd H1 p (.lst xs))) : tLst t σ H Q := q
theorem rd_tup {t : TA} (q : t σ H fun xs H1 => xs.length ≤ sizeLine ∧ ∀ p, H1 p = none → Q (.ref p) (upd H1 p (.tup xs))) : tTup t σ H Q := q
theorem rd_set {p : Addr} {k : Int} {v : V} {xs : List V} {j : Nat} {Q : Hp → Prop} (h : H p = some (.lst xs)) (a : ixN xs.length k = some j) (q : Q (upd H p (.lst (xs.set j v)))) : rSetL (.ref p) (.int k) v H Q := ⟨p, xs, k, j, rfl, rfl, h, a, q⟩
end
/-! ### what stays: all but the objects of ms, and the tables of code objects -/
open LamX in
structure Ext (T : List (Addr × Str)) (ms : List Addr) (H H' : Hp) : Prop where
  keep : ∀ b o, b ∉ ms → (∀ ps, o ≠ .tbl ps) → H b = some o → H' b = some o
  tabs : LamX.Tabs T H → LamX.Tabs T H'
/-- nothing but a table of code objects stands there -/
def Nw (H : Hp) (p : Addr) : Prop := ∀ o, H p = some o → ∃ ps, o = .tbl ps
theorem Nw.of {H : Hp} {p : Addr} (h : H p = none) : Nw H p := fun o e => by
  rw [h] at e
  cases e
theorem Nw.ne {H : Hp} {p q : Addr} {o : HO} (f : Nw H p) (h : H q = some o) (hn : ∀ ps, o ≠ .tbl ps) : q ≠ p := fun z => by
  rw [z] at h
  obtain ⟨ps, e⟩ := f o h
  exact hn ps e
theorem Nw.lst {H : Hp} {p q : Addr} {xs : List V} (f : Nw H p) (h : H q = some (.lst xs)) : q ≠ p := f.ne h fun _ z => by cases z
theorem Nw.tup {H : Hp} {p q : Addr} {xs : List V} (f : Nw H p) (h : H q = some (.tup xs)) : q ≠ p := f.ne h fun _ z => by cases z
section
variable {T : List (Addr × Str)} {ms : List Addr} {K : PySem.W.Frag} {H H1 H2 : Hp}
theorem Ext.back {p : Addr} (e : Ext T ms H H1) (hp : p ∉ ms) (f : Nw H1 p) : Nw H p := fun o ho => Classical.byContradiction fun n => n (f o (e.keep p o hp (fun ps z => n ⟨ps, z⟩) ho))
theorem Ext.refl : Ext T ms H H := ⟨fun _ _ _ _ h => h, id⟩
theorem Ext.trans (a : Ext T ms H H1) (b : Ext T ms H1 H2) : Ext T ms H H2 := ⟨fun c o hc hn h => b.keep c o hc hn (a.keep c o hc hn h), fun t => b.tabs (a.tabs t)⟩
theorem Ext.same (s : Same H H1) : Ext T ms H H1 := ⟨fun c o _ _ h => s c o h, fun t => t.ext s⟩
theorem Ext.new {p : Addr} {o : HO} (h : H p = none) : Ext T ms H (upd H p o) := .same fun b x e => by
  rw [upd_ne (ne_of_none e h)]
  exact e
theorem Ext.wide {ms' : List Addr} (a : Ext T ms H H1) (h : ∀ b, b ∈ ms → b ∈ ms') : Ext T ms' H H1 := ⟨fun c o hc hn => a.keep c o (fun z => hc (h c z)) hn, a.tabs⟩
theorem Ext.any (a : Ext T [] H H1) : Ext T ms H H1 := a.wide fun b h => absurd h (by simp)
/-- a list that may change is changed -/
theorem Ext.mut {p : Addr} {xs : List V} {u : HO} (hp : p ∈ ms) (h : H p = some (.lst xs)) : Ext T ms H (upd H p u) := ⟨fun b x hb _ e => by
  rw [upd_ne (fun z => hb (by rw [z]; exact hp))]
  exact e, fun t q hq => by
  obtain ⟨ps, h1, h2, h3⟩ := t q hq
  refine ⟨ps, ?_, h2, fun pos cv hc => ?_⟩
  · rw [upd_ne]
    · exact h1
    · intro z
      rw [z, h] at h1
      cases h1
  · obtain ⟨c, e1, e2⟩ := h3 pos cv hc
    refine ⟨c, e1, ?_⟩
    rw [upd_ne]
    · exact e2
    · intro z
      rw [z, h] at e2
      unfold LamX.CodeO at e2
      cases e2⟩
theorem Ext.lst {p : Addr} {xs : List V} (e : Ext T ms H H1) (hp : p ∉ ms) (h : H p = some (.lst xs)) : H1 p = some (.lst xs) := e.keep p _ hp (fun _ z => by cases z) h
theorem Ext.tup {p : Addr} {xs : List V} (e : Ext T ms H H1) (hp : p ∉ ms) (h : H p = some (.tup xs)) : H1 p = some (.tup xs) := e.keep p _ hp (fun _ z => by cases z) h
theorem Ext.seqL {a : Addr} {xs : List V} (e : Ext T ms H H1) (ha : a ∉ ms) (h : SqL K H a xs) : SqL K H1 a xs := by
  rcases h with (h | ⟨o, h⟩) | h
  · exact .inl (.inl (e.keep a _ ha (fun _ z => by cases z) h))
  · exact .inl (.inr ⟨o, e.keep a _ ha (fun _ z => by cases z) h⟩)
  · exact .inr h
theorem Ext.seqT {a : Addr} {xs : List V} (e : Ext T ms H H1) (ha : a ∉ ms) (h : SqT K H a xs) : SqT K H1 a xs := by
  rcases h with (h | ⟨o, h⟩) | h
  · exact .inl (.inl (e.keep a _ ha (fun _ z => by cases z) h))
  · exact .inl (.inr ⟨o, e.keep a _ ha (fun _ z => by cases z) h⟩)
  · exact .inr h
end
/-! ### the law's tape -/
/-- the tape at t: the script's list at l, its place, what is left of a cell, the running number, the budget -/
def Tape (l : Addr) (H : Hp) (t : Addr) : Prop := ∃ (ns : List Int) (pos : Nat) (rest st bud : Int), H t = some (.lst [.ref l, .int (pos : Int), .int rest, .int st, .int bud]) ∧ H l = some (.lst (ns.map V.int)) ∧ l ≠ t ∧ 0 ≤ rest ∧ 0 ≤ st
theorem Tape.ext {T : List (Addr × Str)} {H H1 : Hp} {l t : Addr} (p : Tape l H t) (e : Ext T [] H H1) : Tape l H1 t := by
  obtain ⟨ns, pos, rest, st, bud, h1, h2, h3⟩ := p
  exact ⟨ns, pos, rest, st, bud, e.lst (by simp) h1, e.lst (by simp) h2, h3⟩
theorem Tape.upd {H : Hp} {l t q : Addr} {o : HO} (p : Tape l H t) (h : H q = none) : Tape l (upd H q o) t := p.ext (T := []) (.new h)
/-- another object is changed -/
theorem Tape.own {H : Hp} {l t q : Addr} {o : HO} (p : Tape l H t) (h1 : q ≠ t) (h2 : q ≠ l) : Tape l (L2.upd H q o) t := by
  obtain ⟨ns, pos, rest, st, bud, a1, a2, h3⟩ := p
  exact ⟨ns, pos, rest, st, bud, by rw [upd_ne h1.symm]; exact a1, by rw [upd_ne h2.symm]; exact a2, h3⟩
theorem Tape.ne {H : Hp} {l t q : Addr} (p : Tape l H t) (h : Nw H q) : q ≠ t ∧ q ≠ l := by
  obtain ⟨ns, pos, rest, st, bud, a1, a2, _⟩ := p
  exact ⟨(h.lst a1).symm, (h.lst a2).symm⟩
def mixI (n : Int) : Int :=
  ((n * 6364136223846793005 + 1442695040888963407) % 18446744073709551616 * ((n * 6364136223846793005 + 1442695040888963407) % 18446744073709551616) / 4294967296 + (n * 6364136223846793005 + 1442695040888963407) % 18446744073709551616 * 69621) % 18446744073709551557
theorem mixI_nn (n : Int) : 0 ≤ mixI n := Int.emod_nonneg _ (by decide)
def spMix : Sp := fun vs H Q _ => ∃ n : Int, vs = [.int n] ∧ Q (.int (mixI n)) H
def spTape (T : List (Addr × Str)) (K : PySem.W.Frag) : Sp := fun vs H Q _ => ∃ (a : Addr) (ns : List Int) (b : Int), vs = [.ref a, .int b] ∧ SqL K H a (ns.map V.int) ∧ ns.length ≤ 63 ∧ ∀ t l H', Nw H t → Ext T [] H H' → Tape l H' t → Q (.ref t) H'
def spTake (T : List (Addr × Str)) : Sp := fun vs H Q _ => ∃ (l t : Addr) (m : Int), vs = [.ref t, .int m] ∧ 0 < m ∧ m < 2 ^ 64 ∧ Tape l H t ∧ ∀ d H', 0 ≤ d → d < m → Ext T [t] H H' → Tape l H' t → Q (.int d) H'

section
variable {T : List (Addr × Str)} {ms : List Addr} {K : PySem.W.Frag} {H H1 H2 : Hp}
/-- an own new list is changed -/
theorem Ext.own {p : Addr} {xs : List V} {u : HO} (e : Ext T ms H H1) (hn : Nw H p) (h : H1 p = some (.lst xs)) : Ext T ms H (upd H1 p u) := ⟨fun b x hb hx q => by
  rw [upd_ne (hn.ne q hx)]
  exact e.keep b x hb hx q, fun t => (Ext.mut (T := T) (ms := [p]) (u := u) (by simp) h).tabs (e.tabs t)⟩
theorem Ext.newR {p : Addr} {o : HO} (e : Ext T ms H H1) (h : H1 p = none) : Ext T ms H (upd H1 p o) := e.trans (.new h)
theorem Ext.mutR {p : Addr} {xs : List V} {u : HO} (e : Ext T ms H H1) (hp : p ∈ ms) (h : H1 p = some (.lst xs)) : Ext T ms H (upd H1 p u) := e.trans (.mut hp h)
theorem wipe1 {σ : L2.St} {k : Nat} {v : Option V} : wipe ((wipe σ [k]).set k v) [k] = wipe σ [k] := by
  show ((σ.set k none).set k v).set k none = σ.set k none
  rw [List.set_set, List.set_set]
/-- a comprehension over one name whose test and element are functions of the item -/
theorem lc_pure {J : It} {n : Nat} {G : Hp → Prop} {Y : Nat → Hp → V → Hp → Prop} {tt : TT} {te : TE} {σ : L2.St} {D : Addr} {Qd : Hp → Prop} {k : Nat} (w : Walk J n G Y) (xs : List V) (hn : n = xs.length) (hY : ∀ i H x H', Y i H x H' → H' = H ∧ xs[i]? = some x) (hD : H1 D = none)
    (hG : ∀ H, Ext T ms H1 H → G H) (p : V → Bool) (f : V → V) (hl : xs.length < sizeLine)
    (step : ∀ x ∈ xs, ∀ H, Ext T ms H1 H → ∀ (R : V → Hp → Prop) (S : Hp → Prop), (p x = true → ∀ H2, Ext T ms H H2 → R (f x) H2) → (p x = false → ∀ H2, Ext T ms H H2 → S H2) →
      tt ((wipe σ [k]).set k (some x)) H fun b H2 => if b = true then te ((wipe σ [k]).set k (some x)) H2 R else S H2)
    (hDm : D ∉ ms) (hd : ∀ H, Ext T ms H1 H → H D = some (.lst ((xs.filter p).map f)) → Qd H) :
    ∃ W : Nat → Nat → Hp → Prop, (∃ z, W 0 z (upd H1 D (.lst []))) ∧ ∀ j z H, W j z H →
      (J.stop j H ∧ Qd H) ∨ (J.go j H ∧ ∃ Nx : Hp → Prop, (∀ H', Nx H' → ∃ y, y < z ∧ W (j + 1) y H') ∧ ∀ x H', J.yld j H x H' → gName k x (wipe σ [k]) H' fun σ2 H2 => wipe σ2 [k] = wipe σ [k] ∧ tt σ2 H2 fun b H3 =>
        if b = true then te σ2 H3 fun y H4 => ∃ acc, H4 D = some (.lst acc) ∧ acc.length < sizeLine ∧ Nx (upd H4 D (.lst (acc ++ [y]))) else Nx H3) := by
  refine lc_it w (fun i H => Ext T ms H1 H ∧ H D = some (.lst (((xs.take i).filter p).map f))) ⟨.new hD, by rw [List.take_zero]; exact upd_same⟩ (fun i H _ h => hG H h.1) (fun i x H H' hi h y => ?_) (fun H h => ?_)
  · obtain ⟨e1, e2⟩ := hY i H x H' y
    subst e1
    obtain ⟨h1, h2⟩ := h
    have hx : x ∈ xs := List.mem_of_getElem? e2
    have et : xs.take (i + 1) = xs.take i ++ [x] := by rw [List.take_add_one, e2]; rfl
    refine ⟨wipe1, step x hx H' h1 _ _ (fun hp H2 e => ⟨_, e.lst hDm h2, ?_, ?_⟩) (fun hp H2 e => ?_)⟩
    · refine Nat.lt_of_le_of_lt ?_ hl
      rw [List.length_map]
      exact Nat.le_trans (List.length_filter_le _ _) (by rw [List.length_take]; exact Nat.min_le_right _ _)
    · refine ⟨(h1.trans e).own (.of hD) (e.lst hDm h2), ?_⟩
      rw [upd_same, et, List.filter_append, List.map_append, List.filter_cons_of_pos hp]
      rfl
    · refine ⟨h1.trans e, ?_⟩
      rw [et, List.filter_append, List.filter_cons_of_neg (by rw [hp]; decide), List.filter_nil, List.append_nil]
      exact e.lst hDm h2
  · obtain ⟨h1, h2⟩ := h
    rw [hn, List.take_length] at h2
    exact hd H h1 h2
end
/-! ### a list or a tuple walked -/
def iSeq (K : PySem.W.Frag) (tl : TE) : TI := fun σ H R => tl σ H fun x H1 => ∃ a, x = .ref a ∧ (((∃ xs, SqL K H1 a xs) ∧ R (Itl K a) H1) ∨ ((∃ xs, SqT K H1 a xs) ∧ R (Itt K a) H1))
theorem pi_seq {X : Cx} (K : PySem.W.Frag) (hK : X.K = K) {tg l : Expr} {tl : TE} (hl : PE X l tl) : PI X tg l (iSeq K tl) := by
  subst hK
  refine ⟨fun pins s σ H R I h => ?_⟩
  refine thn (hl.run pins s σ H _ I h) fun v s1 ⟨x, H1, I1, r1, a, e, q⟩ => ?_
  subst e
  cases r1
  have fr : ∀ b, b ∈ [s1.heap.objs.size] → ∀ {o : Obj}, FpOk X pins H1 b := fun b hb _ => by
    have e : b = s1.heap.objs.size := by simpa using hb
    rw [e]
    exact I1.fpOk (Nat.le_refl _) (I1.hok.fresh (Nat.le_refl _))
  rcases q with ⟨⟨xs, hq⟩, q⟩ | ⟨⟨xs, hq⟩, q⟩
  · obtain ⟨us, ru, pl, _⟩ := I1.list hq
    refine wpAny_pyIter_list pl.isList ?_
    exact ⟨s1.heap.objs.size, [s1.heap.objs.size], _, _, H1, rfl, I1.kept (t' := s1.toks) fun b o e => Heap.get?_push_of_some _ e, turn_list a _, ⟨_, Heap.get?_push_size _ rfl, rfl, rfl⟩, fun b hb => fr b hb (o := default), q⟩
  · obtain ⟨us, ru, pl, _⟩ := I1.tuple hq
    refine wpAny_pyIter_tuple (show s1.heap.IsTuple a us.toArray from pl) ?_
    exact ⟨s1.heap.objs.size, [s1.heap.objs.size], _, _, H1, rfl, I1.kept (t' := s1.toks) fun b o e => Heap.get?_push_of_some _ e, turn_tuple a _, ⟨_, Heap.get?_push_size _ rfl, rfl, rfl⟩, fun b hb => fr b hb (o := default), q⟩
/-! ### texts as lists of signs -/
abbrev sg (z : Str) : List Nat := z.cps.toList
theorem sg_len (z : Str) : (sg z).length = z.length := Array.length_toList
theorem sg_inj {a b : Str} (h : sg a = sg b) : a = b := TL.ext_tl h
theorem sg_app (a b : Str) : sg (a ++ b) = sg a ++ sg b := TL.tl_append a b
theorem endswith_iff (x y : Str) : Txt.endswith x y = true ↔ sg y <:+ sg x := by
  unfold Txt.endswith
  rw [StrLaws.subAt_eq, Bool.and_eq_true, decide_eq_true_eq, beq_iff_eq]
  rw [List.suffix_iff_eq_drop, ← sg_len, ← sg_len]
  have hx : x.cps.toList.length = (sg x).length := rfl
  constructor
  · rintro ⟨h1, h2⟩
    rw [List.take_of_length_le (by rw [List.length_drop]; omega)] at h2
    exact h2.symm
  · intro h
    have hl := congrArg List.length h
    rw [List.length_drop] at hl
    refine ⟨by omega, ?_⟩
    rw [List.take_of_length_le (by rw [List.length_drop]; omega)]
    exact h.symm

/-! ### comprehensions, read -/
def LcG (J : It) (g : TG) (tt : TT) (te : TE) (vs : List Nat) (σ : L2.St) (H1 : Hp) (Q : VK) : Prop := ∀ D, H1 D = none → ∃ W : Nat → Nat → Hp → Prop, (∃ z, W 0 z (upd H1 D (.lst []))) ∧ ∀ j z H, W j z H →
  (J.stop j H ∧ Q (.ref D) H) ∨ (J.go j H ∧ ∃ Nx : Hp → Prop, (∀ H', Nx H' → ∃ y, y < z ∧ W (j + 1) y H') ∧ ∀ x H', J.yld j H x H' → g x (wipe σ vs) H' fun σ2 H2 => wipe σ2 vs = wipe σ vs ∧ tt σ2 H2 fun b H3 =>
    if b = true then te σ2 H3 fun y H4 => ∃ acc, H4 D = some (.lst acc) ∧ acc.length < sizeLine ∧ Nx (upd H4 D (.lst (acc ++ [y]))) else Nx H3)
section
variable {K : PySem.W.Frag} {σ : L2.St} {H H1 : Hp} {Q : VK} {wi : TI} {g : TG} {tt : TT} {te : TE} {vs : List Nat} {R : It → Hp → Prop}
theorem rd_lc (q : wi σ H fun J H1 => LcG J g tt te vs σ H1 Q) : tLc wi g tt te vs σ H Q := q
theorem rd_iStr (q : te σ H fun v H1 => ∃ x, v = .str x ∧ R (Its x) H1) : iStr te σ H R := q
theorem rd_exStr {z : Str} {P : Str → Prop} (q : P z) : ∃ x, V.str z = .str x ∧ P x := ⟨z, rfl, q⟩
theorem rd_exRef {a : Addr} {P : Addr → Prop} (q : P a) : ∃ x, V.ref a = .ref x ∧ P x := ⟨a, rfl, q⟩
theorem rd_exInt {a : Int} {P : Int → Prop} (q : P a) : ∃ x, V.int a = .int x ∧ P x := ⟨a, rfl, q⟩
theorem rd_exInts {a : Int} {P : Int → Prop} (q : P a) : ∃ x, [V.int a] = [.int x] ∧ P x := ⟨a, rfl, q⟩
theorem rd_seqL {a : Addr} {xs : List V} {B C : Prop} (h : SqL K H1 a xs) (q : B) : ((∃ xs, SqL K H1 a xs) ∧ B) ∨ C := .inl ⟨⟨xs, h⟩, q⟩
theorem rd_seqT {a : Addr} {xs : List V} {B C : Prop} (h : SqT K H1 a xs) (q : B) : C ∨ ((∃ xs, SqT K H1 a xs) ∧ B) := .inr ⟨⟨xs, h⟩, q⟩
theorem rd_iSeq (q : te σ H fun x H1 => ∃ a, x = .ref a ∧ (((∃ xs, SqL K H1 a xs) ∧ R (Itl K a) H1) ∨ ((∃ xs, SqT K H1 a xs) ∧ R (Itt K a) H1))) : iSeq K te σ H R := q
theorem rd_rng {ta : TA} (q : ta σ H fun vs H1 => ∃ j : Int, vs = [.int j] ∧ -(2 ^ 62) ≤ j ∧ j < 2 ^ 62 ∧ R (Itr 0 j.toNat) H1) : iRng1 ta σ H R := q
/-- the signs of a text, each a text -/
def chrs (z : Str) : List V := (sg z).map fun c => .str ⟨#[c]⟩
variable (T : List (Addr × Str)) (ms : List Addr)
theorem lcg_str {z : Str} {k : Nat} (p : V → Bool) (f : V → V) (hz : z.length < sizeLine) (hm : ∀ D, H D = none → D ∉ ms)
    (step : ∀ x ∈ chrs z, ∀ H', Ext T ms H H' → ∀ (R : V → Hp → Prop) (S : Hp → Prop), (p x = true → ∀ H2, Ext T ms H' H2 → R (f x) H2) → (p x = false → ∀ H2, Ext T ms H' H2 → S H2) →
      tt ((wipe σ [k]).set k (some x)) H' fun b H2 => if b = true then te ((wipe σ [k]).set k (some x)) H2 R else S H2)
    (q : ∀ D H2, Nw H D → Ext T ms H H2 → H2 D = some (.lst (((chrs z).filter p).map f)) → Q (.ref D) H2) : LcG (Its z) (gName k) tt te [k] σ H Q := fun D hD =>
  lc_pure walk_str (chrs z) (by rw [chrs, List.length_map, sg_len]; rfl) (fun i H x H' y => by
    obtain ⟨e, c, h1, h2⟩ := y
    refine ⟨e, ?_⟩
    rw [chrs, List.getElem?_map, h2, show (sg z)[i]? = some c by rw [← h1]; exact Array.getElem?_toList]
    rfl) hD (fun _ _ => True.intro) p f (by rw [chrs, List.length_map, sg_len]; exact hz) step (hm D hD) fun H2 e h => q D H2 (.of hD) e h
theorem lcg_list {a : Addr} {xs : List V} {k : Nat} (h : SqL K H a xs) (p : V → Bool) (f : V → V) (hz : xs.length < sizeLine) (ha : a ∉ ms) (hm : ∀ D, H D = none → D ∉ ms)
    (step : ∀ x ∈ xs, ∀ H', Ext T ms H H' → ∀ (R : V → Hp → Prop) (S : Hp → Prop), (p x = true → ∀ H2, Ext T ms H' H2 → R (f x) H2) → (p x = false → ∀ H2, Ext T ms H' H2 → S H2) →
      tt ((wipe σ [k]).set k (some x)) H' fun b H2 => if b = true then te ((wipe σ [k]).set k (some x)) H2 R else S H2)
    (q : ∀ D H2, Nw H D → Ext T ms H H2 → H2 D = some (.lst ((xs.filter p).map f)) → Q (.ref D) H2) : LcG (Itl K a) (gName k) tt te [k] σ H Q := fun D hD =>
  lc_pure walk_list xs rfl (fun i H x H' y => y) hD (fun H' e => e.seqL ha h) p f hz step (hm D hD) fun H2 e h => q D H2 (.of hD) e h
theorem lcg_tup {a : Addr} {xs : List V} {k : Nat} (h : SqT K H a xs) (p : V → Bool) (f : V → V) (hz : xs.length < sizeLine) (ha : a ∉ ms) (hm : ∀ D, H D = none → D ∉ ms)
    (step : ∀ x ∈ xs, ∀ H', Ext T ms H H' → ∀ (R : V → Hp → Prop) (S : Hp → Prop), (p x = true → ∀ H2, Ext T ms H' H2 → R (f x) H2) → (p x = false → ∀ H2, Ext T ms H' H2 → S H2) →
      tt ((wipe σ [k]).set k (some x)) H' fun b H2 => if b = true then te ((wipe σ [k]).set k (some x)) H2 R else S H2)
    (q : ∀ D H2, Nw H D → Ext T ms H H2 → H2 D = some (.lst ((xs.filter p).map f)) → Q (.ref D) H2) : LcG (Itt K a) (gName k) tt te [k] σ H Q := fun D hD =>
  lc_pure walk_tup xs rfl (fun i H x H' y => y) hD (fun H' e => e.seqT ha h) p f hz step (hm D hD) fun H2 e h => q D H2 (.of hD) e h
end
/-- over a range, the elements drawn from the tape -/
theorem lcg_range_tape (T : List (Addr × Str)) {σ : L2.St} {H : Hp} {Q : VK} {te : TE} {n k : Nat} {l t : Addr} (hT : Tape l H t) (Pr : V → Prop) (hn : n < sizeLine)
    (step : ∀ (i : Nat) H', i < n → Ext T [t] H H' → Tape l H' t → ∀ R : VK, (∀ v H2, Pr v → Ext T [t] H' H2 → Tape l H2 t → R v H2) → te ((wipe σ [k]).set k (some (.int (0 + (i : Int))))) H' R)
    (q : ∀ D H2 vs, Nw H D → Ext T [t] H H2 → Tape l H2 t → H2 D = some (.lst vs) → vs.length = n → (∀ v ∈ vs, Pr v) → Q (.ref D) H2) : LcG (Itr 0 n) (gName k) tYes te [k] σ H Q := fun D hD => by
  obtain ⟨nt, nl⟩ := hT.ne (.of hD)
  refine lc_it walk_range (fun i H2 => Ext T [t] H H2 ∧ Tape l H2 t ∧ ∃ vs, H2 D = some (.lst vs) ∧ vs.length = i ∧ ∀ v ∈ vs, Pr v) ⟨.new hD, hT.upd hD, [], upd_same, rfl, by simp⟩ (fun _ _ _ _ => True.intro) (fun i x H1 H' hi h y => ?_) (fun H1 h => ?_)
  · obtain ⟨e1, e2⟩ := y
    subst e1
    subst e2
    obtain ⟨h1, h2, vs, h3, h4, h5⟩ := h
    refine ⟨wipe1, step i H' hi h1 h2 _ fun v H2 hp e t2 => ?_⟩
    have h3' := e.lst (show D ∉ [t] by simpa using nt) h3
    refine ⟨vs, h3', by omega, (h1.trans e).own (.of hD) h3', t2.own nt nl, vs ++ [v], upd_same, by rw [List.length_append, h4]; rfl, fun u hu => ?_⟩
    rcases List.mem_append.mp hu with hu | hu
    · exact h5 u hu
    · rw [List.mem_singleton.mp hu]
      exact hp
  · obtain ⟨h1, h2, vs, h3, h4, h5⟩ := h
    exact q D H1 vs (.of hD) h1 h2 h3 h4 h5
/-! ### loops, read -/
def ForG (J : It) (g : TG) (tb : TS) (D : Ends) (σ : L2.St) (H1 : Hp) : Prop := ∃ W : Nat → Nat → L2.St → Hp → Prop, (∃ z, W 0 z σ H1) ∧ ∀ j z σ H, W j z σ H →
  (J.stop j H ∧ D.nx σ H) ∨ (J.go j H ∧ ∃ N : L2.St → Hp → Prop, (∀ σ' H', N σ' H' → ∃ y, y < z ∧ W (j + 1) y σ' H') ∧ ∀ x H', J.yld j H x H' → g x σ H' fun σ2 H2 => tb { D with nx := N, ct := N, bk := D.nx } σ2 H2)
section
variable {K : PySem.W.Frag} {σ : L2.St} {H H1 : Hp} {wi : TI} {g : TG} {tb : TS} {nx bk ct : L2.St → Hp → Prop} {rt : VK}
theorem rd_for {D : Ends} (q : wi σ H fun J H1 => ForG J g tb D σ H1) : tFor wi g tb D σ H := q
theorem forg_it {J : It} {n : Nat} {G : Hp → Prop} {Y : Nat → Hp → V → Hp → Prop} (w : Walk J n G Y) (Pv : Nat → L2.St → Hp → Prop) (h0 : Pv 0 σ H) (hG : ∀ i σ H, i ≤ n → Pv i σ H → G H)
    (hs : ∀ i x σ H H', i < n → Pv i σ H → Y i H x H' → g x σ H' fun σ2 H2 => tb ⟨Pv (i + 1), rt, nx, Pv (i + 1)⟩ σ2 H2) (hd : ∀ σ H, Pv n σ H → nx σ H) : ForG J g tb ⟨nx, rt, bk, ct⟩ σ H := for_it w Pv h0 hG hs hd
theorem forg_str {z : Str} (Pv : Nat → L2.St → Hp → Prop) (h0 : Pv 0 σ H) (hs : ∀ i c σ H, (sg z)[i]? = some c → Pv i σ H → g (.str ⟨#[c]⟩) σ H fun σ2 H2 => tb ⟨Pv (i + 1), rt, nx, Pv (i + 1)⟩ σ2 H2) (hd : ∀ σ H, Pv (sg z).length σ H → nx σ H) :
    ForG (Its z) g tb ⟨nx, rt, bk, ct⟩ σ H := forg_it walk_str Pv h0 (fun _ _ _ _ _ => True.intro) (fun i x σ H H' hi p y => by
  obtain ⟨e, c, h1, h2⟩ := y
  rw [e, h2]
  exact hs i c σ H (by rw [← h1]; exact Array.getElem?_toList) p) fun σ H h => hd σ H (by rw [sg_len]; exact h)
theorem forg_list {a : Addr} {xs : List V} (Pv : Nat → L2.St → Hp → Prop) (h0 : Pv 0 σ H) (hl : ∀ i σ H, i ≤ xs.length → Pv i σ H → SqL K H a xs)
    (hs : ∀ i x σ H, xs[i]? = some x → Pv i σ H → g x σ H fun σ2 H2 => tb ⟨Pv (i + 1), rt, nx, Pv (i + 1)⟩ σ2 H2) (hd : ∀ σ H, Pv xs.length σ H → nx σ H) : ForG (Itl K a) g tb ⟨nx, rt, bk, ct⟩ σ H :=
  forg_it walk_list Pv h0 hl (fun i x σ H H' hi p y => by
    rw [y.1]
    exact hs i x σ H y.2 p) hd
theorem forg_tup {a : Addr} {xs : List V} (Pv : Nat → L2.St → Hp → Prop) (h0 : Pv 0 σ H) (hl : ∀ i σ H, i ≤ xs.length → Pv i σ H → SqT K H a xs)
    (hs : ∀ i x σ H, xs[i]? = some x → Pv i σ H → g x σ H fun σ2 H2 => tb ⟨Pv (i + 1), rt, nx, Pv (i + 1)⟩ σ2 H2) (hd : ∀ σ H, Pv xs.length σ H → nx σ H) : ForG (Itt K a) g tb ⟨nx, rt, bk, ct⟩ σ H :=
  forg_it walk_tup Pv h0 hl (fun i x σ H H' hi p y => by
    rw [y.1]
    exact hs i x σ H y.2 p) hd
theorem forg_range {lo : Int} {n : Nat} (Pv : Nat → L2.St → Hp → Prop) (h0 : Pv 0 σ H)
    (hs : ∀ (i : Nat) σ H, i < n → Pv i σ H → g (.int (lo + i)) σ H fun σ2 H2 => tb ⟨Pv (i + 1), rt, nx, Pv (i + 1)⟩ σ2 H2) (hd : ∀ σ H, Pv n σ H → nx σ H) : ForG (Itr lo n) g tb ⟨nx, rt, bk, ct⟩ σ H :=
  forg_it walk_range Pv h0 (fun _ _ _ _ _ => True.intro) (fun i x σ H H' hi p y => by
    obtain ⟨e1, e2⟩ := y
    rw [e1, e2]
    exact hs i σ H hi p) hd
end
theorem rd_ntt {A B : Prop} (h : B) : if (!true) = true then A else B := h
theorem rd_nff {A B : Prop} (h : A) : if (!false) = true then A else B := h
theorem rd_cut {σ : L2.St} {H : Hp} {nx bk ct : L2.St → Hp → Prop} {rt : VK} {t u : TS} (Mid : L2.St → Hp → Prop) (h1 : ∀ nx' : L2.St → Hp → Prop, (∀ σ' H', Mid σ' H' → nx' σ' H') → t ⟨nx', rt, bk, ct⟩ σ H) (h2 : ∀ σ' H', Mid σ' H' → u ⟨nx, rt, bk, ct⟩ σ' H') : tSeq t u ⟨nx, rt, bk, ct⟩ σ H := h1 _ h2
theorem rd_cutE {te : TE} {σ : L2.St} {H : Hp} {Q : VK} (Mid : V → Hp → Prop) (h1 : ∀ Q' : VK, (∀ v H', Mid v H' → Q' v H') → te σ H Q') (h2 : ∀ v H', Mid v H' → Q v H') : te σ H Q := h1 Q h2
theorem filtT {α : Type} (l : List α) : l.filter (fun _ => true) = l := List.filter_eq_self.mpr fun _ _ => rfl
/-! ### further steps -/
section
variable {K : PySem.W.Frag} {σ : L2.St} {H : Hp} {Q : VK} {te : TE}
theorem rd_tyes {Q : Bool → Hp → Prop} (q : Q true H) : tYes σ H Q := q
theorem dec_str (a b : Str) : decide (V.str a = V.str b) = decide (a = b) := by
  by_cases h : a = b
  · rw [h]
    simp
  · rw [decide_eq_false h]
    exact decide_eq_false fun z => h (V.str.inj z)
theorem dec_intV (a b : Int) : decide (V.int a = V.int b) = decide (a = b) := by
  by_cases h : a = b
  · rw [h]
    simp
  · rw [decide_eq_false h]
    exact decide_eq_false fun z => h (V.int.inj z)
theorem dec_bl (a b : Bool) : decide (V.bl a = V.bl b) = decide (a = b) := by
  by_cases h : a = b
  · rw [h]
    simp
  · rw [decide_eq_false h]
    exact decide_eq_false fun z => h (V.bl.inj z)
theorem rd_isBool {z : Bool} (q : Q (.bl true) H) : rIsi K [.bl z, .ty "bool"] H Q := ⟨_, _, _, _, true, rfl, .ty _, .base (.bl _), rfl, q⟩
theorem rd_ixS {z : Str} {i : Int} {c : Nat} (hz : z.length ≤ sizeLine) (h : atI z.cps.toList i = some c) (q : Q (.str ⟨#[c]⟩) H) : rIx K (.str z) (.int i) H Q := .inr (.inr ⟨z, i, c, rfl, rfl, hz, h, q⟩)
theorem rd_cat {a b : Addr} {xs ys : List V} (h1 : H a = some (.lst xs)) (h2 : H b = some (.lst ys)) (c : xs.length + ys.length ≤ sizeLine) (q : ∀ p, H p = none → Q (.ref p) (upd H p (.lst (xs ++ ys)))) : rPlus K (.ref a) (.ref b) H Q := .inr (.inr (.inl ⟨a, b, xs, ys, rfl, rfl, h1, h2, c, q⟩))
theorem rd_slS {z : Str} {lo hi : Option Int} (hz : z.length ≤ sizeLine) (q : Q (.str (cutS z lo hi)) H) : rSlU K (.str z) lo hi H Q := .inr (.inl ⟨z, rfl, hz, q⟩)
theorem rd_slL {a : Addr} {xs : List V} {lo hi : Option Int} (h : SqL K H a xs) (q : ∀ p, H p = none → Q (.ref p) (upd H p (.lst (cutV xs lo hi)))) : rSlU K (.ref a) lo hi H Q := .inl ⟨a, xs, rfl, h, q⟩
theorem rd_sl {r : V → Option Int → Option Int → Hp → VK → Prop} {tl th : TO} (q : te σ H fun x H1 => tl σ H1 fun lo H2 => th σ H2 fun hi H3 => r x lo hi H3 Q) : tSl r te tl th σ H Q := q
theorem rd_noP {Q : Option Int → Hp → Prop} (q : Q none H) : tNoPart σ H Q := q
theorem rd_part {Q : Option Int → Hp → Prop} (q : te σ H fun v H1 => ∃ i, v = .int i ∧ Q (some i) H1) : tPart te σ H Q := q
theorem rd_eqStr {a b : Str} (q : Q (.bl (decide (a = b))) H) : rEqU K (.str a) (.str b) H Q := .inl ⟨rfl, by rw [dec_str]; exact q⟩
theorem rd_neStr {a b : Str} (q : Q (.bl (!decide (a = b))) H) : rNeU K (.str a) (.str b) H Q := .inl ⟨rfl, by rw [dec_str]; exact q⟩
theorem rd_eqInt {a b : Int} (q : Q (.bl (decide (a = b))) H) : rEqU K (.int a) (.int b) H Q := .inl ⟨rfl, by rw [dec_intV]; exact q⟩
theorem rd_neInt {a b : Int} (q : Q (.bl (!decide (a = b))) H) : rNeU K (.int a) (.int b) H Q := .inl ⟨rfl, by rw [dec_intV]; exact q⟩
theorem rd_eqBl {a b : Bool} (q : Q (.bl (decide (a = b))) H) : rEqU K (.bl a) (.bl b) H Q := .inl ⟨rfl, by rw [dec_bl]; exact q⟩
theorem rd_rev (q : te σ H fun x H1 => ∃ a xs, x = .ref a ∧ SqL K H1 a xs ∧ ∀ p, H1 p = none → Q (.ref p) (upd H1 p (.lst xs.reverse))) : tRevL K te σ H Q := q
theorem rd_revL {a : Addr} {xs : List V} (h : SqL K H a xs) (q : ∀ p, H p = none → Q (.ref p) (upd H p (.lst xs.reverse))) : ∃ b ys, V.ref a = .ref b ∧ SqL K H b ys ∧ ∀ p, H p = none → Q (.ref p) (upd H p (.lst ys.reverse)) := ⟨a, xs, rfl, h, q⟩
theorem rd_exA {a : Str} {P : Prop} (q : P) : (∃ b, V.str a = .str b) ∧ P := ⟨⟨a, rfl⟩, q⟩
def tFs (ts : List TE) : TE := fun σ H Q => tJs ts Str.empty σ H fun out H1 => Q (.str out) H1
theorem pe_fstr {X : Cx} {v1 v2 : Expr} {rest : List Expr} {ts : List TE} {pos : Pos} (h : PJ X (v1 :: v2 :: rest) ts) : PE X (.JoinedStr (v1 :: v2 :: rest) pos) (tFs ts) := pe_joined h
theorem rd_fs {ts : List TE} (q : tJs ts Str.empty σ H fun out H1 => Q (.str out) H1) : tFs ts σ H Q := q
theorem rd_jc {t : TE} {ts : List TE} {acc : Str} {Q : Str → Hp → Prop} (q : t σ H fun x H1 => ∃ y : Str, x = .str y ∧ (acc ++ y).length ≤ sizeLine ∧ tJs ts (acc ++ y) σ H1 Q) : tJs (t :: ts) acc σ H Q := q
theorem rd_jn {acc : Str} {Q : Str → Hp → Prop} (q : Q acc H) : tJs [] acc σ H Q := q
theorem rd_fmt {t : TE} (q : t σ H fun x H1 => (∃ y : Str, x = .str y ∧ y.length ≤ sizeLine ∧ Q (.str y) H1) ∨ ∃ i : Int, x = .int i ∧ i.natAbs.log2 < 1920 ∧ Q (.str (toString i)) H1) : tFmt t σ H Q := q
theorem rd_fmtS {y : Str} {C : Prop} (h : y.length ≤ sizeLine) (q : Q (.str y) H) : (∃ z : Str, V.str y = .str z ∧ z.length ≤ sizeLine ∧ Q (.str z) H) ∨ C := .inl ⟨y, rfl, h, q⟩
theorem rd_exStrs {y : Str} {P : Str → Prop} (q : P y) : ∃ z : Str, V.str y = .str z ∧ P z := ⟨y, rfl, q⟩
theorem rd_bm {T : String} {r : V → List V → Hp → VK → Prop} {t : TA} (q : te σ H fun x H1 => tyV K T x H1 ∧ t σ H1 fun xs H2 => r x xs H2 Q) : tBM K T r te t σ H Q := q
theorem rd_tyL {p : Addr} {xs : List V} {P : Prop} (h : H p = some (.lst xs)) (q : P) : tyV K "list" (.ref p) H ∧ P := ⟨.inl ⟨rfl, xs, .inl (.inl h)⟩, q⟩
theorem rd_app {p : Addr} {xs : List V} {y : V} (h : H p = some (.lst xs)) (c : xs.length < sizeLine) (q : Q .non (upd H p (.lst (xs ++ [y])))) : rAppend (.ref p) [y] H Q := ⟨p, xs, y, rfl, rfl, h, c, q⟩
end
/-! ### a list of data, sorted -/
section
open PySem.W
def Srt (xs : List V) (ds : List PyData) (ys : List V) : Prop := EachIs (fun y d => (y, d) ∈ xs.zip ds) ys (ds.mergeSort (dataLe false id))
def rSortD (K : PySem.W.Frag) : List V → Hp → VK → Prop := fun vs H Q => ∃ (a : Addr) (xs : List V) (ds : List PyData), vs = [.ref a] ∧ SqL K H a xs ∧ DpAll K H xs ds ∧ AllAlike ds ∧ Sortable ds ∧ (∀ d ∈ ds, d.depth ≤ 60) ∧
  ∀ (ys : List V) (p : Addr), Srt xs ds ys → H p = none → Q (.ref p) (upd H p (.lst ys))
end
def dotS : Str := "."
theorem sg_dot : sg dotS = [46] := by decide +kernel
def lettersS : Str := "abcdefghijklmnopqrstuvwxyz0123456789"
def wordB (z ls : Str) (m : Int) : Bool := decide ((1 : Int) ≤ (z.length : Int)) && (decide ((z.length : Int) ≤ m) && (sg z).all fun c => decide (c ∈ sg ls))
def idB (z : Str) : Bool := wordB z lettersS 4
def labelB (z : Str) : Bool := wordB z lettersS 8
def partsL (z : Str) : List Str := Txt.split z dotS
def nameB (z : Str) : Bool := decide (z = dotS) || (decide (((partsL z).length : Int) ≤ 4) && (partsL z).all labelB)
def labelsL (z : Str) : List Str := if z = dotS then [] else (partsL z).reverse
def endsB (n o : Str) : Bool := decide (o = dotS) || (decide (n = o) || Txt.endswith n (dotS ++ o))
theorem parts_sg (z : Str) : (partsL z).map sg = TL.spl [46] 0 [] (sg z) := by
  have h := TL.split_spl z dotS (by rw [show TL.tl dotS = [46] from sg_dot]; simp) (TL.kind_ok (by decide +kernel))
  rw [show TL.tl dotS = [46] from sg_dot] at h
  exact h
/-- a text is none of its parts longer than itself -/
theorem spl_len : ∀ (l acc : List Nat), (TL.spl [46] 0 acc l).length = l.count 46 + 1
  | [], acc => rfl
  | c :: r, acc => by
    by_cases h : c = 46
    · subst h
      have e : TL.spl [46] 0 acc (46 :: r) = acc :: TL.spl [46] 0 [] r := by
        rw [TL.spl, if_pos (by rfl)]
        rfl
      rw [e, List.length_cons, spl_len r []]
      simp
    · have e : TL.spl [46] 0 acc (c :: r) = TL.spl [46] 0 (acc ++ [c]) r := by
        rw [TL.spl, if_neg]
        show ¬ (TL.pre [46] (c :: r) = true)
        unfold TL.pre
        simpa using h
      rw [e, spl_len r]
      rw [List.count_cons_of_ne h]
theorem parts_len (z : Str) : (partsL z).length = (sg z).count 46 + 1 := by
  rw [← spl_len (sg z) [], ← parts_sg, List.length_map]
theorem parts_le (z : Str) : (partsL z).length ≤ z.length + 1 := by
  have h := List.count_le_length (a := 46) (l := sg z)
  rw [sg_len] at h
  rw [parts_len]
  omega
theorem spl_mem : ∀ (l acc : List Nat) (x : List Nat), x ∈ TL.spl [46] 0 acc l → x.length ≤ acc.length + l.length
  | [], acc, x, h => by
    have h : x ∈ [acc] := h
    rw [List.mem_singleton.mp h]
    omega
  | c :: r, acc, x, h => by
    by_cases hc : c = 46
    · subst hc
      have e : TL.spl [46] 0 acc (46 :: r) = acc :: TL.spl [46] 0 [] r := by
        rw [TL.spl, if_pos (by rfl)]
        rfl
      rw [e] at h
      rcases List.mem_cons.mp h with h | h
      · rw [h]
        omega
      · have := spl_mem r [] x h
        simp only [List.length_cons, List.length_nil] at this ⊢
        omega
    · have e : TL.spl [46] 0 acc (c :: r) = TL.spl [46] 0 (acc ++ [c]) r := by
        rw [TL.spl, if_neg]
        show ¬ (TL.pre [46] (c :: r) = true)
        unfold TL.pre
        simpa using hc
      rw [e] at h
      have := spl_mem r _ x h
      simp only [List.length_cons, List.length_append, List.length_nil] at this ⊢
      omega
theorem parts_mem {z x : Str} (h : x ∈ partsL z) : x.length ≤ z.length := by
  have h1 : sg x ∈ TL.spl [46] 0 [] (sg z) := by
    rw [← parts_sg]
    exact List.mem_map_of_mem h
  have h2 := spl_mem _ _ _ h1
  rw [sg_len, sg_len] at h2
  simpa using h2
theorem fs_dot (u : Str) : (Str.empty ++ Str.ofString ".") ++ u = dotS ++ u := sg_inj (by rw [sg_app, sg_app, sg_app]; rfl)
theorem fs_len (u : Str) (h : u.length ≤ 1000) : (Str.empty ++ Str.ofString "." ++ u).length ≤ sizeLine := by
  have e : (dotS ++ u).length = 1 + u.length := by
    rw [← sg_len, sg_app, List.length_append, sg_dot, sg_len]
    rfl
  rw [fs_dot, e]
  exact Nat.le_trans (show _ ≤ 1001 by omega) (by decide)
theorem dot_len : (Str.ofString ".").length = 1 := by decide +kernel
theorem dot_app (u : Str) (h : u.length ≤ 1000) : (Str.ofString ".").length + u.length ≤ sizeLine := by
  rw [dot_len]
  exact Nat.le_trans (show _ ≤ 1001 by omega) (by decide)
/-- the law's own ends -/
def lawEndsB (n o : Str) : Bool := decide (o = dotS) || (decide (n = o) || decide (cutS n (some (-(o.length : Int) - 1)) none = dotS ++ o))
theorem sIx_tail (n k : Nat) : HT.sIx n 0 (some (-(k : Int) - 1)) = n - (k + 1) := by
  unfold HT.sIx
  simp only []
  split <;> omega
theorem cut_tail (n o : Str) : sg (cutS n (some (-(o.length : Int) - 1)) none) = (sg n).drop (n.length - (o.length + 1)) := by
  unfold cutS
  rw [sIx_tail, HT.sIx_none]
  show (List.toArray _).toList = _
  rw [List.take_of_length_le]
  rw [List.length_drop, show n.cps.toList.length = n.length from sg_len n]
  omega
theorem lawEnds_eq (n o : Str) : lawEndsB n o = endsB n o := by
  unfold lawEndsB endsB
  congr 2
  rw [Bool.eq_iff_iff, decide_eq_true_eq, endswith_iff]
  have hl : (sg (dotS ++ o)).length = o.length + 1 := by
    rw [sg_app, List.length_append, sg_dot, sg_len]
    simp
    omega
  constructor
  · intro h
    have h2 := cut_tail n o
    rw [h] at h2
    rw [h2]
    exact List.drop_suffix _ _
  · intro h
    refine sg_inj ?_
    rw [cut_tail]
    have h2 := List.suffix_iff_eq_drop.mp h
    rw [hl, sg_len] at h2
    exact h2.symm
section
variable (T : List (Addr × Str))
def spWord : Sp := fun vs H Q _ => ∃ (z ls : Str) (m : Int), vs = [.str z, .str ls, .int m] ∧ z.length ≤ 1000 ∧ ∀ H', Ext T [] H H' → Q (.bl (wordB z ls m)) H'
/-- a text in, a truth value out -/
def spTB (f : Str → Bool) : Sp := fun vs H Q _ => ∃ z : Str, vs = [.str z] ∧ z.length ≤ 1000 ∧ ∀ H', Ext T [] H H' → Q (.bl (f z)) H'
def spTTB (f : Str → Str → Bool) : Sp := fun vs H Q _ => ∃ z u : Str, vs = [.str z, .str u] ∧ z.length ≤ 1000 ∧ u.length ≤ 1000 ∧ ∀ H', Ext T [] H H' → Q (.bl (f z u)) H'
/-- a text in, a new list of texts out -/
def spTL (f : Str → List Str) : Sp := fun vs H Q _ => ∃ z : Str, vs = [.str z] ∧ z.length ≤ 1000 ∧ ∀ p H', Nw H p → Ext T [] H H' → H' p = some (.lst ((f z).map V.str)) → Q (.ref p) H'
end

/-! ### an index that lies in it -/
theorem at_in {α : Type} {l : List α} {i : Int} (h0 : 0 ≤ i) (h : i < l.length) : ∃ c, atI l i = some c ∧ l[i.toNat]? = some c ∧ c ∈ l := by
  have hi : i.toNat < l.length := by omega
  have e : i = ((i.toNat : Nat) : Int) := by omega
  obtain ⟨c, hc⟩ : ∃ c, l[i.toNat]? = some c := ⟨_, List.getElem?_eq_getElem hi⟩
  have h2 := atI_nat hc
  rw [← e] at h2
  exact ⟨c, h2, hc, List.mem_of_getElem? hc⟩
def spText (T : List (Addr × Str)) : Sp := fun vs H Q _ => ∃ (l t : Addr) (m : Int), vs = [.ref t, .int m] ∧ 0 < m ∧ m < 100 ∧ Tape l H t ∧ ∀ z H', (z.length : Int) < m → Ext T [t] H H' → Tape l H' t → Q (.str z) H'
def spName (T : List (Addr × Str)) : Sp := fun vs H Q _ => ∃ (l t : Addr) (m : Int), vs = [.ref t, .int m] ∧ 0 < m ∧ m ≤ 4 ∧ Tape l H t ∧ ∀ z H', nameB z = true → z.length ≤ 100 → Ext T [t] H H' → Tape l H' t → Q (.str z) H'

theorem strs_of {S : List Str} : ∀ {vs : List V}, (∀ v ∈ vs, ∃ x ∈ S, v = V.str x) → ∃ ys : List Str, vs = ys.map V.str ∧ ∀ y ∈ ys, y ∈ S
  | [], _ => ⟨[], rfl, by simp⟩
  | v :: r, h => by
    obtain ⟨ys, e, h2⟩ := strs_of (vs := r) fun u hu => h u (List.mem_cons_of_mem _ hu)
    obtain ⟨x, hx, rfl⟩ := h v List.mem_cons_self
    refine ⟨x :: ys, by rw [e]; rfl, fun y hy => ?_⟩
    rcases List.mem_cons.mp hy with hy | hy
    · rw [hy]
      exact hx
    · exact h2 y hy
theorem sum_le {B : Nat} : ∀ {l : List Nat}, (∀ x ∈ l, x ≤ B) → l.sum ≤ l.length * B
  | [], _ => by simp
  | x :: r, h => by
    have h1 := h x List.mem_cons_self
    have h2 := sum_le (l := r) fun y hy => h y (List.mem_cons_of_mem _ hy)
    rw [List.sum_cons, List.length_cons, Nat.succ_mul]
    omega
theorem joinL_len (S : List Nat) : ∀ ps : List (List Nat), (TL.joinL S ps).length ≤ (ps.map List.length).sum + ps.length * S.length
  | [] => by simp [TL.joinL]
  | [p] => by
    show p.length ≤ _
    simp
  | p :: q :: r => by
    have ih := joinL_len S (q :: r)
    show (p ++ (S ++ TL.joinL S (q :: r))).length ≤ _
    rw [List.length_append, List.length_append, List.map_cons, List.sum_cons, List.length_cons (a := p), Nat.succ_mul]
    omega
def joinS (ys : List Str) : Str := Txt.join dotS ys
theorem join_len (ys : List Str) : (joinS ys).length ≤ (ys.map (·.length)).sum + ys.length := by
  have h := joinL_len (sg dotS) (ys.map sg)
  have e : sg (joinS ys) = TL.joinL (sg dotS) (ys.map sg) := by
    show sg (Txt.join dotS ys) = _
    rw [TL.join_eq]
    exact TL.tl_join dotS ys
  rw [← e, sg_len, sg_dot, List.length_map, List.map_map] at h
  have e2 : List.map (List.length ∘ sg) ys = ys.map (·.length) := List.map_congr_left fun y _ => sg_len y
  rw [e2] at h
  simpa using h
theorem parts_join {ys : List Str} (hne : ys ≠ []) (h : ∀ y ∈ ys, 46 ∉ sg y) : partsL (joinS ys) = ys := TL.split_join sg_dot (by decide +kernel) hne h
theorem label_nodot {y : Str} (h : labelB y = true) : 46 ∉ sg y := fun hm => by
  unfold labelB wordB at h
  rw [Bool.and_eq_true, Bool.and_eq_true] at h
  have h2 := of_decide_eq_true (List.all_eq_true.mp h.2.2 46 hm)
  exact absurd h2 (by decide +kernel)
theorem name_join {ys : List Str} (hne : ys ≠ []) (hl : ys.length ≤ 4) (h : ∀ y ∈ ys, labelB y = true) : nameB (joinS ys) = true := by
  unfold nameB
  rw [parts_join hne fun y hy => label_nodot (h y hy), decide_eq_true (show (ys.length : Int) ≤ 4 by omega), List.all_eq_true.mpr h]
  simp
def namesL : List Str := ["land", "shop", "a", "b", "workshop", "x1"]
theorem namesL_ok : ∀ y ∈ namesL, labelB y = true ∧ y.length ≤ 8 := by decide +kernel
def spForms (T : List (Addr × Str)) : Sp := fun vs H Q _ => ∃ (l t : Addr), vs = [.ref t] ∧ Tape l H t ∧ ∀ H', Ext T [t] H H' → Tape l H' t → Q (.bl true) H'
theorem strs_ofP {Pr : Str → Prop} : ∀ {vs : List V}, (∀ v ∈ vs, ∃ x, Pr x ∧ v = V.str x) → ∃ ys : List Str, vs = ys.map V.str ∧ ∀ y ∈ ys, Pr y
  | [], _ => ⟨[], rfl, by simp⟩
  | v :: r, h => by
    obtain ⟨ys, e, h2⟩ := strs_ofP (vs := r) fun u hu => h u (List.mem_cons_of_mem _ hu)
    obtain ⟨x, hx, rfl⟩ := h v List.mem_cons_self
    refine ⟨x :: ys, by rw [e]; rfl, fun y hy => ?_⟩
    rcases List.mem_cons.mp hy with hy | hy
    · rw [hy]
      exact hx
    · exact h2 y hy
theorem at_last {α : Type} {l : List α} {v : α} (h : l.getLast? = some v) : atI l (-1) = some v := by
  obtain ⟨r, e⟩ := List.getLast?_eq_some_iff.mp h
  rw [e]
  exact atI_last _ _

open PySem PySem.Spec PyProof.Rows L2
/-! ### sorted of data -/
section
open PySem.W
theorem each_vals : ∀ {xs : List V} {us : List Value}, Vals xs us → EachIs (fun u x => RelV x u) us xs
  | _, _, .nil => .nil
  | _, _, .cons r t => .cons r (each_vals t)
theorem each_zip {γ : Type} : ∀ {xs : List V} {us : List Value} {ds : List γ}, Vals xs us → ds.length = xs.length → EachIs (fun u d => ∃ y, RelV y u ∧ (y, d) ∈ xs.zip ds) us ds
  | _, _, [], .nil, _ => .nil
  | _, _, d :: ds, .nil, h => by cases h
  | _, _, [], .cons _ _, h => by cases h
  | _, _, d :: ds, .cons (a := x) r t, h => by
    refine .cons ⟨x, r, List.mem_cons_self⟩ ?_
    exact (each_zip t (by simpa using h)).mono fun u e ⟨y, h1, h2⟩ => ⟨y, h1, List.mem_cons_of_mem _ h2⟩
/-- the sorted values, by their abstract ones -/
theorem each_back {γ : Type} {R : V → γ → Prop} : ∀ {us : List Value} {ds : List γ}, EachIs (fun u d => ∃ y, RelV y u ∧ R y d) us ds → ∃ ys, Vals ys us ∧ EachIs R ys ds
  | _, _, .nil => ⟨[], .nil, .nil⟩
  | _, _, .cons ⟨y, h1, h2⟩ t => by
    obtain ⟨ys, a, b⟩ := each_back t
    exact ⟨y :: ys, .cons h1 a, .cons h2 b⟩
theorem dpAll_len {K : PySem.W.Frag} {H : Hp} : ∀ {xs : List V} {ds : List PyData}, DpAll K H xs ds → ds.length = xs.length
  | _, _, .nil => rfl
  | _, _, .cons _ t => by rw [List.length_cons, List.length_cons, dpAll_len t]
theorem call_sortedU {X : Cx} (K : PySem.W.Frag) (hK : X.K = K) (hu : X.A.units + 64 < cLine) : CallR X (.builtin "sorted") (rSortD K) := by
  subst hK
  intro pins s σ H vs us Q I r h
  obtain ⟨a, xs, ds, rfl, hs, hd, hal, hk, hdep, q⟩ := h
  cases r with
  | cons r t =>
    cases t
    cases r
    obtain ⟨its, rv, hl, hz⟩ := I.list hs
    have hlen := dpAll_len hd
    obtain ⟨as, hr⟩ := Dp.readsAll I ds xs its hd rv
    have er : EachIs (fun v d => ∃ as, Reads s.heap v (id d) as) its ds := readsAll_each (enc := id) (bs := ds) (by rw [List.map_id]; exact hr)
    refine sorted_data (bs := ds) (enc := id) hl.isList (each_zip rv hlen) er (by rw [List.map_id]; exact hal) (by rw [List.map_id]; exact hk) (by rw [hlen]; exact hz) (fun d hm => ?_) fun out ho he => ?_
    · have := hdep d hm
      show X.A.units + 2 + d.depth < cLine
      omega
    · obtain ⟨ys, h1, h2⟩ := each_back he
      obtain ⟨ep, hp⟩ := PyProof.Rows.sortedAll_at s.heap its (List.toArray out)
      refine ⟨.ref _, upd H (s.heap.objs.size + 1) (.lst ys), I.laid (t' := s.toks) (fun _ _ => PyProof.Rows.sortedAll_old) (Nat.le_succ _) ⟨?_, out, ep, h1, hp⟩, rfl, q ys _ h2 (I.hok.fresh (Nat.le_succ _))⟩
      rw [h1.length, ho, hlen]
      exact hz
end

open PySem PySem.Spec PyProof.Rows L2
/-! ### sorted(xs, key=lambda x: ..) whose keys are ints -/
section
variable {P : Program} {w : World} {K : PySem.W.Frag} {mg : Str → Option Value} {base : Heap} {N : List Str} {x q : Str} {scope : Scope} {k : Nat} {f c : Addr} {params : Arguments} {body : Expr} {pm ctv : Value} {tb : TE}
/-- a lambda's object without captured names, called on one value -/
theorem lam_run {A : Around} {outer : List Env} {s : Shared} {H : Hp} {u : Value} {v : V} {Q : VK} (of : s.heap.get? f = some (PySem.W.kla_obj "<lambda>" q params body scope [] pm c ctv)) (hc : s.heap.CodeRec (.ref c) q) (S : FnScope N [x] scope) (hr : Room (k + 1) A)
    (e0 : Env0 P w K mg base A outer s H) (hb : bindArgs (PySem.W.kla_fn "<lambda>" q params body scope [] pm (.ref c) ctv) ⟨[u], []⟩ = pure [(x, u)]) (r : RelV v u)
    (hbody : PE (cxOf CX0 P w K mg base N q scope f (.ref c) A outer s H E0) body tb) (h : tb (start N [v]) H Q) :
    codeAny (model P w) A (.call (.ref f) ⟨[u], []⟩) (CR CX0 outer P w H s Q E0) s := by
  have lim : s.heap.NoLimit := e0.mod.nolimit.keeps fun b o e => (e0.bs b o e).1
  refine PySem.W.kla_callFunE hr.depth of rfl S.co S.gen rfl hc ?_
  rw [hb]
  refine wpAny_pure (wpAny_newFunctionEnv_cells S.kind (fun y hy => ?_) fun env he s1 z => ?_)
  · obtain rfl : y = (x, u) := by simpa using hy
    rcases S.par x (by simp) with j | j
    · exact .inl j
    · exact .inr ⟨j, PySem.W.cellsFrom_some _ _ _ (.inl j)⟩
  · subst he
    refine ⟨lim.keeps z.toInCall.keep, ?_⟩
    have I : Inv (cxOf CX0 P w K mg base N q scope f (.ref c) A outer s H E0) [] (start N [v]) H s1 := inv_start S hr.hd e0 rfl (.cons r .nil) z
    refine PySem.W.kla_codeExpr (wpAny_mono (hbody.run [] s1 _ H Q I h) (fun y s' hy => ?_) fun e s' he => he)
    obtain ⟨y', H', J, ry, qy⟩ := hy
    exact ⟨y', H', J.os, J.bare, J.base, J.hok, ry, qy⟩
end
/-- an untracked object is changed -/
theorem hok_free {P : Program} {w : World} {H : Hp} {h h' : Heap} {c : Addr} (ok : HOk P w H h) (n : H c = none) (kp : ∀ b o, b ≠ c → h.get? b = some o → h'.get? b = some o) : HOk P w H h' := fun a o e =>
  (ok a o e).stay (fun b u hb g => kp b u (by
    rintro rfl
    rcases hb with hb | hb
    · rw [← hb, n] at e
      cases e
    · rw [n] at hb
      cases hb) g) (fun _ z => z) fun _ _ z => z
theorem un_free {fs : List Addr} {H : Hp} {h h' : Heap} {c : Addr} (kp : ∀ b o, b ≠ c → h.get? b = some o → h'.get? b = some o) (there : ∃ o, h'.get? c = some o) : Un fs [c] H H h h' where
  keep := fun b o e _ _ hx => kp b o (by simpa using hx) e
  slot := fun b o e _ _ hx => ⟨o.slots, kp b o (by simpa using hx) e⟩
  free := fun _ _ _ n _ => n
  there := fun b o e hx => ⟨o, kp b o (by simpa using hx) e⟩
  tups := fun _ _ e => e
  frzs := fun _ _ _ e => e
  tbls := fun _ ps e => ⟨#[], by simpa using e⟩
/-- what was not there does not count -/
theorem un_drop {fs : List Addr} {H H' : Hp} {h h' : Heap} {c : Addr} (u : Un fs [c] H H' h h') (n : h.get? c = none) : Un fs [] H H' h h' := by
  have ne : ∀ b o, h.get? b = some o → b ∉ [c] := fun b o e z => by
    rw [show b = c by simpa using z, n] at e
    cases e
  exact ⟨fun b o e n1 n2 _ => u.keep b o e n1 n2 (ne b o e), fun b o e n1 n2 _ => u.slot b o e n1 n2 (ne b o e), fun b o e n1 _ => u.free b o e n1 (ne b o e), fun b o e _ => u.there b o e (ne b o e), u.tups, u.frzs, u.tbls⟩
theorem not_fr {X : Cx} {pins : List (Addr × Obj)} {σ : L2.St} {H : Hp} {s : Shared} (I : Inv X pins σ H s) {b : Addr} (hb : s.heap.objs.size ≤ b) : b ∉ frs X.stack := by
  intro z
  cases List.mem_cons.mp (I.stkSub b z) with
  | inl e =>
    have h1 := I.lt
    subst e
    exact absurd (Nat.lt_of_lt_of_le h1 hb) (Nat.lt_irrefl _)
  | inr e => exact I.nofs hb e
theorem vals_each : ∀ {xs : List V} {us : List Value}, PySem.W.EachIs (fun u x => RelV x u) us xs → Vals xs us
  | _, _, .nil => .nil
  | _, _, .cons r t => .cons r (vals_each t)
theorem ints_read (h : Heap) : ∀ {ks : List Int} {us : List Value}, Vals (ks.map V.int) us → PySem.W.EachIs (fun u d => ∃ as, Reads h u d as) us (ks.map PyData.int)
  | [], _, .nil => .nil
  | n :: ks, _, .cons ⟨t, e⟩ r => by
    subst e
    exact .cons ⟨[], .int n t⟩ (ints_read h r)

section
open PySem.W
def tSortLam (T : List (Addr × Str)) (K : PySem.W.Frag) (N : List Str) (ta : TA) (tb : TE) : TE := fun σ H Q => ta σ H fun vs H1 => ∃ (a : Addr) (xs : List V) (κ : V → Int), vs = [.ref a] ∧ SqL K H1 a xs ∧ LamX.Tabs T H1 ∧
  (∀ x ∈ xs, ∀ H2, Ext T [] H1 H2 → ∀ Q' : VK, (∀ H3, Ext T [] H2 H3 → Q' (.int (κ x)) H3) → tb (start N [x]) H2 Q') ∧ ∀ q H3, Nw H1 q → Ext T [] H1 H3 → H3 q = some (.lst (xs.mergeSort fun a b => decide (κ a ≤ κ b))) → Q (.ref q) H3
theorem tab_ext {T : List (Addr × Str)} {H H1 : Hp} (e : LamX.ExtN H H1) (t : LamX.Tabs T H1) : Ext T [] H H1 := ⟨fun b o _ n h => e b o h n, fun _ => t⟩
/-- the sort's loop over the items and its end -/
theorem sort_lam_run {X : Cx} {pins : List (Addr × Obj)} {σ : L2.St} {H : Hp} {s : Shared} {T : List (Addr × Str)} {N : List Str} {x q : Str} {scope : Scope} {k : Nat} {f c l : Addr} {params : Arguments} {body : Expr} {pm ctv : Value} {tb : TE} {xs : List V} {κ : V → Int} {Q : VK}
    (I : Inv X pins σ H s) (of : s.heap.get? f = some (kla_obj "<lambda>" q params body scope [] pm c ctv)) (fn : H f = none) (ff : f ∉ frs X.stack) (hc : H c = some (LamX.CodeO c q)) (S : FnScope N [x] scope) (hr : Room (k + 2) X.A)
    (hb : ∀ u, bindArgs (kla_fn "<lambda>" q params body scope [] pm (.ref c) ctv) ⟨[u], []⟩ = pure [(x, u)])
    (hbody : ∀ (A : Around) (s : Shared) (H : Hp), Room k (A.deeper (envOfC q scope s.heap.objs.size f (.ref c))) → PE (cxOf CX0 X.prog X.w X.K X.mg X.base N q scope f (.ref c) A X.stack s H E0) body tb)
    (hl : SqL X.K H l xs) (turn : ∀ x ∈ xs, ∀ H2, Ext T [] H H2 → ∀ Q' : VK, (∀ H3, Ext T [] H2 H3 → Q' (.int (κ x)) H3) → tb (start N [x]) H2 Q')
    (done : ∀ q H3, Nw H q → Ext T [] H H3 → H3 q = some (.lst (xs.mergeSort fun a b => decide (κ a ≤ κ b))) → Q (.ref q) H3) :
    wpAny (model X.prog X.w) X.A (call (.builtin "sorted") [.ref l] [(Str.ofString "key", .ref f)]) (EP X pins σ Q) X.xe s := by
  obtain ⟨its, rv, pl, hz⟩ := I.list hl
  have hlen : its.length = xs.length := rv.length.symm
  have hz' : its.length ≤ sizeLine := by rw [hlen]; exact hz
  refine sorted_of_sort pl.isList hz' (ksk_s1 _ _) (fun _ => ksk_l1 _ _) fun E' => ?_
  rw [ksk_t1]
  have hA := copyHeap_at s.heap its
  have hsz : (copyHeap s.heap its).objs.size = s.heap.objs.size + 2 := by
    unfold copyHeap
    rw [size_push', Heap.size_update, size_push']
  generalize ha : s.heap.objs.size + 1 = a at hA ⊢
  unfold ksk_tree
  obtain ⟨e1, hA1⟩ : ∃ e1, ((copyHeap s.heap its).update a (Obj.mapSeq fun _ => (#[] : Array Value))).get? a = some (seqObj "list" #[] e1) := ⟨_, get?_update_seq hA fun _ => #[]⟩
  refine wpAny_bind (listItems_at hA rfl ?_)
  refine wpAny_bind (listUpdate_at hA rfl ?_ (by rw [List.size_toArray]; exact hz') (Nat.zero_le _))
  refine wpAny_bind (seqEpoch_at hA1 rfl ?_)
  refine wpAny_bind (wpAny_newTuple ?_ (by show its.length ≤ _; exact hz'))
  refine wpAny_bind (wpAny_newList ?_ (Nat.zero_le _))
  refine wpAny_holding ?_
  have hkv : ((copyHeap s.heap its).update a (Obj.mapSeq fun _ => (#[] : Array Value)) |>.push (seqObj "tuple" its.toArray 0)).objs.size = s.heap.objs.size + 3 := by
    rw [size_push', Heap.size_update, hsz]
  show wpAny _ _ _ _ _ { s with heap := (((copyHeap s.heap its).update a (Obj.mapSeq fun _ => (#[] : Array Value))).push (seqObj "tuple" its.toArray 0)).push (seqObj "list" #[] 0) }
  have gK : ((((copyHeap s.heap its).update a (Obj.mapSeq fun _ => (#[] : Array Value))).push (seqObj "tuple" its.toArray 0)).push (seqObj "list" #[] 0)).get? (s.heap.objs.size + 3) = some (seqObj "list" #[] 0) := by
    rw [← hkv]
    exact Heap.get?_push_size _ rfl
  have gA : ((((copyHeap s.heap its).update a (Obj.mapSeq fun _ => (#[] : Array Value))).push (seqObj "tuple" its.toArray 0)).push (seqObj "list" #[] 0)).get? a = some (seqObj "list" #[] e1) := Heap.get?_push_of_some _ (Heap.get?_push_of_some _ hA1)
  have gO : ∀ b o, s.heap.get? b = some o → ((((copyHeap s.heap its).update a (Obj.mapSeq fun _ => (#[] : Array Value))).push (seqObj "tuple" its.toArray 0)).push (seqObj "list" #[] 0)).get? b = some o := fun b o e => by
    have hb : b ≠ a := by
      rw [← ha]
      exact Nat.ne_of_lt (Nat.lt_succ_of_lt (Heap.lt_size e))
    exact sortingHeap_old hb (copyHeap_old e)
  have eK : (((copyHeap s.heap its).update a (Obj.mapSeq fun _ => (#[] : Array Value))).push (seqObj "tuple" its.toArray 0)).objs.size = s.heap.objs.size + 3 := hkv
  rw [eK]
  generalize hk : s.heap.objs.size + 3 = kS at gK ⊢
  generalize ((((copyHeap s.heap its).update a (Obj.mapSeq fun _ => (#[] : Array Value))).push (seqObj "tuple" its.toArray 0)).push (seqObj "list" #[] 0)) = G at gK gA gO ⊢
  have hka : kS ≠ a := by
    rw [← hk, ← ha]
    exact Nat.ne_of_gt (Nat.lt_succ_of_lt (Nat.lt_succ_self _))
  have hleA : s.heap.objs.size ≤ a := by
    rw [← ha]
    exact Nat.le_succ _
  have hleK : s.heap.objs.size ≤ kS := by
    rw [← hk]
    exact Nat.le_add_right _ 3
  have sA : s.heap.get? a = none := Heap.get?_none_of_le hleA
  have sK : s.heap.get? kS = none := Heap.get?_none_of_le hleK
  have fA := not_fr I hleA
  have fK := not_fr I hleK
  unfold ksk_rest
  refine wpAny_bind (wpAny_rule ?_)
  rw [List.forIn_toArray]
  refine wpAny_bind (ksk_fold (fun i st => ∃ (Hi : Hp) (keys : Array Value) (ep : Nat), st.os = s.os ∧ AllBare st.gens ∧ Un (frs X.stack) [] H Hi s.heap st.heap ∧ HOk X.prog X.w Hi st.heap ∧ Ext T [] H Hi ∧ Hi a = none ∧ Hi kS = none ∧ Hi f = none ∧
      st.heap.get? kS = some (seqObj "list" keys ep) ∧ st.heap.get? a = some (seqObj "list" #[] e1) ∧ st.heap.get? f = some (kla_obj "<lambda>" q params body scope [] pm c ctv) ∧ Vals (((xs.take i).map κ).map V.int) keys.toList) its 0 _
    ⟨H, #[], 0, rfl, I.bare, .kept gO, I.hok.kept gO, .refl, I.hok.fresh hleA, I.hok.fresh hleK, fn, gK, gA, gO _ _ of, .nil⟩ ?step ?fin)
  case step =>
    rintro j v st hv ⟨Hi, keys, ep, k1, k2, k3, k4, k5, k6, k7, k8, k9, k10, k11, k12⟩
    simp only [Nat.zero_add] at k12 ⊢
    have J : Inv X pins σ Hi st := I.call' (ch := []) k1 k3 k4 k2 (by simp)
    have hj : j < its.length := (List.getElem?_eq_some_iff.mp hv).1
    obtain ⟨y, hy⟩ : ∃ y, xs[j]? = some y := ⟨_, List.getElem?_eq_getElem (by omega)⟩
    have hym : y ∈ xs := List.mem_of_getElem? hy
    obtain ⟨v', hv', ry⟩ := rv.get hy
    rw [hv] at hv'
    cases hv'
    have e0 := J.env0
    have hci : Hi c = some (LamX.CodeO c q) := k5.keep c _ (by simp) (fun ps z => LamX.codeO_ne ps z) hc
    obtain ⟨⟨oc, vs0, tq, c1, c2, c3⟩, _, _⟩ := k4 c _ hci
    have hr2 : Room (k + 1) X.A.in1.in1 := ⟨hr.hd, by have := hr.dp; show X.A.depth + 3 * (k + 1) + 5 < _; omega, by have := hr.un; show X.A.units + 1 + 1 + 16 * (k + 1) + 200 < _; omega⟩
    have rc := lam_run (k := k) (A := X.A.in1.in1) (outer := X.stack) (Q := fun r H3 => r = .int (κ y) ∧ Ext T [] Hi H3) k11 ⟨c, oc, vs0, tq, rfl, c1, c2, c3⟩ S hr2 ⟨e0.frames, e0.mod, e0.bs, e0.bsz, e0.funs, e0.frf, e0.hok, e0.bare⟩ (hb v) ry
      (hbody X.A.in1.in1 st Hi (hr2.deeper _)) (turn y hym Hi k5 _ fun H3 e3 => ⟨rfl, e3⟩)
    refine wpAny_bind (wpAny_attempt (wpAny_mono (wpAny_call (Q := fun u s2 => ∃ H', s2.os = s.os ∧ AllBare s2.gens ∧ Un (frs X.stack) [] Hi H' st.heap s2.heap ∧ HOk X.prog X.w H' s2.heap ∧ Ext T [] Hi H' ∧ ∃ t, u = .int (κ y) t) (E := fun _ _ => False)
      (codeAny_mono rc fun r s2 hq => ?_)) (fun u s2 he => ?_) fun _ _ z => z.elim))
    · cases r with
      | error e => exact False.elim hq
      | ok fl =>
        cases fl with
        | next => exact False.elim hq
        | brk => exact False.elim hq
        | cont => exact False.elim hq
        | ret u =>
          obtain ⟨z, H', h1, h2, h3, h4, h5, h6, h7⟩ := hq
          subst h6
          exact ⟨H', h1.trans k1, h2, h3, h4, h7, h5⟩
    · obtain ⟨H', m1, m2, m3, m4, m5, t', rfl⟩ := he
      have nA := m3.free a _ k10 k6 (by simp)
      have nK := m3.free kS _ k9 k7 (by simp)
      have nF := m3.free f _ k11 k8 (by simp)
      have gK2 := m3.keep kS _ k9 k7 fK (by simp)
      have gA2 := m3.keep a _ k10 k6 fA (by simp)
      have gF2 := m3.keep f _ k11 k8 ff (by simp)
      have sb := Heap.SameBut.update s2.heap kS (Obj.mapSeq (·.push (.int (κ y) t')))
      obtain ⟨c2', hc2⟩ : ∃ c2, (s2.heap.update kS (Obj.mapSeq (·.push (.int (κ y) t')))).get? kS = some (seqObj "list" (keys.push (.int (κ y) t')) c2) := ⟨_, get?_update_seq gK2 (·.push (.int (κ y) t'))⟩
      have kp : ∀ b o, b ≠ kS → s2.heap.get? b = some o → (s2.heap.update kS (Obj.mapSeq (·.push (.int (κ y) t')))).get? b = some o := fun b o hb e => (sb.2 b hb).trans e
      have hkl : keys.size = j := by
        have h1 := k12.length
        have h0 : keys.toList.length = keys.size := Array.length_toList
        rw [List.length_map, List.length_map, List.length_take] at h1
        omega
      have hfk : f ≠ kS := fun z => by
        rw [z] at of
        rw [sK] at of
        cases of
      refine wpAny_bind (listUpdate_at gK2 rfl ?_ (by rw [hkl]; omega) (by show (keys.push _).size ≤ _; rw [Array.size_push, hkl]; omega))
      refine wpAny_pure ⟨rfl, H', keys.push (.int (κ y) t'), c2', m1, m2, ?_, hok_free m4 nK kp, k5.trans m5, nA, nK, nF, hc2, kp a _ hka.symm gA2, kp f _ hfk gF2, ?_⟩
      · exact un_drop (((k3.mono (fun _ z => z) (fun _ z => absurd z (by simp))).trans (m3.mono (fun _ z => z) (fun _ z => absurd z (by simp)))).trans (un_free kp ⟨_, hc2⟩)) sK
      · rw [List.take_add_one, hy, Array.toList_push, List.map_append, List.map_append]
        exact k12.append (.cons ⟨t', rfl⟩ .nil)
  case fin =>
    rintro st ⟨Hi, keys, ep, k1, k2, k3, k4, k5, k6, k7, k8, k9, k10, k11, k12⟩
    have et : xs.take (0 + its.length) = xs := List.take_of_length_le (by omega)
    rw [et] at k12
    have hkl : keys.size = its.length := by
      have h1 := k12.length
      have h0 : keys.toList.length = keys.size := Array.length_toList
      rw [List.length_map, List.length_map] at h1
      omega
    refine wpAny_bind (listItems_at k9 rfl ?_)
    have hrd : EachIs (fun u d => ∃ as, Reads st.heap u d as) keys.toList (xs.map fun y => PyData.int (κ y)) := by
      have h1 := ints_read st.heap (ks := xs.map κ) k12
      rw [List.map_map] at h1
      exact h1
    have hal : AllAlike (xs.map fun y => PyData.int (κ y)) := fun d hd d' hd' => by
      obtain ⟨y, _, rfl⟩ := List.mem_map.mp hd
      obtain ⟨y', _, rfl⟩ := List.mem_map.mp hd'
      rfl
    have hso : PySem.W.Sortable (xs.map fun y => PyData.int (κ y)) := .inr fun d hd => by
      obtain ⟨y, _, rfl⟩ := List.mem_map.mp hd
      exact ⟨(fun z => nomatch z), (fun _ z => nomatch z)⟩
    refine keyH_end (κ := dataKind st.heap (xs.map fun y => PyData.int (κ y))) (h₁ := hideAll st.heap [kS]) (fun b o _ e => of_hideAll _ e) (hideAll_none _ (by simp)) k9 k10 hka
      (SortsAt.data (s := st) hrd hal hso fun d hd => ?_) hkl hz' fun h' tk c3 kb na => ?_
    · obtain ⟨y, _, rfl⟩ := List.mem_map.mp hd
      have h1 := hr.un
      show X.A.units + 1 + 1 + 0 < cLine
      omega
    · refine ⟨rfl, ?_⟩
      have ho := keyedOut_each (fun y : V => PyData.int (κ y)) (rev := false) (bs := xs) (vs := its) ⟨st.heap, keys.toList, hal, rfl, hrd⟩ (each_vals rv)
      rw [dataLe_int] at ho
      have hv := vals_each ho
      have kp : ∀ b o, b ≠ a → b ≠ kS → st.heap.get? b = some o → h'.get? b = some o := fun b o h1 h2 e => kb b o h1 (hideAll_get _ e (by simpa using h2))
      have nA : ∀ b u, Hi b = some u → b ≠ a := fun b u e => ne_of_none e k6
      have nK : ∀ b u, Hi b = some u → b ≠ kS := fun b u e => ne_of_none e k7
      have oA : ∀ b o, s.heap.get? b = some o → b ≠ a := fun b o e z => by
        rw [z, sA] at e
        cases e
      have oK : ∀ b o, s.heap.get? b = some o → b ≠ kS := fun b o e z => by
        rw [z, sK] at e
        cases e
      have hml : (xs.mergeSort fun a b => decide (κ a ≤ κ b)).length ≤ sizeLine := by
        rw [List.length_mergeSort]
        exact hz
      have hok2 : HOk X.prog X.w (upd Hi a (.lst (xs.mergeSort fun a b => decide (κ a ≤ κ b)))) h' := fun b u e => by
        by_cases hb : b = a
        · subst hb
          rw [upd_same] at e
          cases e
          exact ⟨hml, _, c3, hv, na⟩
        · rw [upd_ne hb] at e
          refine (k4 b u e).stay (fun d o hd g => ?_) (fun d g => by rw [upd_ne (nA d _ g)]; exact g) fun d ys g => by rw [upd_ne (nA d _ g)]; exact g
          rcases hd with rfl | hd
          · exact kp _ _ hb (nK _ _ e) g
          · exact kp _ _ (nA _ _ hd) (nK _ _ hd) g
      have un2 : Un (frs X.stack) [] H (upd Hi a (.lst (xs.mergeSort fun a b => decide (κ a ≤ κ b)))) s.heap h' := by
        refine ⟨fun b o e n nf nx => kp b o (oA b o e) (oK b o e) (k3.keep b o e n nf nx), fun b o e n nf nx => ?_, fun b o e n nx => ?_, fun b o e nx => ?_, fun b ys e => ?_, fun b o u e => ?_, fun b ps e => ?_⟩
        · obtain ⟨sl, e2⟩ := k3.slot b o e n nf nx
          exact ⟨sl, kp b _ (oA b o e) (oK b o e) e2⟩
        · rw [upd_ne (oA b o e)]
          exact k3.free b o e n nx
        · obtain ⟨o', e2⟩ := k3.there b o e nx
          exact ⟨o', kp b _ (oA b o e) (oK b o e) e2⟩
        · have e2 := k3.tups b ys e
          rw [upd_ne (nA b _ e2)]
          exact e2
        · have e2 := k3.frzs b o u e
          rw [upd_ne (nA b _ e2)]
          exact e2
        · obtain ⟨more, e2⟩ := k3.tbls b ps e
          exact ⟨more, by rw [upd_ne (nA b _ e2)]; exact e2⟩
      refine ⟨.ref a, _, I.call' (s' := { st with heap := h', toks := tk }) (ch := []) k1 un2 hok2 k2 (by simp), rfl, done a _ (.of (I.hok.fresh hleA)) (k5.newR k6) upd_same⟩
theorem pe_sortedLam {X : Cx} {T : List (Addr × Str)} (K : PySem.W.Frag) (hK : X.K = K) {N : List Str} {x : Str} {e : Expr} {ta : TA} {tb : TE} {c P : Addr} {k : Nat} {params : Arguments} {body : Expr} {scope : Scope} {p lpos kpos pos : Pos}
    (TB : LamX.TabB X.base X.mg c P) (hcode : X.env.code = .ref c) (hmT : (P, X.env.qual ++ "<lambda>") ∈ T) (hu : ∀ z ∈ T, z.1 = P → z.2 = X.env.qual ++ "<lambda>") (hr : Room (k + 2) X.A) (S : FnScope N [x] scope)
    (hbody : ∀ (A : Around) (s : Shared) (H : Hp) (f c' : Addr), Room k (A.deeper (envOfC (X.env.qual ++ "<lambda>") scope s.heap.objs.size f (.ref c'))) → PE (cxOf CX0 X.prog X.w X.K X.mg X.base N (X.env.qual ++ "<lambda>") scope f (.ref c') A X.stack s H E0) body tb)
    (hg : Gl X "sorted") (hm : X.mg "sorted" = none) (ha : PA X [e] ta) (hcl : cloFrom X.env.cells scope.names [] = [] := by rfl) (hfr : ∀ y ∈ scope.names, y.2 ≠ .free := by decide +kernel)
    (hdef : defaultsOf params X.env = ([], []) := by rfl)
    (hb : ∀ (q : Str) (pm cv ctv u : Value), bindArgs (kla_fn "<lambda>" q params body scope [] pm cv ctv) ⟨[u], []⟩ = pure [(x, u)] := by intros; rfl)
    (hst : backTo pos (starEach [e] X.env) = (false, eval e X.env) :: backTo pos (starEach [] X.env) := by rfl) (hpl : (backTo pos (starEach [e] X.env)).any (·.1) = false := by rfl) :
    PE X (.Call (.Name "sorted" p) [e] [⟨some "key", .Lambda params body scope lpos, kpos⟩] pos) (tSortLam T K N ta tb) := by
  subst hK
  refine ⟨fun pins s σ H Q I h => ?_⟩
  refine wpAny_Call_Name_kw (ld_blt I hg hm (by decide +kernel : bootBuiltins "sorted" = some (.builtin "sorted")) ?_)
  refine PyProof.Rows.callWith_kw (thn (ha.run pos pins s σ H _ I h) fun us s1 ⟨vs, H1, I1, r1, a, xs, κ, ea, hl, ht, turn, done⟩ => ?_) hst hpl rfl rfl
  subst ea
  cases r1 with
  | cons r rr =>
    cases rr
    cases r
    show wpAny _ _ (evalAll [do let v ← eval (.Lambda params body scope lpos) X.env; standAt pos; pure v]) _ _ s1
    refine wpAny_evalAll_cons (wpAny_bind (LamX.lam_make2 I1 TB hcode hmT hu ht hdef (fun y hy z => absurd z (hfr y hy)) fun f c' pm ctv H2 s2 I2 eN T2 hf hfn hff hco => ?_))
    refine wpAny_bind (wpAny_standAt (wpAny_pure (wpAny_evalAll_nil ?_)))
    rw [hcl] at hf
    have e2 := tab_ext eN T2
    exact sort_lam_run (k := k) (κ := κ) (T := T) (I2) hf hfn hff hco S hr (fun u => hb _ _ _ _ u) (fun A s H hr' => hbody A s H f c' hr') (e2.seqL (by simp) hl) (fun x hx H3 e3 => turn x hx H3 (e2.trans e3)) fun q H3 nq e3 hq => done q H3 (e2.back (by simp) nq) (e2.trans e3) hq
theorem rd_sortLam {T : List (Addr × Str)} {K : PySem.W.Frag} {N : List Str} {ta : TA} {tb : TE} {σ : L2.St} {H : Hp} {Q : VK} (q : ta σ H fun vs H1 => ∃ (a : Addr) (xs : List V) (κ : V → Int), vs = [.ref a] ∧ SqL K H1 a xs ∧ LamX.Tabs T H1 ∧
  (∀ x ∈ xs, ∀ H2, Ext T [] H1 H2 → ∀ Q' : VK, (∀ H3, Ext T [] H2 H3 → Q' (.int (κ x)) H3) → tb (start N [x]) H2 Q') ∧ ∀ q H3, Nw H1 q → Ext T [] H1 H3 → H3 q = some (.lst (xs.mergeSort fun a b => decide (κ a ≤ κ b))) → Q (.ref q) H3) : tSortLam T K N ta tb σ H Q := q
end
/-! ### a def whose own code object is known: it makes a lambda -/
def DefC (K : PySem.W.Frag) (mg : Str → Option Value) (x : Str) (st : Stmt) (ps : List Str) (c : Addr) : Prop :=
  ∃ (f : Addr) (oc : Value) (od : Option Addr) (kV doc pm : Value) (an : Option Addr) (ct : Value) (osl : Array (Option Value)),
    K.lookup f = some ⟨oc, od, .func (PySem.W.fnOf x x (defArgs st) (defBody st) (defScope st) .none kV doc pm an (.ref c) ct), osl⟩ ∧ PySem.W.codeIn K (.ref c) x = true ∧ PySem.W.keepIn K (.ref f) = true ∧ mg x = some (.ref f) ∧
    Binds K (PySem.W.fnOf x x (defArgs st) (defBody st) (defScope st) .none kV doc pm an (.ref c) ct) ps []
theorem DefC.ok {P : Program} {w : World} {K : PySem.W.Frag} {mg : Str → Option Value} {base : Heap} {x : Str} {st : Stmt} {N ps : List Str} {k : Nat} {sp : Sp} {c : Addr} (D : DefC K mg x st ps c) (S : FnScope N ps (defScope st)) (len : ∀ vs H Q E, sp vs H Q E → vs.length = ps.length)
    (hbody : ∀ (f : Addr) (A : Around) (outer : List Env) (s : Shared) (H : Hp) (vs : List V) (Q : VK) (E : XK), Room k (A.deeper (envOfC x (defScope st) s.heap.objs.size f (.ref c))) → sp vs H Q E →
      ∃ t, PSs (cxOf CX0 P w K mg base N x (defScope st) f (.ref c) A outer s H E).nox (defBody st) t ∧ t { nx := fun _ H' => Q .non H', rt := Q } (start N vs) H) : Ok P w K mg base (k + 1) x ps sp := by
  obtain ⟨f, oc, od, kV, doc, pm, an, ct, osl, lk, hcd, hk, hm, hb⟩ := D
  refine ⟨f, _, fn_of lk hcd S len fun A outer s H vs Q E hr h => ?_, hm, hk, hb⟩
  obtain ⟨t, h1, h2⟩ := hbody f A outer s H vs Q E hr h
  exact ⟨t, h1.nox, h2⟩

open PySem PySem.Spec PyProof.Rows L2
/-! ### what the head has written: the defs, the constants, the words of the language -/
def DefIn (K : PySem.W.Frag) (x : Str) (st : Stmt) : Prop :=
  ∃ (f : Addr) (oc : Value) (od : Option Addr) (kV doc pm : Value) (an : Option Addr) (cdv ct : Value) (osl : Array (Option Value)),
    PySem.W.nsIn K mainGlobals x = some (some (.ref f)) ∧ K.lookup f = some ⟨oc, od, .func (PySem.W.fnOf x x (defArgs st) (defBody st) (defScope st) .none kV doc pm an cdv ct), osl⟩ ∧ PySem.W.codeIn K cdv x = true ∧ PySem.W.keepIn K (.ref f) = true
def DefInC (K : PySem.W.Frag) (x : Str) (st : Stmt) (c : Addr) : Prop :=
  ∃ (f : Addr) (oc : Value) (od : Option Addr) (kV doc pm : Value) (an : Option Addr) (ct : Value) (osl : Array (Option Value)),
    PySem.W.nsIn K mainGlobals x = some (some (.ref f)) ∧ K.lookup f = some ⟨oc, od, .func (PySem.W.fnOf x x (defArgs st) (defBody st) (defScope st) .none kV doc pm an (.ref c) ct), osl⟩ ∧ PySem.W.codeIn K (.ref c) x = true ∧ PySem.W.keepIn K (.ref f) = true
theorem DefIn.of {K : PySem.W.Frag} {x : Str} {st : Stmt} {f : Addr} {oc : Value} {od : Option Addr} {kV doc pm : Value} {an : Option Addr} {cdv ct : Value} {osl : Array (Option Value)} (h1 : PySem.W.nsIn K mainGlobals x = some (some (.ref f)))
    (h2 : K.lookup f = some ⟨oc, od, .func (PySem.W.fnOf x x (defArgs st) (defBody st) (defScope st) .none kV doc pm an cdv ct), osl⟩) (h3 : PySem.W.codeIn K cdv x = true) (h4 : PySem.W.keepIn K (.ref f) = true) : DefIn K x st := ⟨f, oc, od, kV, doc, pm, an, cdv, ct, osl, h1, h2, h3, h4⟩
theorem DefInC.of {K : PySem.W.Frag} {x : Str} {st : Stmt} {f c : Addr} {oc : Value} {od : Option Addr} {kV doc pm : Value} {an : Option Addr} {ct : Value} {osl : Array (Option Value)} (h1 : PySem.W.nsIn K mainGlobals x = some (some (.ref f)))
    (h2 : K.lookup f = some ⟨oc, od, .func (PySem.W.fnOf x x (defArgs st) (defBody st) (defScope st) .none kV doc pm an (.ref c) ct), osl⟩) (h3 : PySem.W.codeIn K (.ref c) x = true) (h4 : PySem.W.keepIn K (.ref f) = true) : DefInC K x st c := ⟨f, oc, od, kV, doc, pm, an, ct, osl, h1, h2, h3, h4⟩
theorem cstS_of {K : PySem.W.Frag} {x y : Str} {t : Tok} (h : PySem.W.nsIn K mainGlobals x = some (some (.str y t))) : ∃ t, PySem.W.nsIn K mainGlobals x = some (some (.str y t)) := ⟨t, h⟩
theorem cstI_of {K : PySem.W.Frag} {x : Str} {y : Int} {t : Tok} (h : PySem.W.nsIn K mainGlobals x = some (some (.int y t))) : ∃ t, PySem.W.nsIn K mainGlobals x = some (some (.int y t)) := ⟨t, h⟩
section
variable {K : PySem.W.Frag} {h : Heap} {mg : Str → Option Value} {x : Str} {st : Stmt} {ps : List Str}
def BindOk (x : Str) (st : Stmt) (ps : List Str) : Prop := ∀ (kV doc pm : Value) (an : Option Addr) (cdv ct : Value) (us : List Value), us.length = ps.length → bindArgs (PySem.W.fnOf x x (defArgs st) (defBody st) (defScope st) .none kV doc pm an cdv ct) ⟨us, []⟩ = pure (ps.zip us)
theorem DefIn.mk (d : DefIn K x st) (X : K.In h) (G : h.Ns mainGlobals mg) (hb : BindOk x st ps) : Def K mg x st ps := by
  obtain ⟨f, oc, od, kV, doc, pm, an, cdv, ct, osl, h1, h2, h3, h4⟩ := d
  have F := fun_mk (st := st) h2 h3 h4
  exact ⟨f, _, F, PySem.W.mg_of X G h1, F.binds hb⟩
theorem DefInC.mk {c : Addr} (d : DefInC K x st c) (X : K.In h) (G : h.Ns mainGlobals mg) (hb : BindOk x st ps) : DefC K mg x st ps c := by
  obtain ⟨f, oc, od, kV, doc, pm, an, ct, osl, h1, h2, h3, h4⟩ := d
  exact ⟨f, oc, od, kV, doc, pm, an, ct, osl, h2, h3, h4, PySem.W.mg_of X G h1, (fun_mk (st := st) h2 h3 h4).binds hb⟩
end

open PySem PySem.Spec PyProof.Rows L2
/-! ### what the head has written of classes and of second names -/
def MethIn (K : PySem.W.Frag) (C : Addr) (m qual : Str) (st : Stmt) : Prop :=
  ∃ (f : Addr) (oc : Value) (od : Option Addr) (kV doc pm : Value) (an : Option Addr) (cdv ct : Value) (osl : Array (Option Value)),
    PySem.W.findIn K (.ref C) m = some (some (.ref f)) ∧ PySem.W.isFn K (.ref f) = true ∧ K.lookup f = some ⟨oc, od, .func (PySem.W.fnOf m qual (defArgs st) (defBody st) (defScope st) .none kV doc pm an cdv ct), osl⟩ ∧ PySem.W.codeIn K cdv qual = true ∧ PySem.W.keepIn K (.ref f) = true
theorem MethIn.of {K : PySem.W.Frag} {C : Addr} {m qual : Str} {st : Stmt} {f : Addr} {oc : Value} {od : Option Addr} {kV doc pm : Value} {an : Option Addr} {cdv ct : Value} {osl : Array (Option Value)} (h1 : PySem.W.findIn K (.ref C) m = some (some (.ref f))) (h2 : PySem.W.isFn K (.ref f) = true)
    (h3 : K.lookup f = some ⟨oc, od, .func (PySem.W.fnOf m qual (defArgs st) (defBody st) (defScope st) .none kV doc pm an cdv ct), osl⟩) (h4 : PySem.W.codeIn K cdv qual = true) (h5 : PySem.W.keepIn K (.ref f) = true) : MethIn K C m qual st := ⟨f, oc, od, kV, doc, pm, an, cdv, ct, osl, h1, h2, h3, h4, h5⟩
def DefIn2 (K : PySem.W.Frag) (x y : Str) (st : Stmt) : Prop :=
  ∃ (f : Addr) (oc : Value) (od : Option Addr) (kV doc pm : Value) (an : Option Addr) (cdv ct : Value) (osl : Array (Option Value)),
    PySem.W.nsIn K mainGlobals x = some (some (.ref f)) ∧ PySem.W.nsIn K mainGlobals y = some (some (.ref f)) ∧ K.lookup f = some ⟨oc, od, .func (PySem.W.fnOf x x (defArgs st) (defBody st) (defScope st) .none kV doc pm an cdv ct), osl⟩ ∧ PySem.W.codeIn K cdv x = true ∧ PySem.W.keepIn K (.ref f) = true
theorem DefIn2.of {K : PySem.W.Frag} {x y : Str} {st : Stmt} {f : Addr} {oc : Value} {od : Option Addr} {kV doc pm : Value} {an : Option Addr} {cdv ct : Value} {osl : Array (Option Value)} (h1 : PySem.W.nsIn K mainGlobals x = some (some (.ref f))) (h2 : PySem.W.nsIn K mainGlobals y = some (some (.ref f)))
    (h3 : K.lookup f = some ⟨oc, od, .func (PySem.W.fnOf x x (defArgs st) (defBody st) (defScope st) .none kV doc pm an cdv ct), osl⟩) (h4 : PySem.W.codeIn K cdv x = true) (h5 : PySem.W.keepIn K (.ref f) = true) : DefIn2 K x y st := ⟨f, oc, od, kV, doc, pm, an, cdv, ct, osl, h1, h2, h3, h4, h5⟩
section
variable {P : Program} {w : World} {K : PySem.W.Frag} {mg : Str → Option Value} {base : Heap} {h : Heap}
theorem DefIn2.d {x y : Str} {st : Stmt} (d : DefIn2 K x y st) : DefIn K x st := by
  obtain ⟨f, oc, od, kV, doc, pm, an, cdv, ct, osl, h1, _, h3, h4, h5⟩ := d
  exact ⟨f, oc, od, kV, doc, pm, an, cdv, ct, osl, h1, h3, h4, h5⟩
theorem DefIn2.same {x y : Str} {st : Stmt} (d : DefIn2 K x y st) (X : K.In h) (G : h.Ns mainGlobals mg) : mg y = mg x := by
  obtain ⟨f, oc, od, kV, doc, pm, an, cdv, ct, osl, h1, h2, _⟩ := d
  rw [PySem.W.mg_of X G h1, PySem.W.mg_of X G h2]
theorem MethIn.fn {C : Addr} {m qual : Str} {st : Stmt} (d : MethIn K C m qual st) {ps : List Str} (hb : ∀ (kV doc pm : Value) (an : Option Addr) (cdv ct : Value) (us : List Value), us.length = ps.length → bindArgs (PySem.W.fnOf m qual (defArgs st) (defBody st) (defScope st) .none kV doc pm an cdv ct) ⟨us, []⟩ = pure (ps.zip us)) :
    ∃ (f : Addr) (fd : FuncData), Fun K m qual st f fd ∧ Meth K C m f ∧ Binds K fd ps [] := by
  obtain ⟨f, oc, od, kV, doc, pm, an, cdv, ct, osl, h1, h2, h3, h4, h5⟩ := d
  have F := fun_mk (st := st) h3 h4 h5
  exact ⟨f, _, F, ⟨h1, h2, h5⟩, F.binds hb⟩
end

open PySem PySem.Spec PyProof.Rows L2
/-! ### tuple(xs) whose object is known, dict() of it -/
section
variable {X : Cx}
/-- a tuple's object without a dict of its own -/
def PlT (H : Hp) (a : Addr) (xs : List V) : Prop := ∃ o : Obj, o.dict = none ∧ H a = some (.frz o (.tup xs))
def rTupF (K : PySem.W.Frag) : List V → Hp → VK → Prop := fun xs H Q => ∃ p ys, xs = [.ref p] ∧ ((SqL K H p ys ∧ ∀ l o, H l = none → o.dict = none → Q (.ref l) (upd H l (.frz o (.tup ys)))) ∨ (SqT K H p ys ∧ Q (.ref p) H))
theorem call_tupF (K : PySem.W.Frag) (hK : X.K = K) : CallR X (.type "tuple") (rTupF K) := by
  subst hK
  intro pins s σ H xs us Q I r h
  obtain ⟨p, ys, rfl, h⟩ := h
  obtain ⟨u, rfl, rx⟩ := vals1 r
  cases rx
  rcases h with ⟨hq, q⟩ | ⟨hq, q⟩
  · obtain ⟨its, r', pl, hz⟩ := I.list hq
    have hlen := r'.length
    refine call_tuple_list pl.isList (fun h' kp => ?_) (by simp only [List.size_toArray] <;> omega)
    have I1 : Inv X pins σ H { s with heap := h' } := I.kept (t' := s.toks) kp
    have I2 : Inv X pins σ (upd H h'.objs.size (.frz { cls := .type "tuple", data := .seq its.toArray } (.tup ys))) { s with heap := h'.push { cls := .type "tuple", data := .seq its.toArray } } :=
      I1.laid (t' := s.toks) (fun b o e => Heap.get?_push_of_some _ e) (Nat.le_refl _) (show ObjOk X.prog X.w _ _ _ (.frz _ (.tup ys)) from ⟨Heap.get?_push_size _ rfl, hz, its, r', IsTup.new _ _⟩)
    exact ⟨.ref h'.objs.size, _, I2, rfl, q _ _ (I1.hok.fresh (Nat.le_refl _)) rfl⟩
  · obtain ⟨its, r', pl, hz⟩ := I.tuple hq
    exact call_tuple_same pl ⟨.ref p, H, I, rfl, q⟩
/-- the pairs of a tuple, whose keys are tuples -/
def PairsT (K : PySem.W.Frag) (H : Hp) : List Addr → List (List L2.Key × V) → Prop := Paired fun p kv => ∃ b, SqT K H p [.ref b, kv.2] ∧ H b = some (.tup (kv.1.map kV))
theorem pairsT_of {pins : List (Addr × Obj)} {σ : L2.St} {H : Hp} {s : Shared} (I : Inv X pins σ H s) : ∀ {ps : List Addr} {kvs : List (List L2.Key × V)}, PairsT X.K H ps kvs →
    ∃ prs : List (List L2.Key × Addr × Value), KT H kvs prs ∧ prs.length = ps.length ∧ ∀ (j : Nat) (q : List L2.Key × Addr × Value), prs[j]? = some q → ∃ b : Addr, ps[j]? = some b ∧ s.heap.IsTuple b #[.ref q.2.1, q.2.2] ∧ (tupleKind (mixKind X.prog X.w)).is s.heap q.1 q.2.1
  | _, _, .nil => ⟨[], .nil, rfl, fun j q e => by simp at e⟩
  | _, _, .cons (a := p) (b := kv) ⟨kb, h, hb⟩ t => by
    obtain ⟨prs, r, hl, hp⟩ := pairsT_of I t
    obtain ⟨its, rv, ht, _⟩ := I.tuple h
    obtain ⟨u, y, ei, ru, ry⟩ := vals2 rv
    subst ei
    cases ru
    refine ⟨(kv.1, kb, y) :: prs, .cons ⟨rfl, hb, ry⟩ r, by rw [List.length_cons, List.length_cons, hl], fun j q e => ?_⟩
    cases j with
    | zero =>
      have e' : (kv.1, kb, y) = q := Option.some.inj e
      subst e'
      exact ⟨p, rfl, ht, key_of I.hok hb⟩
    | succ j =>
      obtain ⟨b, e1, e2, e3⟩ := hp j q (by simpa using e)
      exact ⟨b, by simpa using e1, e2, e3⟩
theorem kt_keys {H : Hp} : ∀ {kvs : List (List L2.Key × V)} {prs : List (List L2.Key × Addr × Value)}, KT H kvs prs → prs.map (·.1) = kvs.map (·.1)
  | _, _, .nil => rfl
  | _, _, .cons h t => by rw [List.map_cons, List.map_cons, kt_keys t, h.1]
theorem kt_upd {H : Hp} {p : Addr} {o : HO} (hp : H p = none) : ∀ {kvs : List (List L2.Key × V)} {prs : List (List L2.Key × Addr × Value)}, KT H kvs prs → KT (upd H p o) kvs prs
  | _, _, .nil => .nil
  | _, _, .cons h t => .cons ⟨h.1, (upd_ne (ne_of_none h.2.1 hp)).trans h.2.1, h.2.2⟩ (kt_upd hp t)
def rDictT (K : PySem.W.Frag) : List V → Hp → VK → Prop := fun xs H Q => ∃ (a : Addr) (ps : List Addr) (kvs : List (List L2.Key × V)), xs = [.ref a] ∧ PlT H a (ps.map V.ref) ∧ PairsT K H ps kvs ∧ (kvs.map (·.1)).Nodup ∧
    ∀ p, H p = none → Q (.ref p) (upd H p (.dT kvs))
theorem call_dictT (K : PySem.W.Frag) (hK : X.K = K) (hcalm : X.calm = true) (hu : X.A.units + 64 < cLine) : CallR X (.type "dict") (rDictT K) := by
  subst hK
  intro pins s σ H xs us Q I r q
  obtain ⟨a, ps, kvs, ex, ⟨o, hdn, ha⟩, hp, hnd, q⟩ := q
  subst ex
  obtain ⟨u, eu, rx⟩ := vals1 r
  subst eu
  cases rx
  obtain ⟨hget, hz, its, rv, hit⟩ := (show ObjOk X.prog X.w H s.heap a (.frz o (.tup (ps.map V.ref))) from I.hok a _ ha)
  have ei := refs_at rv
  subst ei
  rw [List.length_map] at hz
  obtain ⟨prs, rel, hl, hpr⟩ := pairsT_of I hp
  obtain ⟨o', ho', hc, n, hd⟩ := hit
  have eo : o' = o := by
    rw [hget] at ho'
    exact (Option.some.inj ho').symm
  subst eo
  have hnd2 : (prs.map (·.1)).Nodup := by rw [kt_keys rel]; exact hnd
  have hP := PySem.PairArg.tuple (prog := X.prog) (w := X.w) a (ps.map Value.ref).toArray (fun j => ps.getD j 0) (prs.map fun q => (Value.ref q.2.1, q.2.2))
  have hitem : PySem.PairItems s.heap (ps.map Value.ref).toArray (fun j => ps.getD j 0) (prs.map fun q => (Value.ref q.2.1, q.2.2)) := by
    refine ⟨by simp [hl], fun j k v e => ?_⟩
    rw [List.getElem?_map] at e
    obtain ⟨q', e1, e2⟩ := Option.map_eq_some_iff.mp e
    obtain ⟨b, h1, h2, h3⟩ := hpr j q' e1
    have e3 : k = .ref q'.2.1 := (congrArg Prod.fst e2).symm
    have e4 : v = q'.2.2 := (congrArg Prod.snd e2).symm
    have e5 : ps.getD j 0 = b := by rw [List.getD_eq_getElem?_getD, h1]; rfl
    refine ⟨by simp [h1], ?_⟩
    rw [e3, e4]
    show PySem.PairAt s.heap (ps.getD j 0) _ _
    rw [e5]
    exact .inl h2
  have hmem : ∀ x ∈ prs, (tupleKind (mixKind X.prog X.w)).is s.heap x.1 x.2.1 := fun x hx => by
    obtain ⟨j, hj⟩ := List.mem_iff_getElem?.mp hx
    obtain ⟨b, _, _, h3⟩ := hpr j x hj
    exact h3
  refine PySem.call_dict_pairsH (knd := tupleKind (mixKind X.prog X.w)) (ps := prs) hP (I.ok.hd hcalm) (show X.A.units + 1 + 1 < cLine by omega) ⟨⟨o', n, hget, hc, hdn, hd⟩, hitem⟩ ⟨by rw [List.length_map], fun i key v e => ?_⟩ (fun h' hk x hx => ?_) (by rw [List.length_map, hl]; exact hz) fun h' tk hd' k => ?_
  · have e : (prs.map fun q => (Value.ref q.2.1, q.2.2))[i]? = some (key, v) := e
    rw [List.getElem?_map] at e
    obtain ⟨q', e1, e2⟩ := Option.map_eq_some_iff.mp e
    refine ⟨q'.1, q'.2.1, ?_, (congrArg Prod.fst e2).symm⟩
    have e6 : q'.2.2 = v := congrArg Prod.snd e2
    rw [e1, ← e6]
  · obtain ⟨o2, its2, n2, h1, h2, h3, h4⟩ := hmem x hx
    exact ⟨o2, its2, n2, hk _ _ (Nat.ne_of_lt (Heap.lt_size h1)) (by simp) h1, h2, h3, h4⟩
  · rw [PySem.storedAllH_nil_of_nodup _ hnd2] at hd'
    have hm : (s.heap.objs.size == sysModules) = false := beq_eq_false_iff_ne.mpr (Nat.ne_of_gt I.big)
    have fr := I.hok.fresh (a := s.heap.objs.size) (Nat.le_refl _)
    obtain ⟨od, es, ep, w1, w2, w3, w4, w5, w6⟩ := hd'
    have hlen : kvs.length ≤ sizeLine := by
      have e1 := congrArg List.length (kt_keys rel)
      rw [List.length_map, List.length_map] at e1
      rw [← e1, hl]
      exact hz
    exact ⟨.ref s.heap.objs.size, upd H s.heap.objs.size (.dT kvs), I.laid (t' := tk) (fun b u e => k b u (by simp) e) (Nat.le_refl _) (show ObjOk X.prog X.w _ _ _ (.dT kvs) from ⟨hlen, hm, prs, kt_upd fr rel, od, es, ep, w1, w2, w3, w4, w6⟩), rfl, q _ fr⟩
/-- the pairs of a tuple, whose keys are texts or numbers -/
def rDictK (K : PySem.W.Frag) : List V → Hp → VK → Prop := fun xs H Q => ∃ (a : Addr) (ps : List Addr) (kvs : List (L2.Key × V)), xs = [.ref a] ∧ PlT H a (ps.map V.ref) ∧ Paired (fun p kv => SqT K H p [kV kv.1, kv.2]) ps kvs ∧
    ∀ p, H p = none → Q (.ref p) (upd H p (.dK (mergeK [] kvs)))
end

open PySem PySem.Spec PyProof.Rows L2
/-! ### data without lists -/
def SqP (H : Hp) (a : Addr) (xs : List V) : Prop := H a = some (.tup xs)
mutual
inductive Im (H : Hp) : V → PyData → Prop
  | non : Im H .non .none
  | int (i : Int) : Im H (.int i) (.int i)
  | str (x : Str) (h : PyData.strOk x = true) : Im H (.str x) (.str x)
  | tup {a : Addr} {xs : List V} {ds : List PyData} : SqP H a xs → ImAll H xs ds → Im H (.ref a) (.tuple ds)
inductive ImAll (H : Hp) : List V → List PyData → Prop
  | nil : ImAll H [] []
  | cons {v : V} {vs : List V} {d : PyData} {ds : List PyData} : Im H v d → ImAll H vs ds → ImAll H (v :: vs) (d :: ds)
end
mutual
theorem Im.dp {K : PySem.W.Frag} {H : Hp} : ∀ (d : PyData) (v : V), Im H v d → Dp K H v d
  | .none, _, h => by cases h; exact .non
  | .bool b, _, h => by cases h
  | .int i, _, h => by cases h; exact .int i
  | .str x, _, h => by cases h; exact .str x
  | .list _, _, h => by cases h
  | .dict _, _, h => by cases h
  | .tuple ds, _, h => by
    cases h with
    | tup h1 h2 => exact .tup (SqT.of h1) (ImAll.dp ds _ h2)
theorem ImAll.dp {K : PySem.W.Frag} {H : Hp} : ∀ (ds : List PyData) (vs : List V), ImAll H vs ds → DpAll K H vs ds
  | [], _, h => by cases h; exact .nil
  | d :: ds, _, h => by
    cases h with
    | cons h1 h2 => exact .cons (Im.dp d _ h1) (ImAll.dp ds _ h2)
end
/-- all the objects that may change are lists -/
def Lsts (H : Hp) (ms : List Addr) : Prop := ∀ b ∈ ms, ∃ xs, H b = some (.lst xs)
theorem SqP.ext {T : List (Addr × Str)} {ms : List Addr} {H H' : Hp} {a : Addr} {xs : List V} (h : SqP H a xs) (e : Ext T ms H H') (hm : Lsts H ms) : SqP H' a xs := by
  have hn : ∀ o, H a = some o → (∀ xs, o ≠ .lst xs) → a ∉ ms := fun o ho hl hb => by
    obtain ⟨ys, hy⟩ := hm a hb
    rw [ho] at hy
    exact hl ys (Option.some.inj hy)
  exact e.keep a _ (hn _ h fun _ z => by cases z) (fun _ z => by cases z) h
mutual
theorem Im.ext {T : List (Addr × Str)} {ms : List Addr} {H H' : Hp} (e : Ext T ms H H') (hm : Lsts H ms) : ∀ (d : PyData) (v : V), Im H v d → Im H' v d
  | .none, _, h => by cases h; exact .non
  | .bool b, _, h => by cases h
  | .int i, _, h => by cases h; exact .int i
  | .str x, _, h => by
    cases h with
    | str _ q => exact .str x q
  | .list _, _, h => by cases h
  | .dict _, _, h => by cases h
  | .tuple ds, _, h => by
    cases h with
    | tup h1 h2 => exact .tup (h1.ext e hm) (ImAll.ext e hm ds _ h2)
theorem ImAll.ext {T : List (Addr × Str)} {ms : List Addr} {H H' : Hp} (e : Ext T ms H H') (hm : Lsts H ms) : ∀ (ds : List PyData) (vs : List V), ImAll H vs ds → ImAll H' vs ds
  | [], _, h => by cases h; exact .nil
  | d :: ds, _, h => by
    cases h with
    | cons h1 h2 => exact .cons (Im.ext e hm d _ h1) (ImAll.ext e hm ds _ h2)
end
theorem ImAll.len {H : Hp} : ∀ {vs : List V} {ds : List PyData}, ImAll H vs ds → vs.length = ds.length
  | _, _, .nil => rfl
  | _, _, .cons _ t => by rw [List.length_cons, List.length_cons, t.len]
theorem ImAll.get {H : Hp} : ∀ {vs : List V} {ds : List PyData} {i : Nat} {d : PyData}, ImAll H vs ds → ds[i]? = some d → ∃ v, vs[i]? = some v ∧ Im H v d
  | _, _, 0, d, .cons h t, e => ⟨_, rfl, by rw [← Option.some.inj (show some _ = some d from e)]; exact h⟩
  | _, _, i + 1, d, .cons h t, e => t.get (i := i) e
theorem ImAll.get' {H : Hp} : ∀ {vs : List V} {ds : List PyData} {i : Nat} {v : V}, ImAll H vs ds → vs[i]? = some v → ∃ d, ds[i]? = some d ∧ Im H v d
  | _, _, 0, d, .cons h t, e => ⟨_, rfl, by rw [← Option.some.inj (show some _ = some d from e)]; exact h⟩
  | _, _, i + 1, d, .cons h t, e => t.get' (i := i) e
theorem ImAll.app {H : Hp} : ∀ {vs ws : List V} {ds es : List PyData}, ImAll H vs ds → ImAll H ws es → ImAll H (vs ++ ws) (ds ++ es)
  | _, _, _, _, .nil, h => h
  | _, _, _, _, .cons a t, h => .cons a (t.app h)
theorem ImAll.snoc {H : Hp} {vs : List V} {ds : List PyData} {v : V} {d : PyData} (h : ImAll H vs ds) (x : Im H v d) : ImAll H (vs ++ [v]) (ds ++ [d]) := h.app (.cons x .nil)
theorem ImAll.drop {H : Hp} : ∀ {vs : List V} {ds : List PyData} (n : Nat), ImAll H vs ds → ImAll H (vs.drop n) (ds.drop n)
  | _, _, 0, h => h
  | _, _, n + 1, .nil => .nil
  | _, _, n + 1, .cons _ t => t.drop n
theorem ImAll.take {H : Hp} : ∀ {vs : List V} {ds : List PyData} (n : Nat), ImAll H vs ds → ImAll H (vs.take n) (ds.take n)
  | _, _, 0, h => .nil
  | _, _, n + 1, .nil => .nil
  | _, _, n + 1, .cons h t => .cons h (t.take n)
theorem ImAll.strs {H : Hp} : ∀ {zs : List Str}, (∀ z ∈ zs, PyData.strOk z = true) → ImAll H (zs.map V.str) (zs.map PyData.str)
  | [], _ => .nil
  | z :: zs, h => .cons (.str z (h z List.mem_cons_self)) (ImAll.strs fun y hy => h y (List.mem_cons_of_mem _ hy))
mutual
theorem Im.lay {H : Hp} : ∀ (d : PyData) (v : V), Im H v d → d.canLay0 = true
  | .none, _, h => rfl
  | .bool b, _, h => by cases h
  | .int i, _, h => rfl
  | .str x, _, h => by
    cases h with
    | str _ q => exact q
  | .list _, _, h => by cases h
  | .dict _, _, h => by cases h
  | .tuple ds, _, h => by
    cases h with
    | tup h1 h2 => exact ImAll.lay ds _ h2
theorem ImAll.lay {H : Hp} : ∀ (ds : List PyData) (vs : List V), ImAll H vs ds → PyData.canLayAll0 ds = true
  | [], _, h => rfl
  | d :: ds, _, h => by
    cases h with
    | cons h1 h2 =>
      show (d.canLay0 && PyData.canLayAll0 ds) = true
      rw [Im.lay d _ h1, ImAll.lay ds _ h2]
      rfl
end
theorem Im.shaped {H : Hp} {d : PyData} {v : V} (h : Im H v d) (hd : d.depth ≤ 64) : SeqAt.shaped d = true := by
  unfold SeqAt.shaped
  rw [Im.lay d v h, decide_eq_true hd]
  rfl
theorem ImAll.strs' {H : Hp} : ∀ {zs : List Str} {vs : List V}, ImAll H vs (zs.map PyData.str) → vs = zs.map V.str
  | [], _, h => by cases h; rfl
  | z :: zs, _, h => by
    cases h with
    | cons a t =>
      cases a
      rw [List.map_cons, ImAll.strs' t]
theorem Im.str' {H : Hp} {v : V} {z : Str} (h : Im H v (.str z)) : v = .str z := by cases h; rfl
theorem Im.int' {H : Hp} {v : V} {z : Int} (h : Im H v (.int z)) : v = .int z := by cases h; rfl
theorem Im.tup' {H : Hp} {v : V} {ds : List PyData} (h : Im H v (.tuple ds)) : ∃ a xs, v = .ref a ∧ SqP H a xs ∧ ImAll H xs ds := by
  cases h with
  | tup h1 h2 => exact ⟨_, _, rfl, h1, h2⟩
theorem Im.pair' {H : Hp} {v : V} {d1 d2 : PyData} (h : Im H v (.tuple [d1, d2])) : ∃ a x y, v = .ref a ∧ SqP H a [x, y] ∧ Im H x d1 ∧ Im H y d2 := by
  obtain ⟨a, xs, rfl, h1, h2⟩ := h.tup'
  cases h2 with
  | cons a1 t =>
    cases t with
    | cons a2 t =>
      cases t
      exact ⟨a, _, _, rfl, h1, a1, a2⟩
theorem Im.new2 {H : Hp} {a : Addr} {v1 v2 : V} {d1 d2 : PyData} (h1 : Im H v1 d1) (h2 : Im H v2 d2) (ha : H a = some (.tup [v1, v2])) : Im H (.ref a) (.tuple [d1, d2]) := .tup ha (.cons h1 (.cons h2 .nil))
theorem Im.new3 {H : Hp} {a : Addr} {v1 v2 v3 : V} {d1 d2 d3 : PyData} (h1 : Im H v1 d1) (h2 : Im H v2 d2) (h3 : Im H v3 d3) (ha : H a = some (.tup [v1, v2, v3])) : Im H (.ref a) (.tuple [d1, d2, d3]) := .tup ha (.cons h1 (.cons h2 (.cons h3 .nil)))
/-- a list of such data -/
def Ls (H : Hp) (a : Addr) (ds : List PyData) : Prop := ∃ xs, H a = some (.lst xs) ∧ ImAll H xs ds
theorem Ls.ext {T : List (Addr × Str)} {ms : List Addr} {H H' : Hp} {a : Addr} {ds : List PyData} (h : Ls H a ds) (e : Ext T ms H H') (ha : a ∉ ms) (hm : Lsts H ms) : Ls H' a ds := by
  obtain ⟨xs, h1, h2⟩ := h
  exact ⟨xs, e.lst ha h1, ImAll.ext e hm _ _ h2⟩
theorem Ls.strs {H : Hp} {a : Addr} {zs : List Str} (h : Ls H a (zs.map PyData.str)) : H a = some (.lst (zs.map V.str)) := by
  obtain ⟨xs, h1, h2⟩ := h
  rw [← h2.strs']
  exact h1
theorem Lsts.nil {H : Hp} : Lsts H [] := fun b hb => by cases hb
theorem Tape.lsts {H : Hp} {l t : Addr} (h : Tape l H t) : Lsts H [t] := fun b hb => by
  rw [List.mem_singleton.mp hb]
  obtain ⟨ns, pos, rest, st, bud, h1, _⟩ := h
  exact ⟨_, h1⟩
theorem Nw.sqp {H : Hp} {p q : Addr} {xs : List V} (f : Nw H p) (h : SqP H q xs) : q ≠ p := f.tup h
theorem no_iff {p : Prop} {q : Prop} (h1 : ¬ p) (h2 : ¬ q) : p ↔ q := ⟨fun h => absurd h h1, fun h => absurd h h2⟩
mutual
theorem Im.eqv {H : Hp} : ∀ (d e : PyData) (v u : V), Im H v d → Im H u e → (PyData.eqv d e = true ↔ d = e)
  | .none, e, v, u, _, h2 => by
    cases h2 with
    | non => exact ⟨fun _ => rfl, fun _ => rfl⟩
    | int i => exact no_iff (fun h => by cases h) (fun h => by cases h)
    | str i _ => exact no_iff (fun h => by cases h) (fun h => by cases h)
    | tup a b => exact no_iff (fun h => by cases h) (fun h => by cases h)
  | .bool _, e, v, u, h1, h2 => by cases h1
  | .list _, e, v, u, h1, h2 => by cases h1
  | .dict _, e, v, u, h1, h2 => by cases h1
  | .int i, e, v, u, _, h2 => by
    cases h2 with
    | non => exact no_iff (fun h => by cases h) (fun h => by cases h)
    | int j =>
      show ((i == j) = true) ↔ _
      rw [beq_iff_eq]
      exact ⟨fun h => by rw [h], fun h => by injection h⟩
    | str i _ => exact no_iff (fun h => by cases h) (fun h => by cases h)
    | tup a b => exact no_iff (fun h => by cases h) (fun h => by cases h)
  | .str x, e, v, u, _, h2 => by
    cases h2 with
    | non => exact no_iff (fun h => by cases h) (fun h => by cases h)
    | int i => exact no_iff (fun h => by cases h) (fun h => by cases h)
    | str y _ =>
      show ((x == y) = true) ↔ _
      rw [beq_iff_eq]
      exact ⟨fun h => by rw [h], fun h => by injection h⟩
    | tup a b => exact no_iff (fun h => by cases h) (fun h => by cases h)
  | .tuple ds, e, v, u, h0, h2 => by
    cases h0 with
    | tup _ h1 =>
      cases h2 with
      | non => exact no_iff (fun h => by cases h) (fun h => by cases h)
      | int i => exact no_iff (fun h => by cases h) (fun h => by cases h)
      | str i _ => exact no_iff (fun h => by cases h) (fun h => by cases h)
      | tup _ h3 =>
        have key := ImAll.eqv ds _ _ _ h1 h3
        exact ⟨fun h => by rw [key.mp h], fun h => key.mpr (by injection h)⟩
theorem ImAll.eqv {H : Hp} : ∀ (ds es : List PyData) (vs us : List V), ImAll H vs ds → ImAll H us es → (PyData.eqvAll ds es = true ↔ ds = es)
  | [], es, vs, us, h1, h2 => by
    cases h2 with
    | nil => exact ⟨fun _ => rfl, fun _ => rfl⟩
    | cons a b => exact no_iff (fun h => by cases h) (fun h => by cases h)
  | d :: ds, es, vs, us, h1, h2 => by
    cases h1 with
    | cons h3 h4 =>
      cases h2 with
      | nil => exact no_iff (fun h => by cases h) (fun h => by cases h)
      | cons h5 h6 =>
        have k1 := Im.eqv d _ _ _ h3 h5
        have k2 := ImAll.eqv ds _ _ _ h4 h6
        show ((PyData.eqv _ _ && PyData.eqvAll _ _) = true) ↔ _
        rw [Bool.and_eq_true, k1, k2]
        exact ⟨fun h => by rw [h.1, h.2], fun h => (by injection h with a b; exact ⟨a, b⟩)⟩
end
theorem any_eqv {H : Hp} {v : V} {d : PyData} (h : Im H v d) : ∀ {ds : List PyData} {vs : List V}, ImAll H vs ds → ((ds.any fun z => PyData.eqv z d) = true ↔ d ∈ ds)
  | [], _, _ => by simp
  | e :: ds, _, .cons h1 h2 => by
    rw [List.any_cons, Bool.or_eq_true, Im.eqv _ _ _ _ h1 h, any_eqv h h2, List.mem_cons]
    exact ⟨fun h => h.imp Eq.symm id, fun h => h.imp Eq.symm id⟩
theorem bool_of {a b : Bool} (h : a = true ↔ b = true) : a = b := by
  cases a <;> cases b <;> simp_all
/-! ### reading such data -/
section
variable {K : PySem.W.Frag} {σ : L2.St} {H : Hp} {Q : VK}
theorem SqP.t {a : Addr} {xs : List V} (h : SqP H a xs) : SqT K H a xs := SqT.of h
theorem rd_ixI {v : V} {ds : List PyData} {i : Int} {d : PyData} (h : Im H v (.tuple ds)) (a : atI ds i = some d) (q : ∀ u, Im H u d → Q u H) : rIx K v (.int i) H Q := by
  obtain ⟨p, xs, rfl, h1, h2⟩ := h.tup'
  have key : ∃ u, atI xs i = some u ∧ Im H u d := by
    unfold atI at a ⊢
    cases e : ixN ds.length i with
    | none =>
      rw [e] at a
      cases a
    | some k =>
      rw [e] at a
      obtain ⟨u, e1, e2⟩ := h2.get (i := k) (by simpa using a)
      exact ⟨u, by rw [h2.len, e]; simpa using e1, e2⟩
  obtain ⟨u, h3, h4⟩ := key
  exact rd_ixT (SqP.t h1) h3 (q u h4)
end

open PySem PySem.Spec PyProof.Rows L2
open PySem.W (EachIs AllAlike Sortable dataLe)
/-! ### signs over data -/
section
variable {X : Cx}
def rInDT (K : PySem.W.Frag) : R2 := fun x y H Q => ∃ d ds, Dp K H x d ∧ Dp K H y (.tuple ds) ∧ SeqAt.shaped d = true ∧ SeqAt.shaped (.tuple ds) = true ∧ Q (.bl (ds.any fun z => PyData.eqv z d)) H
def rNinDT (K : PySem.W.Frag) : R2 := fun x y H Q => ∃ d ds, Dp K H x d ∧ Dp K H y (.tuple ds) ∧ SeqAt.shaped d = true ∧ SeqAt.shaped (.tuple ds) = true ∧ Q (.bl (!ds.any fun z => PyData.eqv z d)) H
theorem canLay_shapedT {xs : List PyData} (h : SeqAt.shaped (.tuple xs) = true) : PyData.canLayAll0 xs = true := (Bool.and_eq_true _ _ ▸ h : _ ∧ _).1
theorem room_in_shapedT {a : Nat} {d : PyData} {xs : List PyData} (h : SeqAt.shaped d = true) (hu : a + 65 < cLine) : a + 1 + min (PyData.depthAll xs) d.depth < cLine := by
  have h1 : d.depth ≤ 64 := of_decide_eq_true (Bool.and_eq_true _ _ ▸ h : _ ∧ _).2
  have h2 : min (PyData.depthAll xs) d.depth ≤ d.depth := Nat.min_le_right _ _
  omega
theorem op_inDT (hu : X.A.units + 65 < cLine) : OpR X (compareOp .In) (rInDT X.K) := by
  intro pins s σ H x y v u Q I rx ry h
  obtain ⟨d, ds, hd, he, sd, se, q⟩ := h
  obtain ⟨as, r1⟩ := Dp.reads I d x v hd rx
  obtain ⟨bs, r2⟩ := Dp.reads I (.tuple ds) y u he ry
  exact SeqAt.in_tuple_reads r2 r1 (canLay_shapedT se) (SeqAt.canLay_of_shaped sd) (room_in_shapedT sd hu) ⟨.bl _, H, I, rfl, q⟩
theorem op_ninDT (hu : X.A.units + 65 < cLine) : OpR X (compareOp .NotIn) (rNinDT X.K) := by
  intro pins s σ H x y v u Q I rx ry h
  obtain ⟨d, ds, hd, he, sd, se, q⟩ := h
  obtain ⟨as, r1⟩ := Dp.reads I d x v hd rx
  obtain ⟨bs, r2⟩ := Dp.reads I (.tuple ds) y u he ry
  exact SeqAt.notIn_tuple_reads r2 r1 (canLay_shapedT se) (SeqAt.canLay_of_shaped sd) (room_in_shapedT sd hu) ⟨.bl _, H, I, rfl, q⟩
def rInW (K : PySem.W.Frag) : R2 := fun x y H Q => rInU K x y H Q ∨ (rInD K x y H Q ∨ rInDT K x y H Q)
def rNinW (K : PySem.W.Frag) : R2 := fun x y H Q => rNinU K x y H Q ∨ (rNotInD K x y H Q ∨ rNinDT K x y H Q)
theorem Room.units65 {k : Nat} {A : Around} (r : Room k A) : A.units + 65 < cLine := by have := r.un; omega
theorem op_inW (K : PySem.W.Frag) (hK : X.K = K) (hu : X.A.units + 65 < cLine) : OpR X (compareOp .In) (rInW K) := by
  have h := op_inU (X := X) K hK
  subst hK
  exact h.or ((op_inD hu).or (op_inDT hu))
theorem op_ninW (K : PySem.W.Frag) (hK : X.K = K) (hu : X.A.units + 65 < cLine) : OpR X (compareOp .NotIn) (rNinW K) := by
  have h := op_ninU (X := X) K hK
  subst hK
  exact h.or ((op_notInD hu).or (op_ninDT hu))
/-- unpacking a tuple or a list -/
def gTupU (K : PySem.W.Frag) (n : Nat) (t : TGs) : TG := fun v σ H Q => gTup K n t v σ H Q ∨ gUnl K n t v σ H Q
theorem pg_tupU (K : PySem.W.Frag) (hK : X.K = K) {es : List Expr} {k : Nat} {t : TGs} {n : Nat} {pos : Pos} (hc : X.calm = true) (h : PGs X es t)
    (hn : (assignEach es X.env).length = n := by rfl) (hst : (assignEach es X.env).findIdx? (·.1) = none := by rfl) : PG X (.Tuple es k pos) (gTupU K n t) := by
  subst hK
  refine ⟨fun pins s σ H v u Q I r hw => ?_⟩
  rcases hw with hw | hw
  · exact (pg_tup hc h hn hst).run pins s σ H v u Q I r hw
  · exact (pg_unl hc h hn hst).run pins s σ H v u Q I r hw
def rSortU (K : PySem.W.Frag) : List V → Hp → VK → Prop := rSortD K
end
section
variable {X : Cx}
theorem pa_starU (K : PySem.W.Frag) (hK : X.K = K) {e : Expr} {es : List Expr} {te : TE} {t : TA} {p : Pos} (he : PE X e te) (ht : PA X es t)
    (hs : starEach (e.Starred p :: es) X.env = (true, eval e X.env) :: starEach es X.env := by rfl) : PA X (e.Starred p :: es) (StX.tStar K te t) := by
  subst hK
  exact StX.pa_star he ht hs
end
/-! ### reading -/
section
variable {K : PySem.W.Frag} {σ : L2.St} {H : Hp} {Q : VK}
theorem rd_star {te : TE} {t : TA} {Q : List V → Hp → Prop} (q : te σ H fun x H1 => ∃ p xs, x = V.ref p ∧ (SqT K H1 p xs ∨ SqL K H1 p xs) ∧ t σ H1 fun ys H2 => Q (xs ++ ys) H2) : StX.tStar K te t σ H Q := q
theorem rd_gtup {n : Nat} {t : TGs} {a : Addr} {xs : List V} {Q : L2.St → Hp → Prop} (h : SqT K H a xs) (hl : xs.length = n) (q : t xs σ H Q) : gTupU K n t (.ref a) σ H Q := .inl ⟨a, xs, rfl, h, hl, q⟩
theorem rd_glst {n : Nat} {t : TGs} {a : Addr} {xs : List V} {Q : L2.St → Hp → Prop} (h : SqL K H a xs) (hl : xs.length = n) (q : t xs σ H Q) : gTupU K n t (.ref a) σ H Q := .inr ⟨a, xs, rfl, h, hl, q⟩
theorem rd_gcons {t : TG} {u : TGs} {v : V} {r : List V} {Q : L2.St → Hp → Prop} (q : t v σ H fun σ' H' => u r σ' H' Q) : gCons t u (v :: r) σ H Q := ⟨v, r, rfl, q⟩
theorem rd_gnil {Q : L2.St → Hp → Prop} (q : Q σ H) : gNil [] σ H Q := ⟨rfl, q⟩
theorem rd_gpair {i j : Nat} {v : V} {d1 d2 : PyData} {Q : L2.St → Hp → Prop} (h : Im H v (.tuple [d1, d2])) (q : ∀ v1 v2, Im H v1 d1 → Im H v2 d2 → Q ((σ.set i (some v1)).set j (some v2)) H) : gTupU K 2 (gCons (gName i) (gCons (gName j) gNil)) v σ H Q := by
  obtain ⟨a, x, y, rfl, h1, h2, h3⟩ := h.pair'
  exact rd_gtup (SqP.t h1) rfl (rd_gcons (rd_name (rd_gcons (rd_name (rd_gnil (q x y h2 h3))))))
theorem rd_inWs {o : Str} {a : Addr} {zs : List Str} (ha : H a = some (.lst (zs.map V.str))) (q : Q (.bl (decide (o ∈ zs))) H) : rInW K (.str o) (.ref a) H Q := by
  refine .inl (.inl ⟨a, _, rfl, .inl (.inl (.inl ha)), rfl, ?_, ?_⟩)
  · rw [List.all_map]
    exact List.all_eq_true.mpr fun _ _ => rfl
  · have e : inV (.str o) (zs.map V.str) = decide (o ∈ zs) := by
      induction zs with
      | nil => rfl
      | cons z zs ih =>
        have h2 : inV (.str o) ((z :: zs).map V.str) = ((z == o) || inV (.str o) (zs.map V.str)) := rfl
        rw [h2]
        have ih2 : inV (.str o) (zs.map V.str) = decide (o ∈ zs) := by
          clear h2 ha q ih
          induction zs with
          | nil => rfl
          | cons y ys ih =>
            show ((y == o) || inV (.str o) (ys.map V.str)) = _
            rw [ih]
            by_cases h : y = o
            · subst h
              simp
            · have h2 : ¬ o = y := fun e => h e.symm
              simp [h, h2]
        rw [ih2]
        by_cases h : z = o
        · subst h
          simp
        · have h2 : ¬ o = z := fun e => h e.symm
          simp [h, h2]
    rw [show (if false = true then (!inV (.str o) (zs.map V.str)) else inV (.str o) (zs.map V.str)) = inV (.str o) (zs.map V.str) from rfl, e]
    exact q
theorem inV_strs0 (o : Str) : ∀ zs : List Str, inV (.str o) (zs.map V.str) = decide (o ∈ zs)
  | [] => rfl
  | z :: zs => by
    show ((z == o) || inV (.str o) (zs.map V.str)) = _
    rw [inV_strs0 o zs]
    by_cases h : z = o
    · subst h
      simp
    · have h2 : ¬ o = z := fun e => h e.symm
      simp [h, h2]
theorem rd_ninWs {o : Str} {a : Addr} {zs : List Str} (ha : H a = some (.lst (zs.map V.str))) (q : Q (.bl (!decide (o ∈ zs))) H) : rNinW K (.str o) (.ref a) H Q := by
  refine .inl (.inl ⟨a, _, rfl, .inl (.inl (.inl ha)), rfl, ?_, ?_⟩)
  · rw [List.all_map]
    exact List.all_eq_true.mpr fun _ _ => rfl
  · rw [if_pos rfl, inV_strs0]
    exact q
/-- a text in a tuple of texts -/
theorem rd_inWt {o : Str} {a : Addr} {zs : List Str} (ha : SqT K H a (zs.map V.str)) (q : Q (.bl (decide (o ∈ zs))) H) : rInW K (.str o) (.ref a) H Q := by
  refine .inl (.inl ⟨a, _, rfl, .inr ha, rfl, ?_, ?_⟩)
  · rw [List.all_map]
    exact List.all_eq_true.mpr fun _ _ => rfl
  · rw [if_neg (by decide), inV_strs0]
    exact q
theorem rd_eqI {v u : V} {d e : PyData} (h1 : Im H v d) (h2 : Im H u e) (s1 : d.depth ≤ 64) (s2 : e.depth ≤ 64) {b : Bool} (hb : d = e ↔ b = true) (q : Q (.bl b) H) : rEqU K v u H Q := .inr ⟨_, _, h1.dp, h2.dp, h1.shaped s1, h2.shaped s2, by rw [bool_of ((Im.eqv _ _ _ _ h1 h2).trans hb)]; exact q⟩
theorem rd_neI {v u : V} {d e : PyData} (h1 : Im H v d) (h2 : Im H u e) (s1 : d.depth ≤ 64) (s2 : e.depth ≤ 64) {b : Bool} (hb : d = e ↔ b = true) (q : Q (.bl (!b)) H) : rNeU K v u H Q := .inr ⟨_, _, h1.dp, h2.dp, h1.shaped s1, h2.shaped s2, by rw [bool_of ((Im.eqv _ _ _ _ h1 h2).trans hb)]; exact q⟩
theorem rd_inWI {v u : V} {d : PyData} {ds : List PyData} (h1 : Im H v d) (h2 : Im H u (.tuple ds)) (s1 : d.depth ≤ 64) (s2 : PyData.depth (.tuple ds) ≤ 64) {b : Bool} (hb : d ∈ ds ↔ b = true) (q : Q (.bl b) H) : rInW K v u H Q := .inr (.inr ⟨d, ds, h1.dp, h2.dp, h1.shaped s1, h2.shaped s2, by
  obtain ⟨a, xs, _, _, h3⟩ := h2.tup'
  rw [bool_of ((any_eqv h1 h3).trans hb)]
  exact q⟩)
theorem Ls.dp {a : Addr} {ds : List PyData} (h : Ls H a ds) : Dp K H (.ref a) (.list ds) := by
  obtain ⟨xs, h1, h2⟩ := h
  exact .lst (SqL.of h1) h2.dp
theorem rd_ninWL {v : V} {a : Addr} {d : PyData} {ds : List PyData} (h1 : Im H v d) (h2 : Ls H a ds) (s1 : d.depth ≤ 64) (s2 : PyData.depth (.list ds) ≤ 64) {b : Bool} (hb : d ∈ ds ↔ b = true) (q : Q (.bl (!b)) H) : rNinW K v (.ref a) H Q := .inr (.inl ⟨d, ds, h1.dp, h2.dp, h1.shaped s1, by
  obtain ⟨xs, e1, e2⟩ := h2
  unfold SeqAt.shaped
  rw [show PyData.canLay0 (.list ds) = true from ImAll.lay ds _ e2, decide_eq_true s2]
  rfl, by
  obtain ⟨xs, e1, e2⟩ := h2
  rw [bool_of ((any_eqv h1 e2).trans hb)]
  exact q⟩)
theorem each_im {H : Hp} {xs : List V} {ds : List PyData} (h : ImAll H xs ds) : ∀ {ys : List V} {es : List PyData}, EachIs (fun y d => (y, d) ∈ xs.zip ds) ys es → ImAll H ys es
  | _, _, .nil => .nil
  | _, _, .cons a t => by
    refine .cons ?_ (each_im h t)
    clear t
    have key : ∀ {xs : List V} {ds : List PyData} {v : V} {d : PyData}, ImAll H xs ds → (v, d) ∈ xs.zip ds → Im H v d := by
      intro xs ds v d h
      induction xs generalizing ds with
      | nil => intro a; simp at a
      | cons x xs ih =>
        cases h with
        | cons h1 h2 =>
          intro a
          rw [List.zip_cons_cons] at a
          rcases List.mem_cons.mp a with a | a
          · cases a
            exact h1
          · exact ih h2 a
    exact key h a
/-- sorted of a list of data -/
def srtD (ds : List PyData) : List PyData := ds.mergeSort (dataLe false id)
theorem rd_sortI {a : Addr} {ds : List PyData} (h : Ls H a ds) (h1 : AllAlike ds) (h2 : Sortable ds) (h3 : ∀ d ∈ ds, d.depth ≤ 60) (q : ∀ p ys, H p = none → ImAll H ys (srtD ds) → Q (.ref p) (upd H p (.lst ys))) : rSortD K [.ref a] H Q := by
  obtain ⟨xs, e1, e2⟩ := h
  exact ⟨a, xs, ds, rfl, SqL.of e1, e2.dp, h1, h2, h3, fun ys p hs hp => q p ys hp (each_im e2 hs)⟩
theorem rd_tupF {p : Addr} {ys : List V} (h : SqL K H p ys) (q : ∀ l o, H l = none → o.dict = none → Q (.ref l) (upd H l (.frz o (.tup ys)))) : rTupF K [.ref p] H Q := ⟨p, ys, rfl, .inl ⟨h, q⟩⟩
theorem rd_listT {p : Addr} {ys : List V} (h : SqT K H p ys) (q : ∀ l, H l = none → Q (.ref l) (upd H l (.lst ys))) : rListOf K [.ref p] H Q := ⟨p, ys, rfl, .inr h, q⟩
theorem rd_lenT {p : Addr} {ys : List V} (h : SqT K H p ys) (q : Q (.int ys.length) H) : rLenU K [.ref p] H Q := .inr ⟨p, ys, rfl, .inr h, q⟩
theorem rd_slT {a : Addr} {xs : List V} {lo hi : Option Int} (h : SqT K H a xs) (hw : ¬ (HT.sIx xs.length 0 lo = 0 ∧ HT.sIx xs.length xs.length hi = xs.length)) (q : ∀ p, H p = none → Q (.ref p) (upd H p (.tup (cutV xs lo hi)))) : rSlU K (.ref a) lo hi H Q := .inr (.inr ⟨a, xs, rfl, h, hw, q⟩)
theorem rd_catT {a b : Addr} {xs ys : List V} (h1 : SqT K H a xs) (h2 : SqT K H b ys) (n1 : xs ≠ []) (n2 : ys ≠ []) (c : xs.length + ys.length ≤ sizeLine) (q : ∀ p, H p = none → Q (.ref p) (upd H p (.tup (xs ++ ys)))) : rPlus K (.ref a) (.ref b) H Q := .inr (.inr (.inr (.inl ⟨a, b, xs, ys, rfl, rfl, h1, h2, n1, c, fun e => absurd e n2, fun _ => q⟩)))
theorem rd_catT0 {a b : Addr} {ys : List V} (h1 : SqT K H a []) (h2 : SqT K H b ys) (q : Q (.ref b) H) : rPlus K (.ref a) (.ref b) H Q := .inr (.inr (.inr (.inr ⟨a, b, ys, rfl, rfl, h1, h2, q⟩)))
/-! ### comprehensions over data -/
theorem lcg_im (T : List (Addr × Str)) (ms : List Addr) {J : It} {n : Nat} {G : Hp → Prop} {Y : Nat → Hp → V → Hp → Prop} {g : TG} {tt : TT} {te : TE} {vs : List Nat} (w : Walk J n G Y) (xs : List V) (hn : n = xs.length) (hY : ∀ i H x H', Y i H x H' → H' = H ∧ xs[i]? = some x)
    (Iv : Hp → Prop) (h0 : Iv H) (hI0 : ∀ D o, H D = none → Iv (upd H D o)) (hI : ∀ D H', Nw H D → Iv H' → ∀ ys u, H' D = some (.lst ys) → Iv (upd H' D u)) (hL : ∀ H', Iv H' → Lsts H' ms) (hG : ∀ H', Ext T ms H H' → Iv H' → G H') (hl : xs.length < sizeLine)
    (p : V → Bool) (Rel : PyData → V → Prop)
    (step : ∀ (i : Nat) (x : V), xs[i]? = some x → ∀ H', Ext T ms H H' → Iv H' → ∀ (R : V → Hp → Prop) (S : Hp → Prop), (p x = true → ∀ v d H2, Ext T ms H' H2 → Iv H2 → Im H2 v d → Rel d x → R v H2) → (p x = false → ∀ H2, Ext T ms H' H2 → Iv H2 → S H2) →
      g x (wipe σ vs) H' fun σ2 H2 => wipe σ2 vs = wipe σ vs ∧ tt σ2 H2 fun b H3 => if b = true then te σ2 H3 R else S H3)
    (q : ∀ D H2 ds, Nw H D → Ext T ms H H2 → Iv H2 → Ls H2 D ds → EachIs Rel ds (xs.filter p) → Q (.ref D) H2) : LcG J g tt te vs σ H Q := fun D hD => by
  have hDm : D ∉ ms := fun hm => by
    obtain ⟨ys, e⟩ := hL H h0 D hm
    rw [hD] at e
    cases e
  refine lc_it w (fun i H2 => Ext T ms H H2 ∧ Iv H2 ∧ ∃ ds, Ls H2 D ds ∧ EachIs Rel ds ((xs.take i).filter p)) ⟨.new hD, hI0 D _ hD, [], ⟨[], upd_same, .nil⟩, .nil⟩ (fun i H2 _ h => hG H2 h.1 h.2.1) (fun i x H1 H' hi h y => ?_) (fun H1 h => ?_)
  · obtain ⟨e1, e2⟩ := hY i H1 x H' y
    subst e1
    obtain ⟨h1, h2, ds, h3, h4⟩ := h
    have et : xs.take (i + 1) = xs.take i ++ [x] := by rw [List.take_add_one, e2]; rfl
    refine step i x e2 H' h1 h2 _ _ (fun hp v d H2 e i2 hv hr => ?_) (fun hp H2 e i2 => ?_)
    · have h3' := h3.ext e hDm (hL H' h2)
      obtain ⟨acc, h5, h6⟩ := h3'
      refine ⟨acc, h5, ?_, (h1.trans e).own (.of hD) h5, hI D H2 (.of hD) i2 acc _ h5, ds ++ [d], ⟨acc ++ [v], upd_same, ?_⟩, ?_⟩
      · refine Nat.lt_of_le_of_lt ?_ hl
        rw [h6.len, h4.length]
        exact Nat.le_trans (List.length_filter_le _ _) (by rw [List.length_take]; exact Nat.min_le_right _ _)
      · have eD : Ext T [D] H2 (upd H2 D (.lst (acc ++ [v]))) := Ext.mut (by simp) h5
        have hLD : Lsts H2 [D] := fun b hb => ⟨acc, by rw [List.mem_singleton.mp hb]; exact h5⟩
        exact (ImAll.ext eD hLD _ _ h6).snoc (Im.ext eD hLD _ _ hv)
      · rw [et, List.filter_append, List.filter_cons_of_pos hp]
        exact PySem.W.each_snoc hr h4
    · refine ⟨h1.trans e, i2, ds, h3.ext e hDm (hL H' h2), ?_⟩
      rw [et, List.filter_append, List.filter_cons_of_neg (by rw [hp]; decide), List.filter_nil, List.append_nil]
      exact h4
  · obtain ⟨h1, h2, ds, h3, h4⟩ := h
    rw [hn, List.take_length] at h4
    exact q D H1 ds (.of hD) h1 h2 h3 h4
end

open PySem PySem.Spec PyProof.Rows L2
/-! ### names are plain texts -/
theorem spl_cover : ∀ (l acc : List Nat) (c : Nat), c ∈ l → c = 46 ∨ ∃ p ∈ TL.spl [46] 0 acc l, c ∈ p
  | [], _, _, h => by cases h
  | d :: r, acc, c, h => by
    by_cases hd : d = 46
    · subst hd
      have e : TL.spl [46] 0 acc (46 :: r) = acc :: TL.spl [46] 0 [] r := by
        rw [TL.spl, if_pos (by rfl)]
        rfl
      rcases List.mem_cons.mp h with h | h
      · exact .inl h
      · rcases spl_cover r [] c h with h2 | ⟨p, h2, h3⟩
        · exact .inl h2
        · exact .inr ⟨p, by rw [e]; exact List.mem_cons_of_mem _ h2, h3⟩
    · have e : TL.spl [46] 0 acc (d :: r) = TL.spl [46] 0 (acc ++ [d]) r := by
        rw [TL.spl, if_neg]
        show ¬ (TL.pre [46] (d :: r) = true)
        unfold TL.pre
        simpa using hd
      rw [e]
      rcases List.mem_cons.mp h with h | h
      · refine .inr ?_
        subst h
        have key : ∀ (l acc : List Nat), c ∈ acc → ∃ p ∈ TL.spl [46] 0 acc l, c ∈ p := by
          intro l
          induction l with
          | nil => exact fun acc h => ⟨acc, List.mem_singleton.mpr rfl, h⟩
          | cons d r ih =>
            intro acc h
            by_cases hd : d = 46
            · subst hd
              have e : TL.spl [46] 0 acc (46 :: r) = acc :: TL.spl [46] 0 [] r := by
                rw [TL.spl, if_pos (by rfl)]
                rfl
              exact ⟨acc, by rw [e]; exact List.mem_cons_self, h⟩
            · have e : TL.spl [46] 0 acc (d :: r) = TL.spl [46] 0 (acc ++ [d]) r := by
                rw [TL.spl, if_neg]
                show ¬ (TL.pre [46] (d :: r) = true)
                unfold TL.pre
                simpa using hd
              rw [e]
              exact ih _ (List.mem_append_left _ h)
        exact key r _ (by simp)
      · exact spl_cover r _ c h
theorem label_mem {y : Str} (h : labelB y = true) {c : Nat} (hc : c ∈ sg y) : c ∈ sg lettersS := by
  unfold labelB wordB at h
  rw [Bool.and_eq_true, Bool.and_eq_true] at h
  exact of_decide_eq_true (List.all_eq_true.mp h.2.2 c hc)
theorem label_len {y : Str} (h : labelB y = true) : y.length ≤ 8 := by
  unfold labelB wordB at h
  rw [Bool.and_eq_true, Bool.and_eq_true] at h
  have := of_decide_eq_true h.2.1
  omega
theorem letters_lt : ∀ c ∈ sg lettersS, c < 128 := by decide +kernel
theorem name_parts {z : Str} (h : nameB z = true) : z = dotS ∨ ((partsL z).length ≤ 4 ∧ ∀ p ∈ partsL z, labelB p = true) := by
  unfold nameB at h
  rw [Bool.or_eq_true, Bool.and_eq_true] at h
  rcases h with h | ⟨h1, h2⟩
  · exact .inl (of_decide_eq_true h)
  · have := of_decide_eq_true h1
    exact .inr ⟨by omega, List.all_eq_true.mp h2⟩
theorem name_plain {z : Str} (h : nameB z = true) : ∀ c ∈ sg z, c < 128 := fun c hc => by
  rcases name_parts h with e | ⟨_, h2⟩
  · rw [e, sg_dot] at hc
    rw [List.mem_singleton.mp hc]
    decide
  · rcases spl_cover (sg z) [] c hc with e | ⟨p, hp, hcp⟩
    · rw [e]
      decide
    · rw [← parts_sg] at hp
      obtain ⟨y, hy, rfl⟩ := List.mem_map.mp hp
      exact letters_lt c (label_mem (h2 y hy) hcp)
theorem part_plain {z : Str} (h : nameB z = true) {y : Str} (hy : y ∈ partsL z) : ∀ c ∈ sg y, c < 128 := fun c hc => by
  rcases name_parts h with e | ⟨_, h2⟩
  · subst e
    have e2 : partsL dotS = [⟨#[]⟩, ⟨#[]⟩] := by decide +kernel
    rw [e2] at hy
    have : y = ⟨#[]⟩ := by simpa using hy
    subst this
    cases hc
  · exact letters_lt c (label_mem (h2 y hy) hc)
/-- the lengths of the parts together -/
theorem spl_sum : ∀ l acc : List Nat, ((TL.spl [46] 0 acc l).map List.length).sum ≤ acc.length + l.length
  | [], acc => by
    show ([acc].map List.length).sum ≤ _
    simp
  | c :: r, acc => by
    by_cases hd : c = 46
    · subst hd
      have e : TL.spl [46] 0 acc (46 :: r) = acc :: TL.spl [46] 0 [] r := by
        rw [TL.spl, if_pos (by rfl)]
        rfl
      have := spl_sum r []
      rw [e, List.map_cons, List.sum_cons]
      simp only [List.length_nil, List.length_cons] at this ⊢
      omega
    · have e : TL.spl [46] 0 acc (c :: r) = TL.spl [46] 0 (acc ++ [c]) r := by
        rw [TL.spl, if_neg]
        show ¬ (TL.pre [46] (c :: r) = true)
        unfold TL.pre
        simpa using hd
      have := spl_sum r (acc ++ [c])
      rw [e]
      simp only [List.length_append, List.length_cons, List.length_nil] at this ⊢
      omega
theorem parts_sum (z : Str) : ((partsL z).map (·.length)).sum ≤ z.length := by
  have h := spl_sum (sg z) []
  rw [← parts_sg, List.map_map] at h
  have e2 : List.map (List.length ∘ sg) (partsL z) = (partsL z).map (·.length) := List.map_congr_left fun y _ => sg_len y
  rw [e2, sg_len] at h
  simpa using h
theorem sum_drop (l : List Nat) (k : Nat) : (l.drop k).sum ≤ l.sum := by
  have h := congrArg List.sum (List.take_append_drop k l)
  rw [List.sum_append] at h
  omega
theorem cutV_strs (zs : List Str) {i : Int} (h0 : 0 ≤ i) : cutV (zs.map V.str) (some i) none = (zs.drop i.toNat).map V.str := by
  unfold cutV
  rw [HT.sIx_none, List.length_map]
  have e : HT.sIx zs.length 0 (some i) = min i.toNat zs.length := by
    obtain ⟨k, rfl⟩ := Int.eq_ofNat_of_zero_le h0
    exact HT.sIx_nat zs.length 0 k
  rw [e, ← List.map_drop, ← List.map_take, List.take_of_length_le (by rw [List.length_drop]; omega)]
  congr 1
  by_cases h : i.toNat ≤ zs.length
  · rw [Nat.min_eq_left h]
  · rw [Nat.min_eq_right (by omega), List.drop_length, List.drop_eq_nil_of_le (by omega)]

/-! ### texts that may stand in data -/
theorem plain_ok {z : Str} (h : ∀ c ∈ sg z, c < 128) : PyData.strOk z = true := by
  unfold PyData.strOk
  rw [← Array.all_toList, List.all_eq_true]
  intro c hc
  have := h c hc
  exact decide_eq_true (by omega)
theorem id_plain {y : Str} (h : idB y = true) : ∀ c ∈ sg y, c < 128 := fun c hc => by
  unfold idB wordB at h
  rw [Bool.and_eq_true, Bool.and_eq_true] at h
  exact letters_lt c (of_decide_eq_true (List.all_eq_true.mp h.2.2 c hc))
theorem id_ok {y : Str} (h : idB y = true) : PyData.strOk y = true := plain_ok (id_plain h)
theorem id_len {y : Str} (h : idB y = true) : y.length ≤ 4 := by
  unfold idB wordB at h
  rw [Bool.and_eq_true, Bool.and_eq_true] at h
  have := of_decide_eq_true h.2.1
  omega
theorem id_pos {y : Str} (h : idB y = true) : 1 ≤ y.length := by
  unfold idB wordB at h
  rw [Bool.and_eq_true] at h
  have := of_decide_eq_true h.1
  omega
theorem label_ok {y : Str} (h : labelB y = true) : PyData.strOk y = true := plain_ok fun c hc => letters_lt c (label_mem h hc)
theorem name_ok {y : Str} (h : nameB y = true) : PyData.strOk y = true := plain_ok (name_plain h)
theorem app_len (a b : Str) : (a ++ b).length = a.length + b.length := by rw [← sg_len, sg_app, List.length_append, sg_len, sg_len]
theorem dotS_len : dotS.length = 1 := by decide +kernel
/-- a word made of two -/
theorem word_app {a b : Str} {n m k : Int} (ha : wordB a lettersS n = true) (hb : wordB b lettersS m = true) (hk : n + m ≤ k) : wordB (a ++ b) lettersS k = true := by
  unfold wordB at ha hb ⊢
  rw [Bool.and_eq_true, Bool.and_eq_true] at ha hb ⊢
  have h1 := of_decide_eq_true ha.1
  have h2 := of_decide_eq_true ha.2.1
  have h3 := of_decide_eq_true hb.2.1
  rw [app_len, sg_app, List.all_append, Bool.and_eq_true]
  refine ⟨decide_eq_true ?_, decide_eq_true ?_, ha.2.2, hb.2.2⟩
  · have := of_decide_eq_true hb.1
    omega
  · omega
theorem word_mono {a : Str} {n k : Int} (ha : wordB a lettersS n = true) (hk : n ≤ k) : wordB a lettersS k = true := by
  unfold wordB at ha ⊢
  rw [Bool.and_eq_true, Bool.and_eq_true] at ha ⊢
  have h2 := of_decide_eq_true ha.2.1
  exact ⟨ha.1, decide_eq_true (by omega), ha.2.2⟩
/-! ### names joined of labels -/
theorem join_sg (ys : List Str) : sg (joinS ys) = TL.joinL [46] (ys.map sg) := by
  show sg (Txt.join dotS ys) = _
  rw [TL.join_eq, ← sg_dot]
  exact TL.tl_join dotS ys
theorem join_one (y : Str) : joinS [y] = y := sg_inj (by rw [join_sg]; rfl)
theorem join_cons (y : Str) {ys : List Str} (h : ys ≠ []) : joinS (y :: ys) = y ++ (dotS ++ joinS ys) := by
  refine sg_inj ?_
  rw [sg_app, sg_app, join_sg, join_sg, sg_dot]
  cases ys with
  | nil => exact absurd rfl h
  | cons z r => rfl
theorem str_assoc (a b c : Str) : (a ++ b) ++ c = a ++ (b ++ c) := sg_inj (by rw [sg_app, sg_app, sg_app, sg_app, List.append_assoc])
/-- a zone below the root -/
def zoneB (z : Str) : Prop := ∃ ys : List Str, z = joinS ys ∧ ys ≠ [] ∧ ys.length ≤ 3 ∧ ∀ y ∈ ys, labelB y = true
theorem zone_name {z : Str} (h : zoneB z) : nameB z = true := by
  obtain ⟨ys, rfl, h1, h2, h3⟩ := h
  exact name_join h1 (by omega) h3
theorem dot_name : nameB dotS = true := by decide +kernel
theorem zone_ne {z : Str} (h : zoneB z) : z ≠ dotS := fun e => by
  obtain ⟨ys, rfl, h1, h2, h3⟩ := h
  have e2 := parts_join h1 fun y hy => label_nodot (h3 y hy)
  rw [e] at e2
  have e3 : partsL dotS = [⟨#[]⟩, ⟨#[]⟩] := by decide +kernel
  rw [e3] at e2
  have := h3 ⟨#[]⟩ (by rw [← e2]; simp)
  exact absurd this (by decide +kernel)
theorem join_inj {ys zs : List Str} (h1 : ys ≠ []) (h2 : zs ≠ []) (h3 : ∀ y ∈ ys, labelB y = true) (h4 : ∀ y ∈ zs, labelB y = true) (e : joinS ys = joinS zs) : ys = zs := by
  have e1 := parts_join h1 fun y hy => label_nodot (h3 y hy)
  have e2 := parts_join h2 fun y hy => label_nodot (h4 y hy)
  rw [← e1, ← e2, e]
/-- a label put ahead of a zone, or alone -/
theorem name_cons {a z : Str} (ha : labelB a = true) (h : zoneB z) : nameB (a ++ (dotS ++ z)) = true := by
  obtain ⟨ys, rfl, h1, h2, h3⟩ := h
  rw [← join_cons a h1]
  refine name_join (by simp) (by rw [List.length_cons]; omega) fun y hy => ?_
  rcases List.mem_cons.mp hy with e | hy
  · rw [e]
    exact ha
  · exact h3 y hy
theorem label_name {a : Str} (ha : labelB a = true) : nameB a = true := by
  rw [← join_one a]
  exact name_join (by simp) (by simp) fun y hy => by rw [List.mem_singleton.mp hy]; exact ha
theorem name_len {z : Str} (h : nameB z = true) : z.length ≤ 40 := by
  rcases name_parts h with e | ⟨h1, h2⟩
  · rw [e, dotS_len]
    omega
  · have key : ∀ (l acc : List Nat) (B : Nat), (∀ p ∈ TL.spl [46] 0 acc l, p.length ≤ B) → acc.length + l.length ≤ (TL.spl [46] 0 acc l).length * (B + 1) - 1 ∧ 0 < (TL.spl [46] 0 acc l).length := by
      intro l
      induction l with
      | nil =>
        intro acc B h
        have := h acc (List.mem_singleton.mpr rfl)
        exact ⟨by show acc.length + 0 ≤ 1 * (B + 1) - 1; omega, Nat.one_pos⟩
      | cons c r ih =>
        intro acc B h
        by_cases hc : c = 46
        · subst hc
          have e : TL.spl [46] 0 acc (46 :: r) = acc :: TL.spl [46] 0 [] r := by
            rw [TL.spl, if_pos (by rfl)]
            rfl
          rw [e] at h ⊢
          have h1 := h acc List.mem_cons_self
          obtain ⟨h2, h3⟩ := ih [] B fun p hp => h p (List.mem_cons_of_mem _ hp)
          have h5 := Nat.mul_pos h3 (show 0 < B + 1 by omega)
          simp only [List.length_cons, List.length_nil] at h2 ⊢
          rw [Nat.succ_mul]
          omega
        · have e : TL.spl [46] 0 acc (c :: r) = TL.spl [46] 0 (acc ++ [c]) r := by
            rw [TL.spl, if_neg]
            show ¬ (TL.pre [46] (c :: r) = true)
            unfold TL.pre
            simpa using hc
          rw [e] at h ⊢
          obtain ⟨h2, h3⟩ := ih (acc ++ [c]) B h
          have h5 := Nat.mul_pos h3 (show 0 < B + 1 by omega)
          simp only [List.length_cons, List.length_append, List.length_nil] at h2 ⊢
          omega
    have hp : ∀ p ∈ TL.spl [46] 0 [] (sg z), p.length ≤ 8 := fun p hp => by
      rw [← parts_sg] at hp
      obtain ⟨y, hy, rfl⟩ := List.mem_map.mp hp
      rw [sg_len]
      exact label_len (h2 y hy)
    obtain ⟨h3, _⟩ := key (sg z) [] 8 hp
    have h4 : (TL.spl [46] 0 [] (sg z)).length ≤ 4 := by rw [← parts_sg, List.length_map]; exact h1
    rw [sg_len] at h3
    simp only [List.length_nil] at h3
    omega

open PySem PySem.Spec PyProof.Rows L2
open PySem.W (EachIs sort_maps dataLe dataLe_eq dataLt_pair dataLt_int dataLt_str AllAlike Sortable)
/-! ### the data of a realm, a state, a plan -/
def siD (p : Str × Int) : PyData := .tuple [.str p.1, .int p.2]
def ssD (p : Str × Str) : PyData := .tuple [.str p.1, .str p.2]
inductive Sl where
  | k (z : Str) | l (z : Str) | h (z : Str) | s (n k : Str)
  deriving DecidableEq
def slD : Sl → PyData
  | .k z => .tuple [.str "keys", .str z]
  | .l z => .tuple [.str "link", .str z]
  | .h z => .tuple [.str "hosts", .str z]
  | .s n k => .tuple [.str "set", .str n, .str k]
structure Itm where
  c : List Str
  li : Int
  g : List Str
  a : Int
  b : Int
def itD (i : Itm) : PyData := .tuple [.tuple (i.c.map .str), .int i.li, .tuple (i.g.map .str), .int i.a, .int i.b]
structure Rm where
  zs : List (Str × Int)
  an : List Str
  ss : List (Str × Str)
def rmD (r : Rm) : PyData := .tuple [.tuple (r.zs.map siD), .tuple (r.an.map .str), .tuple (r.ss.map ssD)]
def rowD2 (r : Sl × Itm) : PyData := .tuple [slD r.1, itD r.2]
structure Sta where
  its : List (Sl × Itm)
  on : List (Str × Str)
def stD (s : Sta) : PyData := .tuple [.tuple (s.its.map rowD2), .tuple (s.on.map ssD)]
inductive Dd where
  | put (s : Sl) (i : Itm) | on (x z : Str) | off (x z : Str)
def ddD : Dd → PyData
  | .put s i => .tuple [.str "put", slD s, itD i]
  | .on x z => .tuple [.str "on", .str x, .str z]
  | .off x z => .tuple [.str "off", .str x, .str z]
def plD (p : Int × Dd) : PyData := .tuple [.int p.1, ddD p.2]
theorem ssD_inj {a b : Str × Str} (h : ssD a = ssD b) : a = b := by
  obtain ⟨a1, a2⟩ := a
  obtain ⟨b1, b2⟩ := b
  unfold ssD at h
  injection h with h
  injection h with h1 h
  injection h with h2 _
  injection h1 with h1
  injection h2 with h2
  have h1 : a1 = b1 := h1
  have h2 : a2 = b2 := h2
  rw [h1, h2]
theorem slD_inj {a b : Sl} (h : slD a = slD b) : a = b := by
  have two : ∀ {u v x y : Str}, PyData.tuple [.str u, .str x] = PyData.tuple [.str v, .str y] → u = v ∧ x = y := by
    intro u v x y h
    injection h with h
    injection h with h1 h
    injection h with h2 _
    injection h1 with h1
    injection h2 with h2
    exact ⟨h1, h2⟩
  cases a <;> cases b <;> unfold slD at h <;> first
    | (cases (two h).2; rfl)
    | (exact absurd (two h).1 (by decide +kernel))
    | (injection h with h; injection h with _ h; injection h with h1 h; injection h with h2 _; injection h1 with h1; injection h2 with h2; rw [h1, h2])
    | (injection h with h; injection h with _ h; injection h with _ h; cases h)
theorem map_inj {α β : Type} {f : α → β} (hf : ∀ a b, f a = f b → a = b) : ∀ {xs ys : List α}, xs.map f = ys.map f → xs = ys
  | [], [], _ => rfl
  | [], _ :: _, h => by cases h
  | _ :: _, [], h => by cases h
  | x :: xs, y :: ys, h => by
    rw [List.map_cons, List.map_cons] at h
    injection h with h1 h2
    rw [hf _ _ h1, map_inj hf h2]
theorem strs_inj {xs ys : List Str} (h : xs.map PyData.str = ys.map PyData.str) : xs = ys := map_inj (fun _ _ e => by injection e) h
theorem itD_inj {a b : Itm} (h : itD a = itD b) : a = b := by
  obtain ⟨a1, a2, a3, a4, a5⟩ := a
  obtain ⟨b1, b2, b3, b4, b5⟩ := b
  unfold itD at h
  injection h with h
  injection h with h1 h
  injection h with h2 h
  injection h with h3 h
  injection h with h4 h
  injection h with h5 h
  injection h1 with h1
  injection h2 with h2
  injection h3 with h3
  injection h4 with h4
  injection h5 with h5
  have h1 : a1 = b1 := strs_inj h1
  have h2 : a2 = b2 := h2
  have h3 : a3 = b3 := strs_inj h3
  have h4 : a4 = b4 := h4
  have h5 : a5 = b5 := h5
  rw [h1, h2, h3, h4, h5]
theorem dep_strs0 : ∀ zs : List Str, PyData.depthAll (zs.map PyData.str) = 0
  | [] => rfl
  | z :: zs => by
    show max (PyData.depth (.str z)) (PyData.depthAll (zs.map PyData.str)) = 0
    rw [dep_strs0 zs]
    rfl
theorem dep_map {α : Type} {f : α → PyData} {n : Nat} (hf : ∀ a, (f a).depth ≤ n) : ∀ xs : List α, PyData.depthAll (xs.map f) ≤ n
  | [] => Nat.zero_le _
  | x :: xs => Nat.max_le.mpr ⟨hf x, dep_map hf xs⟩
theorem dep_ss (p : Str × Str) : (ssD p).depth ≤ 1 := by show 0 + 1 ≤ 1; omega
theorem dep_si (p : Str × Int) : (siD p).depth ≤ 1 := by show 0 + 1 ≤ 1; omega
theorem dep_sl (s : Sl) : (slD s).depth ≤ 1 := by cases s <;> (show 0 + 1 ≤ 1; omega)
theorem dep_it (i : Itm) : (itD i).depth ≤ 2 := by
  show max (PyData.depthAll (i.c.map .str) + 1) (max 0 (max (PyData.depthAll (i.g.map .str) + 1) (max 0 (max 0 0)))) + 1 ≤ 2
  rw [dep_strs0, dep_strs0]
  decide
/-! ### deeds done -/
def srtSS (l : List (Str × Str)) : List (Str × Str) := l.mergeSort fun a b => dataLe false id (ssD a) (ssD b)
theorem srtSS_eq (l : List (Str × Str)) : srtD (l.map ssD) = (srtSS l).map ssD := (sort_maps ssD fun _ _ _ _ => rfl).symm
def srtS (l : List Str) : List Str := l.mergeSort fun a b => dataLe false id (.str a) (.str b)
theorem srtS_eq (l : List Str) : srtD (l.map .str) = (srtS l).map .str := (sort_maps PyData.str fun _ _ _ _ => rfl).symm
theorem srtS_perm (l : List Str) : (srtS l).Perm l := List.mergeSort_perm _ _
theorem srtSS_perm (l : List (Str × Str)) : (srtSS l).Perm l := List.mergeSort_perm _ _
theorem alike_ss (l : List (Str × Str)) : AllAlike (l.map ssD) := fun d hd e he => by
  obtain ⟨y, _, rfl⟩ := List.mem_map.mp hd
  obtain ⟨z, _, rfl⟩ := List.mem_map.mp he
  rfl
theorem sortable_ss (l : List (Str × Str)) : Sortable (l.map ssD) := .inl fun d hd => by
  obtain ⟨y, _, rfl⟩ := List.mem_map.mp hd
  exact ⟨_, _, rfl⟩
theorem depth_ss (l : List (Str × Str)) : ∀ d ∈ l.map ssD, d.depth ≤ 60 := fun d hd => by
  obtain ⟨y, _, rfl⟩ := List.mem_map.mp hd
  exact Nat.le_trans (dep_ss y) (by decide)
theorem alike_s (l : List Str) : AllAlike (l.map PyData.str) := fun d hd e he => by
  obtain ⟨y, _, rfl⟩ := List.mem_map.mp hd
  obtain ⟨z, _, rfl⟩ := List.mem_map.mp he
  rfl
theorem sortable_s (l : List Str) : Sortable (l.map PyData.str) := .inr fun d hd => by
  obtain ⟨y, _, rfl⟩ := List.mem_map.mp hd
  exact ⟨fun h => (by cases h), fun _ h => (by cases h)⟩
theorem depth_s (l : List Str) : ∀ d ∈ l.map PyData.str, d.depth ≤ 60 := fun d hd => by
  obtain ⟨y, _, rfl⟩ := List.mem_map.mp hd
  show 0 ≤ 60
  decide
def aft (s : Sta) : Dd → Sta
  | .put sl i => ⟨s.its.map fun r => (r.1, if r.1 = sl then i else r.2), s.on⟩
  | .on x z => ⟨s.its, srtSS (s.on ++ [(x, z)])⟩
  | .off x z => ⟨s.its, s.on.filter fun p => !decide (p = (x, z))⟩
theorem aft_keys (s : Sta) (d : Dd) : (aft s d).its.map (·.1) = s.its.map (·.1) := by
  cases d with
  | put sl i =>
    show (s.its.map _).map _ = _
    rw [List.map_map]
    rfl
  | on x z => rfl
  | off x z => rfl

open PySem PySem.Spec PyProof.Rows L2
/-! ### what the drawing functions give -/
theorem nodup_len {α : Type} [DecidableEq α] : ∀ {l ys : List α}, l.Nodup → (∀ x ∈ l, x ∈ ys) → l.length ≤ ys.length
  | [], ys, _, _ => Nat.zero_le _
  | x :: l, ys, hn, h => by
    have hx := h x List.mem_cons_self
    have h1 := List.nodup_cons.mp hn
    have h2 := nodup_len (ys := ys.erase x) h1.2 fun y hy => (List.mem_erase_of_ne (fun e => h1.1 (by rw [← e]; exact hy))).mpr (h y (List.mem_cons_of_mem _ hy))
    rw [List.length_erase_of_mem hx] at h2
    have := List.length_pos_of_mem hx
    rw [List.length_cons]
    omega
theorem nodup_snoc {α : Type} {l : List α} {x : α} (h : l.Nodup) (hx : x ∉ l) : (l ++ [x]).Nodup := by
  rw [List.nodup_append]
  refine ⟨h, by simp, fun a ha b hb e => ?_⟩
  rw [List.mem_singleton.mp hb] at e
  rw [e] at ha
  exact hx ha
section
variable (T : List (Addr × Str))
def spId : Sp := fun vs H Q _ => ∃ (l t : Addr), vs = [.ref t] ∧ Tape l H t ∧ ∀ z H', idB z = true → Ext T [t] H H' → Tape l H' t → Q (.str z) H'
def spIds : Sp := fun vs H Q _ => ∃ (l t : Addr) (m : Int), vs = [.ref t, .int m] ∧ 0 ≤ m ∧ m ≤ 5 ∧ Tape l H t ∧
  ∀ (p : Addr) (ys : List Str) (H' : Hp), Nw H p → (ys.length : Int) = m → ys.Nodup → (∀ y ∈ ys, idB y = true) → H' p = some (.lst (ys.map V.str)) → Ext T [t] H H' → Tape l H' t → Q (.ref p) H'
def spLabel : Sp := fun vs H Q _ => ∃ (l t : Addr), vs = [.ref t] ∧ Tape l H t ∧ ∀ z H', labelB z = true → Ext T [t] H H' → Tape l H' t → Q (.str z) H'
def spLabels : Sp := fun vs H Q _ => ∃ (l t : Addr), vs = [.ref t] ∧ Tape l H t ∧
  ∀ (p : Addr) (ys : List Str) (a b c : Str) (H' : Hp), Nw H p → a ≠ b → a ≠ c → b ≠ c → (∀ y ∈ (a :: b :: c :: ys), labelB y = true) → ys.length ≤ 10 → H' p = some (.lst ((a :: b :: c :: ys).map V.str)) → Ext T [t] H H' → Tape l H' t → Q (.ref p) H'
/-- a number of a range drawn -/
def spInt (lo hi : Int) : Sp := fun vs H Q _ => ∃ (l t : Addr), vs = [.ref t] ∧ Tape l H t ∧ ∀ z H', lo ≤ z → z ≤ hi → Ext T [t] H H' → Tape l H' t → Q (.int z) H'
end
def qsL : List Str := ["q1", "q2", "q3", "q4", "q5"]
theorem qs_ok : ∀ y ∈ qsL, idB y = true := by decide +kernel
theorem qs_nodup : qsL.Nodup := by decide +kernel
open PySem PySem.Spec PyProof.Rows L2
/-! ### three labels -/
def ksL : List Str := ["k1", "k22", "k333", "k4"]
theorem ks_ok : ∀ y ∈ ksL, labelB y = true := by decide +kernel
/-- the text ends with this sign and a w -/
def EndW (c : Nat) (y : Str) : Prop := ∃ a, sg y = a ++ [c, 119]
theorem endW_inj {c d : Nat} {y : Str} (h1 : EndW c y) (h2 : EndW d y) : c = d := by
  obtain ⟨a, e1⟩ := h1
  obtain ⟨b, e2⟩ := h2
  rw [e1] at e2
  have e3 := congrArg List.reverse e2
  simp only [List.reverse_append, List.reverse_cons, List.reverse_nil, List.nil_append, List.cons_append] at e3
  injection e3 with _ e3
  injection e3 with e3 _
theorem endW_last {c : Nat} {y : Str} (h : EndW c y) : (sg y).getLast? = some 119 := by
  obtain ⟨a, e⟩ := h
  rw [e]
  simp
theorem k1_last : (sg "k1").getLast? = some 49 := by decide +kernel
theorem labels_shape {F fs : List Str} (hn : F.Nodup) (hl : ∀ y ∈ F, labelB y = true) (h4 : F.length + fs.length = 4) (hf : fs.Nodup) (hs : ∀ y ∈ fs, y ∈ F ∧ ∃ c, EndW c y) :
    ∃ a b c r, F ++ ksL = a :: b :: c :: r ∧ a ≠ b ∧ a ≠ c ∧ b ≠ c ∧ (∀ y ∈ (a :: b :: c :: r), labelB y = true) ∧ r.length ≤ 10 := by
  have hall : ∀ y ∈ F ++ ksL, labelB y = true := fun y hy => (List.mem_append.mp hy).elim (hl y) (ks_ok y)
  have hle := nodup_len hf fun y hy => (hs y hy).1
  match F, hn, hl, h4, hs, hle, hall with
  | [], _, _, h4, _, hle, _ => simp only [List.length_nil] at h4 hle; omega
  | [a], _, _, h4, _, hle, _ => simp only [List.length_cons, List.length_nil] at h4 hle; omega
  | [a, b], hn, _, h4, hs, _, hall =>
    have e2 : fs.length = 2 := by simp only [List.length_cons, List.length_nil] at h4; omega
    have hab : a ≠ b := fun e => by simp [e] at hn
    have hsub : ∀ y ∈ [a, b], y ∈ fs := by
      intro y hy
      refine Classical.byContradiction fun hno => ?_
      have h5 := nodup_len (ys := [a, b].erase y) hf fun z hz => (List.mem_erase_of_ne (fun e => hno (by rw [← e]; exact hz))).mpr (hs z hz).1
      rw [List.length_erase_of_mem hy, e2] at h5
      simp at h5
    have nk : ∀ y ∈ [a, b], y ≠ "k1" := fun y hy e => by
      obtain ⟨c, hc⟩ := (hs y (hsub y hy)).2
      have h6 := endW_last hc
      rw [e, k1_last] at h6
      cases h6
    exact ⟨a, b, "k1", ["k22", "k333", "k4"], rfl, hab, nk a (by simp), nk b (by simp), hall, by decide⟩
  | a :: b :: c :: r, hn, _, h4, _, _, hall =>
    refine ⟨a, b, c, r ++ ksL, rfl, fun e => ?_, fun e => ?_, fun e => ?_, hall, ?_⟩
    · simp [e] at hn
    · simp [e] at hn
    · simp [e] at hn
    · rw [List.length_append]
      simp only [List.length_cons] at h4
      show r.length + 4 ≤ 10
      omega
/-- the last eight signs of a word with two more -/
theorem cut8 (z : Str) (hz : 1 ≤ z.length) (hc : ∀ c ∈ sg z, c ∈ sg lettersS) : labelB (cutS z (some (-8)) none) = true ∧ (∀ c, EndW c z → EndW c (cutS z (some (-8)) none)) := by
  have e : sg (cutS z (some (-8)) none) = (sg z).drop (z.length - 8) := by
    unfold cutS
    have h : HT.sIx z.length 0 (some (-8)) = z.length - 8 := by
      unfold HT.sIx
      simp only []
      split <;> omega
    rw [h, HT.sIx_none]
    show (List.toArray _).toList = _
    rw [List.take_of_length_le]
    rw [List.length_drop, show z.cps.toList.length = z.length from sg_len z]
    omega
  have hl : (cutS z (some (-8)) none).length = z.length - (z.length - 8) := by
    rw [← sg_len, e, List.length_drop, sg_len]
  constructor
  · unfold labelB wordB
    rw [decide_eq_true (show (1 : Int) ≤ ((cutS z (some (-8)) none).length : Int) by omega), decide_eq_true (show ((cutS z (some (-8)) none).length : Int) ≤ 8 by omega), e]
    rw [List.all_eq_true.mpr fun c h => decide_eq_true (hc c (List.mem_of_mem_drop h))]
    rfl
  · rintro c ⟨a, ea⟩
    refine ⟨a.drop (z.length - 8), ?_⟩
    have h9 : z.length = a.length + 2 := by
      rw [← sg_len, ea, List.length_append]
      rfl
    rw [e, ea, List.drop_append_of_le_length (by omega)]
open PySem PySem.Spec PyProof.Rows L2
def xyzL : List Str := ["", "x", "y", "z"]
def xyzC : List Nat := [0, 120, 121, 122]
theorem xyz_len : ∀ y ∈ xyzL, y.length ≤ 1 := by decide +kernel
theorem xyz_let : ∀ y ∈ xyzL, ∀ c ∈ sg y, c ∈ sg lettersS := by decide +kernel
theorem w_let : ∀ c ∈ sg (Str.ofString "w"), c ∈ sg lettersS := by decide +kernel
theorem w_len : (Str.ofString "w").length = 1 := by decide +kernel
theorem w_sg : sg (Str.ofString "w") = [119] := by decide +kernel
theorem xyz_end {i : Nat} {y : Str} (h0 : i ≠ 0) (h : xyzL[i]? = some y) : ∃ c, xyzC[i]? = some c ∧ sg y = [c] := by
  match i, h0, h with
  | 0, h0, _ => exact absurd rfl h0
  | 1, _, h => exact ⟨120, rfl, by rw [← Option.some.inj h]; decide +kernel⟩
  | 2, _, h => exact ⟨121, rfl, by rw [← Option.some.inj h]; decide +kernel⟩
  | 3, _, h => exact ⟨122, rfl, by rw [← Option.some.inj h]; decide +kernel⟩
  | n + 4, _, h => cases h
theorem xyz_ne {i j c d : Nat} (h : j < i) (h1 : xyzC[j]? = some c) (h2 : xyzC[i]? = some d) : c ≠ d := fun e => by
  subst e
  have hn : xyzC.Nodup := by decide
  have e := (List.getElem?_inj (List.getElem?_eq_some_iff.mp h1).1 hn).mp (h1.trans h2.symm)
  omega
open PySem PySem.Spec PyProof.Rows L2
section
variable (T : List (Addr × Str))
def spZones : Sp := fun vs H Q _ => ∃ (l t : Addr) (m : Int), vs = [.ref t, .int m] ∧ 0 ≤ m ∧ m ≤ 5 ∧ Tape l H t ∧
  ∀ (p : Addr) (lag : Int) (rest : List (Str × Int)) (ns : List Str) (H' : Hp), Nw H p → rest.map (·.1) = srtS ns → ns.Nodup → (ns.length : Int) ≤ m → (∀ z ∈ ns, zoneB z) → (∀ r ∈ (dotS, lag) :: rest, 0 ≤ r.2 ∧ r.2 ≤ 100) → Ls H' p (((dotS, lag) :: rest).map siD) → Ext T [t] H H' → Tape l H' t → Q (.ref p) H'
end
/-- what a row of a zone is made of -/
def ZRel (d : PyData) (x : V) : Prop := ∃ (z : Str) (n : Int), x = .str z ∧ d = siD (z, n) ∧ 0 ≤ n ∧ n ≤ 100
theorem zrel_all : ∀ {ds : List PyData} {zs : List Str}, PySem.W.EachIs ZRel ds (zs.map V.str) → ∃ rest : List (Str × Int), ds = rest.map siD ∧ rest.map (·.1) = zs ∧ ∀ r ∈ rest, 0 ≤ r.2 ∧ r.2 ≤ 100
  | _, [], .nil => ⟨[], rfl, rfl, by simp⟩
  | _, z :: zs, .cons h t => by
    obtain ⟨rest, e1, e2, h3⟩ := zrel_all t
    obtain ⟨z', n, e3, e4, h4⟩ := h
    injection e3 with e3
    subst e3
    refine ⟨(z, n) :: rest, by rw [e4, e1]; rfl, by rw [List.map_cons, e2], fun r hr => ?_⟩
    rcases List.mem_cons.mp hr with e | hr
    · rw [e]
      exact h4
    · exact h3 r hr
/-- the six names that zones may have -/
def poolL (a b c : Str) : List Str := [a, b ++ dotS ++ a, c ++ dotS ++ b ++ dotS ++ a, b, c, c ++ dotS ++ a]
theorem pool_eq (a b c : Str) : poolL a b c = [joinS [a], joinS [b, a], joinS [c, b, a], joinS [b], joinS [c], joinS [c, a]] := by
  unfold poolL
  rw [join_cons c (ys := [b, a]) (by simp), join_cons b (ys := [a]) (by simp), join_cons c (ys := [a]) (by simp), join_one, join_one, join_one, str_assoc, str_assoc, str_assoc, str_assoc, str_assoc]
theorem pool_zone {a b c : Str} (h : ∀ y ∈ [a, b, c], labelB y = true) : ∀ z ∈ poolL a b c, zoneB z := by
  rw [pool_eq]
  have ha := h a (by simp)
  have hb := h b (by simp)
  have hc := h c (by simp)
  intro z hz
  simp only [List.mem_cons, List.not_mem_nil, or_false] at hz
  rcases hz with rfl | rfl | rfl | rfl | rfl | rfl
  all_goals refine ⟨_, rfl, by simp, by simp, ?_⟩
  all_goals
    intro y hy
    simp only [List.mem_cons, List.not_mem_nil, or_false] at hy
    first
      | (subst hy; assumption)
      | (rcases hy with rfl | rfl <;> assumption)
      | (rcases hy with rfl | rfl | rfl <;> assumption)
theorem pool_nodup {a b c : Str} (h : ∀ y ∈ [a, b, c], labelB y = true) (h1 : a ≠ b) (h2 : a ≠ c) (h3 : b ≠ c) : (poolL a b c).Nodup := by
  rw [pool_eq]
  have ha := h a (by simp)
  have hb := h b (by simp)
  have hc := h c (by simp)
  have hl : ∀ ys ∈ [[a], [b, a], [c, b, a], [b], [c], [c, a]], ys ≠ [] ∧ ∀ y ∈ ys, labelB y = true := by
    intro ys hy
    simp only [List.mem_cons, List.not_mem_nil, or_false] at hy
    rcases hy with rfl | rfl | rfl | rfl | rfl | rfl <;> simp [ha, hb, hc]
  have hn : [[a], [b, a], [c, b, a], [b], [c], [c, a]].Nodup := by
    simp [h1, h2, h3, h1.symm, h2.symm, h3.symm]
  have key : ∀ {L : List (List Str)}, (∀ ys ∈ L, ys ≠ [] ∧ ∀ y ∈ ys, labelB y = true) → L.Nodup → (L.map joinS).Nodup := by
    intro L
    induction L with
    | nil => intro _ _; simp
    | cons x L ih =>
      intro hL hn
      rw [List.map_cons, List.nodup_cons]
      have h4 := List.nodup_cons.mp hn
      refine ⟨fun hm => ?_, ih (fun ys hy => hL ys (List.mem_cons_of_mem _ hy)) h4.2⟩
      obtain ⟨y, hy, e⟩ := List.mem_map.mp hm
      have hx := hL x List.mem_cons_self
      have hy2 := hL y (List.mem_cons_of_mem _ hy)
      have := join_inj hy2.1 hx.1 hy2.2 hx.2 e
      rw [this] at hy
      exact h4.1 hy
  exact key hl hn
/-- a member of a list in place of what an index gives -/
theorem at_inV {xs : List V} {i : Int} (h0 : 0 ≤ i) (h : i < xs.length) : ∃ c, atI xs i = some c ∧ xs[i.toNat]? = some c := by
  obtain ⟨c, h1, h2, _⟩ := at_in h0 h
  exact ⟨c, h1, h2⟩

open PySem PySem.Spec PyProof.Rows L2
/-! ### a realm drawn -/
structure RmOk (R : Rm) (m : Int) : Prop where
  zs : ∃ (lag : Int) (rest : List (Str × Int)) (ns : List Str), R.zs = (dotS, lag) :: rest ∧ rest.map (·.1) = srtS ns ∧ ns.Nodup ∧ (ns.length : Int) ≤ m ∧ ∀ z ∈ ns, zoneB z
  lags : ∀ r ∈ R.zs, 0 ≤ r.2 ∧ r.2 ≤ 100
  ss : ∃ l, R.ss.Sublist (srtSS l)
  ssn : R.ss.Nodup
  ssok : ∀ p ∈ R.ss, nameB p.1 = true ∧ idB p.2 = true
  used : ∀ z ∈ R.zs, ∃ p ∈ R.ss, endsB p.1 z.1 = true
  slen : (R.ss.length : Int) ≤ m + 2
  an : ∃ ys, R.an = srtS ys ∧ ys.Nodup ∧ (∀ y ∈ ys, idB y = true) ∧ 1 ≤ ys.length ∧ ys.length ≤ 3
section
variable (T : List (Addr × Str))
def spRealm : Sp := fun vs H Q _ => ∃ (l t : Addr) (m : Int), vs = [.ref t, .int m] ∧ 0 ≤ m ∧ m ≤ 5 ∧ Tape l H t ∧ ∀ (v : V) (R : Rm) (H' : Hp), RmOk R m → Im H' v (rmD R) → Ext T [t] H H' → Tape l H' t → Q v H'
end
theorem rd_appLs {H : Hp} {Q : VK} {p : Addr} {ds : List PyData} {v : V} {d : PyData} (h : Ls H p ds) (hv : Im H v d) (c : ds.length < sizeLine) (q : ∀ xs, H p = some (.lst xs) → Ls (upd H p (.lst (xs ++ [v]))) p (ds ++ [d]) → Q .non (upd H p (.lst (xs ++ [v])))) : rAppend (.ref p) [v] H Q := by
  obtain ⟨xs, h1, h2⟩ := h
  refine rd_app h1 (by rw [h2.len]; exact c) (q xs h1 ⟨_, upd_same, ?_⟩)
  have e : Ext [] [p] H (upd H p (.lst (xs ++ [v]))) := Ext.mut (by simp) h1
  have hl : Lsts H [p] := fun b hb => ⟨xs, by rw [List.mem_singleton.mp hb]; exact h1⟩
  exact (ImAll.ext e hl _ _ h2).snoc (Im.ext e hl _ _ hv)
theorem Ls.list {H : Hp} {p : Addr} {ds : List PyData} (h : Ls H p ds) : ∃ xs, H p = some (.lst xs) ∧ ImAll H xs ds := h
theorem lsts_one {H : Hp} {p : Addr} {xs : List V} (h : H p = some (.lst xs)) : Lsts H [p] := fun b hb => ⟨xs, by rw [List.mem_singleton.mp hb]; exact h⟩
theorem Ls.new {H : Hp} {p q : Addr} {o : HO} {ds : List PyData} (h : Ls H p ds) (hq : H q = none) : Ls (upd H q o) p ds := h.ext (T := []) (ms := []) (.new hq) (by simp) Lsts.nil
theorem Im.new {H : Hp} {q : Addr} {o : HO} {v : V} {d : PyData} (h : Im H v d) (hq : H q = none) : Im (upd H q o) v d := Im.ext (T := []) (ms := []) (.new hq) Lsts.nil _ _ h
theorem ImAll.new {H : Hp} {q : Addr} {o : HO} {vs : List V} {ds : List PyData} (h : ImAll H vs ds) (hq : H q = none) : ImAll (upd H q o) vs ds := ImAll.ext (T := []) (ms := []) (.new hq) Lsts.nil _ _ h
theorem Ls.ne {H : Hp} {p q : Addr} {ds : List PyData} (h : Ls H p ds) (hq : H q = none) : p ≠ q := by
  obtain ⟨xs, h1, _⟩ := h
  exact (Nw.of hq).lst h1
theorem ends_self (n : Str) : endsB n n = true := by
  unfold endsB
  rw [decide_eq_true (show n = n from rfl)]
  simp
theorem ends_dot (n : Str) : endsB n dotS = true := by
  unfold endsB
  rw [decide_eq_true (show dotS = dotS from rfl)]
  rfl
theorem ends_app (a z : Str) : endsB (a ++ (dotS ++ z)) z = true := by
  unfold endsB
  rw [(endswith_iff _ _).mpr ⟨sg a, (sg_app a (dotS ++ z)).symm⟩]
  simp
theorem mem_ssD {r : Str × Str} {l : List (Str × Str)} : ssD r ∈ l.map ssD ↔ r ∈ l := by
  constructor
  · intro h
    obtain ⟨x, hx, e⟩ := List.mem_map.mp h
    rw [← ssD_inj e]
    exact hx
  · exact fun h => List.mem_map_of_mem h
theorem mem_slD {r : Sl} {l : List Sl} : slD r ∈ l.map slD ↔ r ∈ l := by
  constructor
  · intro h
    obtain ⟨x, hx, e⟩ := List.mem_map.mp h
    rw [← slD_inj e]
    exact hx
  · exact fun h => List.mem_map_of_mem h
open PySem PySem.Spec PyProof.Rows L2
theorem rd_ixLs {K : PySem.W.Frag} {H : Hp} {Q : VK} {p : Addr} {ds : List PyData} {i : Int} {d : PyData} (h : Ls H p ds) (a : atI ds i = some d) (q : ∀ u, Im H u d → Q u H) : rIx K (.ref p) (.int i) H Q := by
  obtain ⟨xs, h1, h2⟩ := h
  have key : ∃ u, atI xs i = some u ∧ Im H u d := by
    unfold atI at a ⊢
    cases e : ixN ds.length i with
    | none =>
      rw [e] at a
      cases a
    | some k =>
      rw [e] at a
      obtain ⟨u, e1, e2⟩ := h2.get (i := k) (by simpa using a)
      exact ⟨u, by rw [h2.len, e]; simpa using e1, e2⟩
  obtain ⟨u, h3, h4⟩ := key
  exact rd_ixL (SqL.of h1) h3 (q u h4)
theorem rd_ixSs {K : PySem.W.Frag} {H : Hp} {Q : VK} {v : V} {ds : List PyData} {i : Int} {z : Str} (h : Im H v (.tuple ds)) (a : atI ds i = some (.str z)) (q : Q (.str z) H) : rIx K v (.int i) H Q := rd_ixI h a fun u hu => by
  rw [hu.str']
  exact q
theorem last_map {α β : Type} {f : α → β} {l : List α} {x : α} (h : l.getLast? = some x) : atI (l.map f) (-1) = some (f x) := at_last (by rw [List.getLast?_map, h]; rfl)
theorem last_some {α : Type} {l : List α} (h : l ≠ []) : ∃ x, l.getLast? = some x ∧ x ∈ l := ⟨l.getLast h, List.getLast?_eq_some_getLast h, List.getLast_mem h⟩

open PySem PySem.Spec PyProof.Rows L2
open PySem.W (EachIs sort_maps dataLe AllAlike Sortable)
mutual
theorem Im.inj {H : Hp} : ∀ (d e : PyData) (v : V), Im H v d → Im H v e → d = e
  | .none, e, v, h1, h2 => by
    cases h1
    cases h2
    rfl
  | .bool _, e, v, h1, h2 => by cases h1
  | .list _, e, v, h1, h2 => by cases h1
  | .dict _, e, v, h1, h2 => by cases h1
  | .int i, e, v, h1, h2 => by
    cases h1
    cases h2
    rfl
  | .str x, e, v, h1, h2 => by
    cases h1
    cases h2
    rfl
  | .tuple ds, e, v, h1, h2 => by
    cases h1 with
    | tup a b =>
      cases h2 with
      | tup c d =>
        have e1 := a.symm.trans c
        injection e1 with e1
        injection e1 with e1
        subst e1
        rw [ImAll.inj ds _ _ b d]
theorem ImAll.inj {H : Hp} : ∀ (ds es : List PyData) (vs : List V), ImAll H vs ds → ImAll H vs es → ds = es
  | [], es, vs, h1, h2 => by
    cases h1
    cases h2
    rfl
  | d :: ds, es, vs, h1, h2 => by
    cases h1 with
    | cons a b =>
      cases h2 with
      | cons c d =>
        rw [Im.inj _ _ _ a c, ImAll.inj _ _ _ b d]
end
/-- a comprehension whose items are told by a relation that no heap changes -/
theorem lcg_rel (T : List (Addr × Str)) (ms : List Addr) {σ : L2.St} {H : Hp} {Q : VK} {J : It} {n : Nat} {G : Hp → Prop} {Y : Nat → Hp → V → Hp → Prop} {g : TG} {tt : TT} {te : TE} {vs : List Nat} (w : Walk J n G Y) (xs : List V) (hn : n = xs.length) (hY : ∀ i H x H', Y i H x H' → H' = H ∧ xs[i]? = some x)
    (hDm : ∀ D, H D = none → D ∉ ms) (hG : ∀ H', Ext T ms H H' → G H') (hl : xs.length < sizeLine) (p : V → Bool) (Rel : V → V → Prop)
    (step : ∀ (i : Nat) (x : V), xs[i]? = some x → ∀ H', Ext T ms H H' → ∀ (R : V → Hp → Prop) (S : Hp → Prop), (p x = true → ∀ v H2, Ext T ms H' H2 → Rel v x → R v H2) → (p x = false → ∀ H2, Ext T ms H' H2 → S H2) →
      g x (wipe σ vs) H' fun σ2 H2 => wipe σ2 vs = wipe σ vs ∧ tt σ2 H2 fun b H3 => if b = true then te σ2 H3 R else S H3)
    (q : ∀ D H2 ys, Nw H D → Ext T ms H H2 → H2 D = some (.lst ys) → EachIs Rel ys (xs.filter p) → Q (.ref D) H2) : LcG J g tt te vs σ H Q := fun D hD => by
  refine lc_it w (fun i H2 => Ext T ms H H2 ∧ ∃ ys, H2 D = some (.lst ys) ∧ EachIs Rel ys ((xs.take i).filter p)) ⟨.new hD, [], upd_same, .nil⟩ (fun i H2 _ h => hG H2 h.1) (fun i x H1 H' hi h y => ?_) (fun H1 h => ?_)
  · obtain ⟨e1, e2⟩ := hY i H1 x H' y
    subst e1
    obtain ⟨h1, ys, h3, h4⟩ := h
    have et : xs.take (i + 1) = xs.take i ++ [x] := by rw [List.take_add_one, e2]; rfl
    refine step i x e2 H' h1 _ _ (fun hp v H2 e hr => ?_) (fun hp H2 e => ?_)
    · have h5 := e.lst (hDm D hD) h3
      refine ⟨ys, h5, ?_, (h1.trans e).own (.of hD) h5, ys ++ [v], upd_same, ?_⟩
      · refine Nat.lt_of_le_of_lt ?_ hl
        rw [h4.length]
        exact Nat.le_trans (List.length_filter_le _ _) (by rw [List.length_take]; exact Nat.min_le_right _ _)
      · rw [et, List.filter_append, List.filter_cons_of_pos hp]
        exact PySem.W.each_snoc hr h4
    · refine ⟨h1.trans e, ys, e.lst (hDm D hD) h3, ?_⟩
      rw [et, List.filter_append, List.filter_cons_of_neg (by rw [hp]; decide), List.filter_nil, List.append_nil]
      exact h4
  · obtain ⟨h1, ys, h3, h4⟩ := h
    rw [hn, List.take_length] at h4
    exact q D H1 ys (.of hD) h1 h3 h4
/-! ### the law's chain, slots, home -/
def isD (p : Int × Str) : PyData := .tuple [.int p.1, .str p.2]
def onZ (n : Str) (z : Str × Int) : Bool := !decide (z.1 = dotS) && endsB n z.1
def chF (R : Rm) (n : Str) : List (Int × Str) := (0, dotS) :: ((R.zs.filter (onZ n)).map fun z => ((z.1.length : Int), z.1))
def srtIS (l : List (Int × Str)) : List (Int × Str) := l.mergeSort fun a b => dataLe false id (isD a) (isD b)
theorem srtIS_eq (l : List (Int × Str)) : srtD (l.map isD) = (srtIS l).map isD := (sort_maps isD fun _ _ _ _ => rfl).symm
theorem srtIS_perm (l : List (Int × Str)) : (srtIS l).Perm l := List.mergeSort_perm _ _
theorem alike_is (l : List (Int × Str)) : AllAlike (l.map isD) := fun d hd e he => by
  obtain ⟨y, _, rfl⟩ := List.mem_map.mp hd
  obtain ⟨z, _, rfl⟩ := List.mem_map.mp he
  rfl
theorem sortable_is (l : List (Int × Str)) : Sortable (l.map isD) := .inl fun d hd => by
  obtain ⟨y, _, rfl⟩ := List.mem_map.mp hd
  exact ⟨_, _, rfl⟩
theorem depth_is (l : List (Int × Str)) : ∀ d ∈ l.map isD, d.depth ≤ 60 := fun d hd => by
  obtain ⟨y, _, rfl⟩ := List.mem_map.mp hd
  show 0 + 1 ≤ 60
  omega
def chL (R : Rm) (n : Str) : List Str := (srtIS (chF R n)).map (·.2)
theorem chL_mem {R : Rm} {n z : Str} : z ∈ chL R n ↔ z = dotS ∨ ∃ y ∈ R.zs, onZ n y = true ∧ y.1 = z := by
  unfold chL
  rw [((srtIS_perm (chF R n)).map _).mem_iff]
  unfold chF
  simp only [List.map_cons, List.mem_cons, List.map_map, List.mem_map, List.mem_filter, Function.comp_apply]
  constructor
  · rintro (h | ⟨y, ⟨h1, h2⟩, h3⟩)
    · exact .inl h
    · exact .inr ⟨y, h1, h2, h3⟩
  · rintro (h | ⟨y, h1, h2, h3⟩)
    · exact .inl h
    · exact .inr ⟨y, ⟨h1, h2⟩, h3⟩
theorem chL_len (R : Rm) (n : Str) : (chL R n).length = 1 + (R.zs.filter (onZ n)).length := by
  unfold chL
  rw [List.length_map, (srtIS_perm (chF R n)).length_eq]
  unfold chF
  rw [List.length_cons, List.length_map]
  omega
def slotsR (R : Rm) : List Sl := (.k dotS :: R.zs.tail.flatMap fun z => [.k z.1, .l z.1, .h z.1]) ++ R.ss.map fun p => .s p.1 p.2
def homeR (R : Rm) : Sl → Str
  | .k z => z
  | .s n _ => (chL R n).getLast?.getD dotS
  | .l z => (chL R z).dropLast.getLast?.getD dotS
  | .h z => (chL R z).dropLast.getLast?.getD dotS
theorem at_last2 {α : Type} {l : List α} {v : α} (h : l.dropLast.getLast? = some v) : atI l (-2) = some v := by
  obtain ⟨r, e⟩ := List.getLast?_eq_some_iff.mp h
  have hl : l ≠ [] := fun z => by rw [z] at h; cases h
  have e2 := List.dropLast_concat_getLast hl
  rw [e] at e2
  obtain ⟨x, e3⟩ : ∃ x, l = r ++ [v, x] := ⟨l.getLast hl, by rw [List.append_assoc] at e2; exact e2.symm⟩
  rw [e3]
  unfold atI
  have h1 : ixN (r ++ [v, x]).length (-2) = some r.length := by
    unfold ixN
    rw [List.length_append]
    simp only [List.length_cons, List.length_nil]
    rw [if_neg (by decide), if_pos (by omega)]
    congr 1
    omega
  rw [h1]
  simp
theorem cutV_from {α : Type} (l : List V) {i : Int} (h0 : 0 ≤ i) : cutV l (some i) none = l.drop i.toNat := by
  unfold cutV
  rw [HT.sIx_none]
  have e : HT.sIx l.length 0 (some i) = min i.toNat l.length := by
    obtain ⟨k, rfl⟩ := Int.eq_ofNat_of_zero_le h0
    exact HT.sIx_nat l.length 0 k
  rw [e, List.take_of_length_le (by rw [List.length_drop]; omega)]
  by_cases h : i.toNat ≤ l.length
  · rw [Nat.min_eq_left h]
  · rw [Nat.min_eq_right (by omega), List.drop_length, List.drop_eq_nil_of_le (by omega)]
theorem cutV_to (l : List V) {i : Int} (h0 : 0 ≤ i) : cutV l none (some i) = l.take i.toNat := by
  unfold cutV
  have e0 : HT.sIx l.length 0 none = 0 := HT.sIx_none ..
  have e : HT.sIx l.length l.length (some i) = min i.toNat l.length := by
    obtain ⟨k, rfl⟩ := Int.eq_ofNat_of_zero_le h0
    exact HT.sIx_nat l.length l.length k
  rw [e0, e]
  show (l.drop 0).take (min i.toNat l.length - 0) = _
  rw [List.drop_zero, Nat.sub_zero]
  by_cases h : i.toNat ≤ l.length
  · rw [Nat.min_eq_left h]
  · rw [Nat.min_eq_right (by omega), List.take_length, List.take_of_length_le (by omega)]
/-- a realm as the drawing functions read it -/
structure RmIn (R : Rm) : Prop where
  ne : ∃ lag rest, R.zs = (dotS, lag) :: rest ∧ ∀ r ∈ rest, r.1 ≠ dotS
  len : R.zs.length ≤ 6
  nm : ∀ z ∈ R.zs, nameB z.1 = true
  nd : (R.zs.map (·.1)).Nodup
  sok : ∀ p ∈ R.ss, nameB p.1 = true ∧ idB p.2 = true
  sn : R.ss.Nodup
  slen : R.ss.length ≤ 7
  an : ∃ a r, R.an = a :: r ∧ idB a = true
section
variable (T : List (Addr × Str))
def spChainL : Sp := fun vs H Q _ => ∃ (v : V) (R : Rm) (n : Str), vs = [v, .str n] ∧ Im H v (rmD R) ∧ RmIn R ∧ nameB n = true ∧ ∀ (p : Addr) (H' : Hp), Nw H p → Ext T [] H H' → H' p = some (.lst ((chL R n).map V.str)) → Q (.ref p) H'
def spSlots : Sp := fun vs H Q _ => ∃ (v : V) (R : Rm), vs = [v] ∧ Im H v (rmD R) ∧ RmIn R ∧ ∀ (p : Addr) (H' : Hp), Nw H p → Ext T [] H H' → Ls H' p ((slotsR R).map slD) → Q (.ref p) H'
def spHome : Sp := fun vs H Q _ => ∃ (v u : V) (R : Rm) (s : Sl), vs = [v, u] ∧ Im H v (rmD R) ∧ Im H u (slD s) ∧ RmIn R ∧ s ∈ slotsR R ∧ ∀ (H' : Hp), Ext T [] H H' → homeR R s ∈ R.zs.map (·.1) → Q (.str (homeR R s)) H'
end
theorem RmOk.rin {R : Rm} {m : Int} (h : RmOk R m) (hm : m ≤ 5) : RmIn R := by
  obtain ⟨lag, rest, ns, e1, e2, e3, e4, e5⟩ := h.zs
  have hmem : ∀ z, z ∈ rest.map (·.1) ↔ z ∈ ns := fun z => by rw [e2]; exact (srtS_perm ns).mem_iff
  have hr : ∀ r ∈ rest, zoneB r.1 := fun r hr => e5 _ ((hmem _).mp (List.mem_map_of_mem hr))
  have hlen : rest.length = ns.length := by
    have := congrArg List.length e2
    rw [List.length_map, (srtS_perm ns).length_eq] at this
    exact this
  refine ⟨⟨lag, rest, e1, fun r hr' => zone_ne (hr r hr')⟩, ?_, fun z hz => ?_, ?_, h.ssok, h.ssn, ?_, ?_⟩
  · rw [e1, List.length_cons]
    omega
  · rw [e1] at hz
    rcases List.mem_cons.mp hz with e | hz
    · rw [e]
      exact dot_name
    · exact zone_name (hr z hz)
  · rw [e1, List.map_cons, List.nodup_cons, e2]
    refine ⟨fun hd => ?_, (srtS_perm ns).nodup_iff.mpr e3⟩
    exact zone_ne (e5 _ ((srtS_perm ns).mem_iff.mp hd)) rfl
  · have := h.slen
    omega
  · obtain ⟨ys, h1, h2, h3, h4, h5⟩ := h.an
    cases e : srtS ys with
    | nil =>
      have := (srtS_perm ys).length_eq
      rw [e] at this
      simp only [List.length_nil] at this
      omega
    | cons a r =>
      exact ⟨a, r, by rw [h1, e], h3 a ((srtS_perm ys).mem_iff.mp (by rw [e]; simp))⟩

open PySem PySem.Spec PyProof.Rows L2
open PySem.W (EachIs)
/-! ### the keys of the zones: a list of pairs whose seconds are lists -/
def PoolRow (H : Hp) (ms : List Addr) (v : V) (r : Str × List Str) : Prop := ∃ ta pa, v = .ref ta ∧ H ta = some (.tup [.str r.1, .ref pa]) ∧ H pa = some (.lst (r.2.map V.str)) ∧ pa ∉ ms
def Pools (H : Hp) (t a : Addr) (ps : List (Str × List Str)) : Prop := ∃ xs, H a = some (.lst xs) ∧ a ≠ t ∧ EachIs (PoolRow H [t]) xs ps
theorem PoolRow.ext {T : List (Addr × Str)} {ms ms' : List Addr} {H H' : Hp} {v : V} {r : Str × List Str} (h : PoolRow H ms v r) (e : Ext T ms' H H') (hs : ∀ b ∈ ms', b ∈ ms) (hl : Lsts H ms') : PoolRow H' ms v r := by
  obtain ⟨ta, pa, e1, e2, e3, e4⟩ := h
  exact ⟨ta, pa, e1, SqP.ext (xs := [.str r.1, .ref pa]) e2 e hl, e.lst (fun hb => e4 (hs _ hb)) e3, e4⟩
theorem rows_ext {T : List (Addr × Str)} {ms ms' : List Addr} {H H' : Hp} {xs : List V} {ps : List (Str × List Str)} (h : EachIs (PoolRow H ms) xs ps) (e : Ext T ms' H H') (hs : ∀ b ∈ ms', b ∈ ms) (hl : Lsts H ms') : EachIs (PoolRow H' ms) xs ps := h.mono fun _ _ x => x.ext e hs hl
theorem rows_weak {ms ms' : List Addr} {H : Hp} {xs : List V} {ps : List (Str × List Str)} (h : EachIs (PoolRow H ms) xs ps) (hs : ∀ b ∈ ms', b ∈ ms) : EachIs (PoolRow H ms') xs ps := h.mono fun _ _ ⟨ta, pa, e1, e2, e3, e4⟩ => ⟨ta, pa, e1, e2, e3, fun hb => e4 (hs _ hb)⟩
theorem Pools.ext {T : List (Addr × Str)} {H H' : Hp} {l t a : Addr} {ps : List (Str × List Str)} (h : Pools H t a ps) (e : Ext T [t] H H') (hT : Tape l H t) : Pools H' t a ps := by
  obtain ⟨xs, h1, h2, h3⟩ := h
  exact ⟨xs, e.lst (by simpa using h2) h1, h2, rows_ext h3 e (fun _ h => h) hT.lsts⟩
theorem Pools.new {H : Hp} {t a q : Addr} {o : HO} {ps : List (Str × List Str)} (h : Pools H t a ps) (hq : H q = none) : Pools (upd H q o) t a ps := by
  obtain ⟨xs, h1, h2, h3⟩ := h
  have e : Ext [] [] H (upd H q o) := .new hq
  exact ⟨xs, e.lst (by simp) h1, h2, rows_ext h3 e (by simp) Lsts.nil⟩
theorem Pools.ext0 {T : List (Addr × Str)} {H H' : Hp} {t a : Addr} {ps : List (Str × List Str)} (h : Pools H t a ps) (e : Ext T [] H H') : Pools H' t a ps := by
  obtain ⟨xs, h1, h2, h3⟩ := h
  exact ⟨xs, e.lst (by simp) h1, h2, rows_ext h3 e (by simp) Lsts.nil⟩
structure PsOk (R : Rm) (ps : List (Str × List Str)) : Prop where
  nm : ps.map (·.1) = R.zs.map (·.1)
  nd : ∀ p ∈ ps, p.2.Nodup
  ok : ∀ p ∈ ps, ∀ y ∈ p.2, idB y = true
  len : ∀ p ∈ ps, p.2.length = 3
structure ItmOk (s : Sl) (i : Itm) : Prop where
  c : ∃ cs : List Str, i.c = srtS cs ∧ cs.Nodup ∧ (∀ y ∈ cs, idB y = true) ∧ cs.length ≤ 4
  g : ∃ gs : List Str, i.g = srtS gs ∧ gs.Nodup ∧ (∀ y ∈ gs, idB y = true) ∧ gs.length ≤ 3
  li : 1 ≤ i.li ∧ i.li ≤ 1000
  ab : 0 ≤ i.a ∧ i.a ≤ i.b ∧ i.b ≤ 10000
  h : ∀ z, s = .h z → i.g = [] ∧ i.a = 0 ∧ i.b = 10000
section
variable (T : List (Addr × Str))
def spPools : Sp := fun vs H Q _ => ∃ (l t : Addr) (v : V) (R : Rm), vs = [.ref t, v] ∧ Tape l H t ∧ Im H v (rmD R) ∧ RmIn R ∧ ∀ (a : Addr) (ps : List (Str × List Str)) (H' : Hp), Nw H a → Pools H' t a ps → PsOk R ps → Ext T [t] H H' → Tape l H' t → Q (.ref a) H'
def spPool : Sp := fun vs H Q _ => ∃ (t a : Addr) (ps : List (Str × List Str)) (z : Str) (ks : List Str), vs = [.ref a, .str z] ∧ Pools H t a ps ∧ ps.length ≤ 6 ∧ (ps.map (·.1)).Nodup ∧ (z, ks) ∈ ps ∧
  ∀ (pa : Addr) (H' : Hp), pa ≠ t → H pa = some (.lst (ks.map V.str)) → Ext T [] H H' → Q (.ref pa) H'
def spItem : Sp := fun vs H Q _ => ∃ (ca sa : Addr) (cs gs : List Str) (li : Int), vs = [.ref ca, .int li, .ref sa] ∧ H ca = some (.lst (cs.map V.str)) ∧ H sa = some (.lst (gs.map V.str)) ∧ (∀ y ∈ cs, idB y = true) ∧ (∀ y ∈ gs, idB y = true) ∧
  ∀ (v : V) (H' : Hp), Ext T [] H H' → Im H' v (itD ⟨srtS cs, li, srtS gs, 0, 10000⟩) → Q v H'
def spFirst : Sp := fun vs H Q _ => ∃ (l t pa : Addr) (v u : V) (R : Rm) (ps : List (Str × List Str)) (s : Sl), vs = [.ref t, v, .ref pa, u] ∧ Tape l H t ∧ Im H v (rmD R) ∧ RmIn R ∧ Pools H t pa ps ∧ PsOk R ps ∧ Im H u (slD s) ∧ s ∈ slotsR R ∧
  ∀ (x : V) (i : Itm) (H' : Hp), ItmOk s i → Im H' x (itD i) → Ext T [t] H H' → Tape l H' t → Q x H'
end
theorem filter_key {ps : List (Str × List Str)} {z : Str} {ks : List Str} (hn : (ps.map (·.1)).Nodup) (hm : (z, ks) ∈ ps) : ps.filter (fun p => decide (p.1 = z)) = [(z, ks)] := by
  induction ps with
  | nil => cases hm
  | cons p ps ih =>
    rw [List.map_cons, List.nodup_cons] at hn
    rcases List.mem_cons.mp hm with e | hm
    · subst e
      rw [List.filter_cons_of_pos (by simp), List.filter_eq_nil_iff.mpr]
      intro y hy h
      have h2 : y.1 = z := of_decide_eq_true h
      exact hn.1 (List.mem_map.mpr ⟨y, hy, h2⟩)
    · rw [List.filter_cons_of_neg, ih hn.2 hm]
      intro h
      have h2 : p.1 = z := of_decide_eq_true h
      exact hn.1 (List.mem_map.mpr ⟨_, hm, h2.symm⟩)
theorem filter_others {ks : List Str} {a : Str} (hn : ks.Nodup) : ks.length ≤ (ks.filter fun k => !decide (k = a)).length + 1 := by
  induction ks with
  | nil => simp
  | cons k ks ih =>
    rw [List.nodup_cons] at hn
    by_cases h : k = a
    · rw [List.filter_cons_of_neg (by simp [h])]
      have : ks.filter (fun k => !decide (k = a)) = ks := List.filter_eq_self.mpr fun x hx => by
        simp only [Bool.not_eq_true', decide_eq_false_iff_not]
        intro e
        rw [← h] at e
        rw [e] at hx
        exact hn.1 hx
      rw [this]
      simp
    · rw [List.filter_cons_of_pos (by simp [h])]
      have := ih hn.2
      simp only [List.length_cons]
      omega

open PySem PySem.Spec PyProof.Rows L2
open PySem.W (EachIs)
/-! ### what is made new, the heap told by what it keeps -/
section
variable {T : List (Addr × Str)} {H H' : Hp}
theorem Im.x {v : V} {d : PyData} (h : Im H v d) (e : Ext T [] H H') : Im H' v d := Im.ext e Lsts.nil _ _ h
theorem ImAll.x {vs : List V} {ds : List PyData} (h : ImAll H vs ds) (e : Ext T [] H H') : ImAll H' vs ds := ImAll.ext e Lsts.nil _ _ h
theorem Ls.x {a : Addr} {ds : List PyData} (h : Ls H a ds) (e : Ext T [] H H') : Ls H' a ds := h.ext e (by simp) Lsts.nil
theorem SqP.x {a : Addr} {xs : List V} (h : SqP H a xs) (e : Ext T [] H H') : SqP H' a xs := SqP.ext h e Lsts.nil
theorem lst.x {a : Addr} {xs : List V} (h : H a = some (.lst xs)) (e : Ext T [] H H') : H' a = some (.lst xs) := e.lst (by simp) h
theorem Im.y {l t : Addr} {v : V} {d : PyData} (h : Im H v d) (e : Ext T [t] H H') (hT : Tape l H t) : Im H' v d := Im.ext e hT.lsts _ _ h
theorem ImAll.y {l t : Addr} {vs : List V} {ds : List PyData} (h : ImAll H vs ds) (e : Ext T [t] H H') (hT : Tape l H t) : ImAll H' vs ds := ImAll.ext e hT.lsts _ _ h
theorem Ls.y {l t a : Addr} {ds : List PyData} (h : Ls H a ds) (e : Ext T [t] H H') (ha : a ≠ t) (hT : Tape l H t) : Ls H' a ds := h.ext e (by simpa using ha) hT.lsts
theorem lst.y {t a : Addr} {xs : List V} (h : H a = some (.lst xs)) (e : Ext T [t] H H') (ha : a ≠ t) : H' a = some (.lst xs) := e.lst (by simpa using ha) h
end
section
variable (T : List (Addr × Str)) {K : PySem.W.Frag} {H : Hp} {Q : VK}
theorem allocT {xs : List V} (hl : xs.length ≤ 1000) (q : ∀ p H', Nw H p → Ext T [] H H' → H' p = some (.tup xs) → Q (.ref p) H') : xs.length ≤ sizeLine ∧ ∀ p, H p = none → Q (.ref p) (upd H p (.tup xs)) :=
  ⟨Nat.le_trans hl (by decide), fun p hp => q p _ (.of hp) (.new hp) upd_same⟩
theorem allocL {xs : List V} (hl : xs.length ≤ 1000) (q : ∀ p H', Nw H p → Ext T [] H H' → H' p = some (.lst xs) → Q (.ref p) H') : xs.length ≤ sizeLine ∧ ∀ p, H p = none → Q (.ref p) (upd H p (.lst xs)) :=
  ⟨Nat.le_trans hl (by decide), fun p hp => q p _ (.of hp) (.new hp) upd_same⟩
theorem rd_takeS {a : Addr} {zs : List Str} {i : Int} (h : H a = some (.lst (zs.map V.str))) (h0 : 0 ≤ i) (q : ∀ p H', Nw H p → Ext T [] H H' → H' p = some (.lst ((zs.take i.toNat).map V.str)) → Q (.ref p) H') : rSlU K (.ref a) none (some i) H Q :=
  rd_slL (SqL.of h) fun p hp => q p _ (.of hp) (.new hp) (by rw [cutV_to _ h0, ← List.map_take]; exact upd_same)
theorem rd_dropS {a : Addr} {zs : List Str} {i : Int} (h : H a = some (.lst (zs.map V.str))) (h0 : 0 ≤ i) (q : ∀ p H', Nw H p → Ext T [] H H' → H' p = some (.lst ((zs.drop i.toNat).map V.str)) → Q (.ref p) H') : rSlU K (.ref a) (some i) none H Q :=
  rd_slL (SqL.of h) fun p hp => q p _ (.of hp) (.new hp) (by rw [cutV_from (α := V) _ h0, ← List.map_drop]; exact upd_same)
theorem rd_tupA {p : Addr} {ys : List V} (h : H p = some (.lst ys)) (q : ∀ l H', Nw H l → Ext T [] H H' → H' l = some (.tup ys) → Q (.ref l) H') : rTupOf K [.ref p] H Q := rd_tupL (SqL.of h) fun l hl => q l _ (.of hl) (.new hl) upd_same
theorem rd_tupFA {p : Addr} {ys : List V} (h : H p = some (.lst ys)) (q : ∀ l H' o, Nw H l → Ext T [] H H' → o.dict = none → H' l = some (.frz o (.tup ys)) → Q (.ref l) H') : rTupF K [.ref p] H Q := rd_tupF (SqL.of h) fun l o hl ho => q l _ o (.of hl) (.new hl) ho upd_same
theorem rd_listA {p : Addr} {ys : List V} (h : SqT K H p ys) (q : ∀ l H', Nw H l → Ext T [] H H' → H' l = some (.lst ys) → Q (.ref l) H') : rListOf K [.ref p] H Q := rd_listT h fun l hl => q l _ (.of hl) (.new hl) upd_same
theorem rd_catA {a b : Addr} {xs ys : List V} (h1 : H a = some (.lst xs)) (h2 : H b = some (.lst ys)) (c : xs.length + ys.length ≤ 1000) (q : ∀ p H', Nw H p → Ext T [] H H' → H' p = some (.lst (xs ++ ys)) → Q (.ref p) H') : rPlus K (.ref a) (.ref b) H Q :=
  rd_cat h1 h2 (Nat.le_trans c (by decide)) fun p hp => q p _ (.of hp) (.new hp) upd_same
theorem rd_sortA {a : Addr} {ds : List PyData} (h : Ls H a ds) (h1 : PySem.W.AllAlike ds) (h2 : PySem.W.Sortable ds) (h3 : ∀ d ∈ ds, d.depth ≤ 60) (q : ∀ p H' ys, Nw H p → Ext T [] H H' → H' p = some (.lst ys) → ImAll H' ys (srtD ds) → Q (.ref p) H') : rSortD K [.ref a] H Q :=
  rd_sortI h h1 h2 h3 fun p ys hp hy => q p _ ys (.of hp) (.new hp) upd_same (hy.new hp)
end
/-! ### a state: its items' tuple is a plain one -/
def StAt (H : Hp) (v : V) (s : Sta) : Prop := ∃ (a ia : Addr) (oa : V) (xs : List V) (o : Obj), v = .ref a ∧ H a = some (.tup [.ref ia, oa]) ∧ H ia = some (.frz o (.tup xs)) ∧ o.dict = none ∧ ImAll H xs (s.its.map rowD2) ∧ Im H oa (.tuple (s.on.map ssD))
theorem StAt.ext {T : List (Addr × Str)} {ms : List Addr} {H H' : Hp} {v : V} {s : Sta} (h : StAt H v s) (e : Ext T ms H H') (hm : Lsts H ms) : StAt H' v s := by
  obtain ⟨a, ia, oa, xs, o, e1, e2, e3, e4, e5, e6⟩ := h
  refine ⟨a, ia, oa, xs, o, e1, SqP.ext (xs := [.ref ia, oa]) e2 e hm, e.keep ia _ (fun hb => ?_) (fun _ z => by cases z) e3, e4, ImAll.ext e hm _ _ e5, Im.ext e hm _ _ e6⟩
  obtain ⟨ys, hy⟩ := hm ia hb
  rw [e3] at hy
  cases hy
theorem StAt.x {T : List (Addr × Str)} {H H' : Hp} {v : V} {s : Sta} (h : StAt H v s) (e : Ext T [] H H') : StAt H' v s := h.ext e Lsts.nil
theorem StAt.y {T : List (Addr × Str)} {H H' : Hp} {l t : Addr} {v : V} {s : Sta} (h : StAt H v s) (e : Ext T [t] H H') (hT : Tape l H t) : StAt H' v s := h.ext e hT.lsts
structure StaOk (R : Rm) (s : Sta) : Prop where
  nm : s.its.map (·.1) = slotsR R
  ok : ∀ r ∈ s.its, ItmOk r.1 r.2
  on : s.on.length ≤ 100
section
variable (T : List (Addr × Str))
def spStart : Sp := fun vs H Q _ => ∃ (l t pa : Addr) (v : V) (R : Rm) (ps : List (Str × List Str)), vs = [.ref t, v, .ref pa] ∧ Tape l H t ∧ Im H v (rmD R) ∧ RmIn R ∧ Pools H t pa ps ∧ PsOk R ps ∧
  ∀ (x : V) (s : Sta) (H' : Hp), StaOk R s → s.on.length ≤ 20 → StAt H' x s → Ext T [t] H H' → Tape l H' t → Q x H'
def spAt : Sp := fun vs H Q _ => ∃ (v u : V) (s : Sta) (sl : Sl) (i : Itm), vs = [v, u] ∧ StAt H v s ∧ Im H u (slD sl) ∧ (sl, i) ∈ s.its ∧ (s.its.map (·.1)).Nodup ∧ s.its.length ≤ 100 ∧ ∀ (x : V) (H' : Hp), Ext T [] H H' → Im H' x (itD i) → Q x H'
def spAfter : Sp := fun vs H Q _ => ∃ (v u : V) (s : Sta) (d : Dd), vs = [v, u] ∧ StAt H v s ∧ Im H u (ddD d) ∧ s.its.length ≤ 100 ∧ s.on.length ≤ 500 ∧ ∀ (x : V) (H' : Hp), Ext T [] H H' → StAt H' x (aft s d) → Q x H'
end
theorem nodup_mapI {α β : Type} {f : α → β} (hf : ∀ a b, f a = f b → a = b) : ∀ {l : List α}, l.Nodup → (l.map f).Nodup
  | [], _ => by simp
  | x :: l, h => by
    rw [List.nodup_cons] at h
    rw [List.map_cons, List.nodup_cons]
    refine ⟨fun hm => ?_, nodup_mapI hf h.2⟩
    obtain ⟨y, hy, e⟩ := List.mem_map.mp hm
    rw [hf _ _ e] at hy
    exact h.1 hy
theorem slots_nodup {R : Rm} (h : RmIn R) : (slotsR R).Nodup := by
  unfold slotsR
  obtain ⟨lag, rest, e, hr⟩ := h.ne
  have hnd := h.nd
  rw [e, List.map_cons, List.nodup_cons] at hnd
  have ht : R.zs.tail = rest := by rw [e]; rfl
  rw [ht, List.nodup_append]
  refine ⟨?_, ?_, ?_⟩
  · rw [List.nodup_cons]
    refine ⟨fun hm => ?_, ?_⟩
    · obtain ⟨y, hy, h2⟩ := List.mem_flatMap.mp hm
      simp only [List.mem_cons, List.not_mem_nil, or_false, Sl.k.injEq, reduceCtorEq] at h2
      exact hr y hy h2.symm
    · have key : ∀ {rest : List (Str × Int)}, (rest.map (·.1)).Nodup → (rest.flatMap fun z => [Sl.k z.1, .l z.1, .h z.1]).Nodup := by
        intro rest
        induction rest with
        | nil => intro _; simp
        | cons z rest ih =>
          intro hn
          rw [List.map_cons, List.nodup_cons] at hn
          rw [List.flatMap_cons, List.nodup_append]
          refine ⟨by simp, ih hn.2, fun a ha b hb e => ?_⟩
          subst e
          obtain ⟨y, hy, h2⟩ := List.mem_flatMap.mp hb
          have : z.1 = y.1 := by
            simp only [List.mem_cons, List.not_mem_nil, or_false] at ha h2
            rcases ha with rfl | rfl | rfl <;> simp at h2 <;> exact h2
          exact hn.1 (by rw [this]; exact List.mem_map_of_mem hy)
      exact key hnd.2
  · exact nodup_mapI (fun a b h => by
      injection h with h1 h2
      exact Prod.ext h1 h2) h.sn
  · intro a ha b hb e
    subst e
    obtain ⟨p, _, rfl⟩ := List.mem_map.mp hb
    rcases List.mem_cons.mp ha with h2 | h2
    · cases h2
    · obtain ⟨y, _, h3⟩ := List.mem_flatMap.mp h2
      simp at h3
open PySem PySem.Spec PyProof.Rows L2
/-- an object made at p: what the new heap keeps -/
theorem alL {T : List (Addr × Str)} {H : Hp} {p : Addr} (h : H p = none) (xs : List V) : Nw H p ∧ Ext T [] H (upd H p (.lst xs)) ∧ (upd H p (.lst xs)) p = some (.lst xs) := ⟨.of h, .new h, upd_same⟩
theorem alT {T : List (Addr × Str)} {H : Hp} {p : Addr} (h : H p = none) (xs : List V) : Nw H p ∧ Ext T [] H (upd H p (.tup xs)) ∧ (upd H p (.tup xs)) p = some (.tup xs) := ⟨.of h, .new h, upd_same⟩

open PySem PySem.Spec PyProof.Rows L2
open PySem.W (EachIs)
/-! ### items of data that pass a test -/
open Classical in
noncomputable def pIm (H : Hp) {α : Type} (f : α → PyData) (c : α → Bool) (x : V) : Bool := decide (∃ a, Im H x (f a) ∧ c a = true)
theorem pIm_eq {H : Hp} {α : Type} {f : α → PyData} {c : α → Bool} {x : V} {a : α} (hf : ∀ a b, f a = f b → a = b) (h : Im H x (f a)) : pIm H f c x = c a := by
  unfold pIm
  cases hc : c a with
  | true => exact @decide_eq_true _ (Classical.propDecidable _) ⟨a, h, hc⟩
  | false =>
    refine @decide_eq_false _ (Classical.propDecidable _) fun ⟨b, h1, h2⟩ => ?_
    have := hf _ _ (Im.inj _ _ _ h h1)
    rw [← this, hc] at h2
    cases h2
theorem each_filter {H : Hp} {α : Type} {f : α → PyData} {c : α → Bool} (hf : ∀ a b, f a = f b → a = b) : ∀ {xs : List V} {as : List α}, ImAll H xs (as.map f) → EachIs (fun x a => Im H x (f a)) (xs.filter (pIm H f c)) (as.filter c)
  | xs, [], h => by
    cases h
    exact .nil
  | xs, a :: as, h => by
    cases h with
    | cons h1 h2 =>
      have e := pIm_eq (c := c) hf h1
      cases hc : c a with
      | true =>
        rw [List.filter_cons_of_pos (by rw [e, hc]), List.filter_cons_of_pos hc]
        exact .cons h1 (each_filter hf h2)
      | false =>
        rw [List.filter_cons_of_neg (by rw [e, hc]; decide), List.filter_cons_of_neg (by rw [hc]; decide)]
        exact each_filter hf h2
theorem each_comp {α β γ : Type} {R : α → β → Prop} {S : β → γ → Prop} : ∀ {as : List α} {bs : List β} {cs : List γ}, EachIs R as bs → EachIs S bs cs → EachIs (fun a c => ∃ b, R a b ∧ S b c) as cs
  | _, _, _, .nil, .nil => .nil
  | _, _, _, .cons a s, .cons b t => .cons ⟨_, a, b⟩ (each_comp s t)
theorem rowD2_inj {a b : Sl × Itm} (h : rowD2 a = rowD2 b) : a = b := by
  unfold rowD2 at h
  injection h with h
  injection h with h1 h
  injection h with h2 _
  exact Prod.ext (slD_inj h1) (itD_inj h2)
theorem filter_fst {its : List (Sl × Itm)} {sl : Sl} {i : Itm} (hn : (its.map (·.1)).Nodup) (hm : (sl, i) ∈ its) : its.filter (fun r => decide (r.1 = sl)) = [(sl, i)] := by
  induction its with
  | nil => cases hm
  | cons p ps ih =>
    rw [List.map_cons, List.nodup_cons] at hn
    rcases List.mem_cons.mp hm with e | hm
    · subst e
      rw [List.filter_cons_of_pos (by simp), List.filter_eq_nil_iff.mpr]
      intro y hy h
      have h2 : y.1 = sl := of_decide_eq_true h
      exact hn.1 (List.mem_map.mpr ⟨y, hy, h2⟩)
    · rw [List.filter_cons_of_neg, ih hn.2 hm]
      intro h
      have h2 : p.1 = sl := of_decide_eq_true h
      exact hn.1 (List.mem_map.mpr ⟨_, hm, h2.symm⟩)
theorem SqF {K : PySem.W.Frag} {H : Hp} {a : Addr} {o : Obj} {xs : List V} (h : H a = some (.frz o (.tup xs))) : SqT K H a xs := .inl (.inr ⟨o, h⟩)
theorem frz.x {T : List (Addr × Str)} {H H' : Hp} {a : Addr} {o : Obj} {u : HO} (h : H a = some (.frz o u)) (e : Ext T [] H H') : H' a = some (.frz o u) := e.keep a _ (by simp) (fun _ z => by cases z) h

open PySem PySem.Spec PyProof.Rows L2
open PySem.W (EachIs)
/-! ### deeds drawn -/
def DdOk (R : Rm) : Dd → Prop
  | .put s i => s ∈ slotsR R ∧ ItmOk s i
  | .on x z => idB x = true ∧ z ∈ R.zs.tail.map (·.1)
  | .off x z => idB x = true ∧ z ∈ R.zs.tail.map (·.1)
theorem aft_on (s : Sta) (d : Dd) : (aft s d).on.length ≤ s.on.length + 1 := by
  cases d with
  | put sl i => exact Nat.le_succ _
  | on x z =>
    show (srtSS _).length ≤ _
    rw [(srtSS_perm _).length_eq, List.length_append]
    exact Nat.le_refl _
  | off x z => exact Nat.le_succ_of_le (List.length_filter_le _ _)
theorem aft_ok {R : Rm} {s : Sta} {d : Dd} (h : StaOk R s) (hd : DdOk R d) (hl : s.on.length + 1 ≤ 100) : StaOk R (aft s d) := by
  refine ⟨(aft_keys s d).trans h.nm, ?_, Nat.le_trans (aft_on s d) hl⟩
  cases d with
  | put sl i =>
    intro r hr
    obtain ⟨y, hy, e⟩ := List.mem_map.mp (show r ∈ s.its.map (fun r => (r.1, if r.1 = sl then i else r.2)) from hr)
    rw [← e]
    by_cases h2 : y.1 = sl
    · show ItmOk y.1 (if y.1 = sl then i else y.2)
      rw [if_pos h2, h2]
      exact hd.2
    · show ItmOk y.1 (if y.1 = sl then i else y.2)
      rw [if_neg h2]
      exact h.ok y hy
  | on x z => exact h.ok
  | off x z => exact h.ok
theorem sta_len {R : Rm} {s : Sta} (hR : RmIn R) (h : StaOk R s) (hl : (slotsR R).length ≤ 30) : s.its.length ≤ 100 := by
  have := congrArg List.length h.nm
  rw [List.length_map] at this
  omega
theorem sta_nodup {R : Rm} {s : Sta} (hR : RmIn R) (h : StaOk R s) : (s.its.map (·.1)).Nodup := by
  rw [h.nm]
  exact slots_nodup hR
theorem sta_find {R : Rm} {s : Sta} {sl : Sl} (h : StaOk R s) (hs : sl ∈ slotsR R) : ∃ i, (sl, i) ∈ s.its := by
  rw [← h.nm] at hs
  obtain ⟨r, hr, e⟩ := List.mem_map.mp hs
  exact ⟨r.2, by rw [← e]; exact hr⟩
section
variable (T : List (Addr × Str))
def spServer : Sp := fun vs H Q _ => ∃ (l t : Addr) (v u : V) (R : Rm) (s : Sta), vs = [.ref t, v, u] ∧ Tape l H t ∧ Im H v (rmD R) ∧ RmIn R ∧ 1 < R.zs.length ∧ StAt H u s ∧ s.on.length ≤ 100 ∧
  ∀ (x : V) (d : Dd) (H' : Hp), DdOk R d → Im H' x (ddD d) → Ext T [t] H H' → Tape l H' t → Q x H'
def spMixed : Sp := fun vs H Q _ => ∃ (l t pa : Addr) (v u x : V) (R : Rm) (ps : List (Str × List Str)) (s : Sl) (i : Itm), vs = [.ref t, v, .ref pa, u, x] ∧ Tape l H t ∧ Im H v (rmD R) ∧ RmIn R ∧ Pools H t pa ps ∧ PsOk R ps ∧ Im H u (slD s) ∧ s ∈ slotsR R ∧ (∀ z, s ≠ .h z) ∧ Im H x (itD i) ∧ ItmOk s i ∧
  ∀ (y : V) (j : Itm) (H' : Hp), ItmOk s j → Im H' y (itD j) → Ext T [t] H H' → Tape l H' t → Q y H'
def spDeed : Sp := fun vs H Q _ => ∃ (l t pa : Addr) (v u : V) (R : Rm) (ps : List (Str × List Str)) (s : Sta), vs = [.ref t, v, .ref pa, u] ∧ Tape l H t ∧ Im H v (rmD R) ∧ RmIn R ∧ Pools H t pa ps ∧ PsOk R ps ∧ StAt H u s ∧ StaOk R s ∧
  ∀ (x : V) (d : Dd) (H' : Hp), DdOk R d → Im H' x (ddD d) → Ext T [t] H H' → Tape l H' t → Q x H'
def spDeeds : Sp := fun vs H Q _ => ∃ (l t pa : Addr) (v u : V) (R : Rm) (ps : List (Str × List Str)) (s : Sta) (m : Int), vs = [.ref t, v, .ref pa, u, .int m] ∧ Tape l H t ∧ Im H v (rmD R) ∧ RmIn R ∧ Pools H t pa ps ∧ PsOk R ps ∧ StAt H u s ∧ StaOk R s ∧ s.on.length ≤ 50 ∧ 0 ≤ m ∧ m ≤ 20 ∧
  ∀ (x : V) (ds : List Dd) (H' : Hp), (∀ d ∈ ds, DdOk R d) → (ds.length : Int) = m → Im H' x (.tuple (ds.map ddD)) → Ext T [t] H H' → Tape l H' t → Q x H'
end
def s4L : List Str := ["s1", "s2", "s3", "t9"]
theorem s4_ok : ∀ y ∈ s4L, idB y = true := by decide +kernel
def hostL : List (List Str) := [["s1"], ["s2"], ["s1", "s3"], ["s3"], ["s2", "t9"]]
theorem host_ok : ∀ c ∈ hostL, c.Nodup ∧ (∀ y ∈ c, idB y = true) ∧ c.length ≤ 4 := by decide +kernel
theorem zin {R : Rm} (h : RmIn R) {z : Str} (hz : z ∈ R.zs.tail.map (·.1)) : nameB z = true ∧ Sl.h z ∈ slotsR R := by
  obtain ⟨y, hy, rfl⟩ := List.mem_map.mp hz
  refine ⟨h.nm y (List.mem_of_mem_tail hy), ?_⟩
  unfold slotsR
  refine List.mem_append_left _ (List.mem_cons_of_mem _ (List.mem_flatMap.mpr ⟨y, hy, by simp⟩))

open PySem PySem.Spec PyProof.Rows L2
open PySem.W (EachIs)
/-! ### lists of ids -/
structure CL (H : Hp) (t a : Addr) (n : Nat) (cs : List Str) : Prop where
  at_ : H a = some (.lst (cs.map V.str))
  ne : a ≠ t
  nd : cs.Nodup
  ok : ∀ y ∈ cs, idB y = true
  len : cs.length ≤ n
section
variable {T : List (Addr × Str)} {K : PySem.W.Frag} {H H' : Hp} {Q : VK} {l t a : Addr} {n : Nat} {cs : List Str}
theorem CL.x (h : CL H t a n cs) (e : Ext T [] H H') : CL H' t a n cs := ⟨lst.x h.at_ e, h.ne, h.nd, h.ok, h.len⟩
theorem CL.y (h : CL H t a n cs) (e : Ext T [t] H H') : CL H' t a n cs := ⟨lst.y h.at_ e h.ne, h.ne, h.nd, h.ok, h.len⟩
theorem CL.sub {ds : List Str} (h : CL H t a n cs) (hs : ds.Sublist cs) (p : Addr) (hp : H' p = some (.lst (ds.map V.str))) (hn : p ≠ t) : CL H' t p n ds := ⟨hp, hn, h.nd.sublist hs, fun y hy => h.ok y (hs.subset hy), Nat.le_trans hs.length_le h.len⟩
theorem CL.wide {m : Nat} (h : CL H t a n cs) (hm : n ≤ m) : CL H t a m cs := ⟨h.at_, h.ne, h.nd, h.ok, Nat.le_trans h.len hm⟩
theorem cutV_mid (xs : List V) {i j : Int} (h0 : 0 ≤ i) (h1 : 0 ≤ j) : cutV xs (some i) (some j) = (xs.take j.toNat).drop i.toNat := by
  unfold cutV
  have e0 : HT.sIx xs.length 0 (some i) = min i.toNat xs.length := by
    obtain ⟨k, rfl⟩ := Int.eq_ofNat_of_zero_le h0
    exact HT.sIx_nat xs.length 0 k
  have e1 : HT.sIx xs.length xs.length (some j) = min j.toNat xs.length := by
    obtain ⟨k, rfl⟩ := Int.eq_ofNat_of_zero_le h1
    exact HT.sIx_nat xs.length xs.length k
  rw [e0, e1]
  generalize i.toNat = a
  generalize j.toNat = b
  rw [List.drop_take]
  by_cases ha : a ≤ xs.length
  · rw [Nat.min_eq_left ha]
    by_cases hb : b ≤ xs.length
    · rw [Nat.min_eq_left hb]
    · rw [Nat.min_eq_right (by omega), List.take_of_length_le (by rw [List.length_drop]; omega), List.take_of_length_le (by rw [List.length_drop]; omega)]
  · have e3 : min a xs.length = xs.length := by omega
    rw [e3, List.drop_length, List.drop_eq_nil_of_le (by omega), List.take_nil, List.take_nil]
theorem CL.take {i : Int} (h : CL H t a n cs) (hT : Tape l H t) (h0 : 0 ≤ i) (q : ∀ p H', Nw H p → Ext T [] H H' → CL H' t p n (cs.take i.toNat) → Q (.ref p) H') : rSlU K (.ref a) none (some i) H Q :=
  rd_takeS T h.at_ h0 fun p H' np e hp => q p H' np e (h.sub (List.take_sublist _ _) p hp (hT.ne np).1)
theorem CL.mid {i j : Int} (h : CL H t a n cs) (hT : Tape l H t) (h0 : 0 ≤ i) (h1 : 0 ≤ j) (q : ∀ p H', Nw H p → Ext T [] H H' → CL H' t p n ((cs.take j.toNat).drop i.toNat) → Q (.ref p) H') : rSlU K (.ref a) (some i) (some j) H Q :=
  rd_slL (SqL.of h.at_) fun p hp => q p _ (.of hp) (.new hp) (h.sub ((List.drop_sublist _ _).trans (List.take_sublist _ _)) p (by rw [cutV_mid _ h0 h1, ← List.map_take, ← List.map_drop]; exact upd_same) (hT.ne (.of hp)).1)
end
theorem srt_nd {cs : List Str} (h : cs.Nodup) : (srtS cs).Nodup := (srtS_perm cs).nodup_iff.mpr h
theorem itm_c {s : Sl} {i : Itm} (h : ItmOk s i) : i.c.Nodup ∧ (∀ y ∈ i.c, idB y = true) ∧ i.c.length ≤ 4 := by
  obtain ⟨cs, e, h1, h2, h3⟩ := h.c
  rw [e]
  exact ⟨srt_nd h1, fun y hy => h2 y ((srtS_perm cs).mem_iff.mp hy), by rw [(srtS_perm cs).length_eq]; exact h3⟩
theorem itm_g {s : Sl} {i : Itm} (h : ItmOk s i) : i.g.Nodup ∧ (∀ y ∈ i.g, idB y = true) ∧ i.g.length ≤ 3 := by
  obtain ⟨cs, e, h1, h2, h3⟩ := h.g
  rw [e]
  exact ⟨srt_nd h1, fun y hy => h2 y ((srtS_perm cs).mem_iff.mp hy), by rw [(srtS_perm cs).length_eq]; exact h3⟩
/-- the word and the name of a slot -/
theorem sl_word (s : Sl) : ∃ (kw z : Str) (r : List PyData), slD s = .tuple (.str kw :: .str z :: r) ∧ ((kw = Str.ofString "link") ↔ ∃ z, s = .l z) ∧ ((kw = Str.ofString "set") ↔ ∃ n k, s = .s n k) ∧ (∀ y, s = .l y → z = y) := by
  cases s with
  | k z => exact ⟨"keys", z, [], rfl, no_iff (by decide +kernel) (fun ⟨_, h⟩ => by cases h), no_iff (by decide +kernel) (fun ⟨_, _, h⟩ => by cases h), fun y h => by cases h⟩
  | l z => exact ⟨"link", z, [], rfl, ⟨fun _ => ⟨z, rfl⟩, fun _ => rfl⟩, no_iff (by decide +kernel) (fun ⟨_, _, h⟩ => by cases h), fun y h => by injection h⟩
  | h z => exact ⟨"hosts", z, [], rfl, no_iff (by decide +kernel) (fun ⟨_, h⟩ => by cases h), no_iff (by decide +kernel) (fun ⟨_, _, h⟩ => by cases h), fun y h => by cases h⟩
  | s n k => exact ⟨"set", n, [.str k], rfl, no_iff (by decide +kernel) (fun ⟨_, h⟩ => by cases h), ⟨fun _ => ⟨n, k, rfl⟩, fun _ => rfl⟩, fun y h => by cases h⟩
open PySem PySem.Spec PyProof.Rows L2
theorem pick_cl {H : Hp} {t : Addr} {n : Nat} {as : List Addr} (h : ∀ a ∈ as, ∃ gs, CL H t a n gs) {i : Int} (h0 : 0 ≤ i) (h1 : i < as.length) : ∃ a gs, atI (as.map V.ref) i = some (.ref a) ∧ CL H t a n gs := by
  obtain ⟨c, hc1, hc2, hc3⟩ := at_in (l := as.map V.ref) h0 (by rw [List.length_map]; exact h1)
  obtain ⟨a, ha, rfl⟩ := List.mem_map.mp hc3
  obtain ⟨gs, hg⟩ := h a ha
  exact ⟨a, gs, hc1, hg⟩

open PySem PySem.Spec PyProof.Rows L2
open PySem.W (EachIs)
/-! ### what a new heap keeps, on demand -/
theorem al_of {T : List (Addr × Str)} {H G : Hp} {p : Addr} {o : HO} (np : H p = none) (hG : upd H p o = G) : Nw H p ∧ Ext T [] H G ∧ G p = some o := by
  subst hG
  exact ⟨.of np, .new np, upd_same⟩
section
variable {T : List (Addr × Str)} {H H' H1 : Hp}
theorem SqP.y {l t a : Addr} {xs : List V} (h : SqP H a xs) (e : Ext T [t] H H') (hT : Tape l H t) : SqP H' a xs := SqP.ext h e hT.lsts
theorem tup.x {a : Addr} {xs : List V} (h : H a = some (.tup xs)) (e : Ext T [] H H') : H' a = some (.tup xs) := e.tup (by simp) h
theorem tup.y {l t a : Addr} {xs : List V} (h : H a = some (.tup xs)) (e : Ext T [t] H H') (hT : Tape l H t) : H' a = some (.tup xs) := SqP.ext h e hT.lsts
theorem frz.y {l t a : Addr} {o : Obj} {u : HO} (h : H a = some (.frz o u)) (e : Ext T [t] H H') (hT : Tape l H t) : H' a = some (.frz o u) := e.keep a _ (fun hb => by
  obtain ⟨ys, hy⟩ := hT.lsts a hb
  rw [h] at hy
  cases hy) (fun _ z => by cases z) h
theorem Tape.ne1 {l t q : Addr} (p : Tape l H t) (h : Nw H q) : q ≠ t := (p.ne h).1
theorem Ext.back1 {p t : Addr} (e : Ext T [t] H H1) (hp : p ≠ t) (f : Nw H1 p) : Nw H p := e.back (by simpa using hp) f
theorem Ext.back0 {p : Addr} (e : Ext T [] H H1) (f : Nw H1 p) : Nw H p := e.back (by simp) f
end
theorem Ok.alias {P : Program} {w : World} {K : PySem.W.Frag} {mg : Str → Option Value} {base : Heap} {k : Nat} {x y : Str} {ps : List Str} {sp : Sp} (h : Ok P w K mg base k x ps sp) (e : mg y = mg x) : Ok P w K mg base k y ps sp := by
  obtain ⟨f, fd, F, h1, h2⟩ := h
  exact ⟨f, fd, F, e.trans h1, h2⟩
section
variable (T : List (Addr × Str))
def spBent : Sp := fun vs H Q _ => ∃ (l t pa : Addr) (v u : V) (R : Rm) (ps : List (Str × List Str)) (s : Sta), vs = [.ref t, v, .ref pa, u] ∧ Tape l H t ∧ Im H v (rmD R) ∧ RmIn R ∧ Pools H t pa ps ∧ PsOk R ps ∧ StAt H u s ∧ StaOk R s ∧ s.on.length ≤ 50 ∧
  ∀ (x : V) (s' : Sta) (H' : Hp), StaOk R s' → s'.on = s.on → StAt H' x s' → Ext T [t] H H' → Tape l H' t → Q x H'
end
def bentL : List (List Str) := [[], ["s3"], ["s1", "t9"]]
theorem bent_ok : ∀ c ∈ bentL, c.Nodup ∧ (∀ y ∈ c, idB y = true) ∧ c.length ≤ 4 := by decide +kernel

open PySem PySem.Spec PyProof.Rows L2
open PySem.W (EachIs sort_maps dataLe AllAlike Sortable)
/-! ### rows of deeds drawn -/
theorem mapSet {α β : Type} {f : α → β} (l : List α) (k : Nat) (v : α) : (l.map f).set k (f v) = (l.set k v).map f := by rw [List.map_set]

theorem zn_key {H : Hp} : ∀ {us ys : List V} {rs : List (Str × Int)}, ImAll H ys (rs.map siD) → EachIs (fun v x => ∃ r, Im H x (siD r) ∧ v = .str r.1) us ys → us = (rs.map (·.1)).map V.str := by
  intro us ys rs
  induction rs generalizing us ys with
  | nil =>
    intro h1 h2
    cases h1
    cases h2
    rfl
  | cons r rs ih =>
    intro h1 h2
    cases h1 with
    | cons a b =>
      cases h2 with
      | cons c d =>
        obtain ⟨r', c1, c2⟩ := c
        have e := Im.inj _ _ _ a c1
        injection e with e
        injection e with e _
        injection e with e
        rw [ih b d, c2, List.map_cons, List.map_cons, e]
theorem alike_sl (l : List Sl) : AllAlike (l.map slD) := fun d hd e he => by
  obtain ⟨y, _, rfl⟩ := List.mem_map.mp hd
  obtain ⟨z, _, rfl⟩ := List.mem_map.mp he
  cases y <;> cases z <;> rfl
theorem sortable_sl (l : List Sl) : Sortable (l.map slD) := .inl fun d hd => by
  obtain ⟨y, _, rfl⟩ := List.mem_map.mp hd
  cases y <;> exact ⟨_, _, rfl⟩
theorem depth_sl (l : List Sl) : ∀ d ∈ l.map slD, d.depth ≤ 60 := fun d hd => by
  obtain ⟨y, _, rfl⟩ := List.mem_map.mp hd
  exact Nat.le_trans (dep_sl y) (by decide)
def srtSl (l : List Sl) : List Sl := l.mergeSort fun a b => dataLe false id (slD a) (slD b)
theorem srtSl_eq (l : List Sl) : srtD (l.map slD) = (srtSl l).map slD := (sort_maps slD fun _ _ _ _ => rfl).symm
theorem srtSl_perm (l : List Sl) : (srtSl l).Perm l := List.mergeSort_perm _ _
theorem srtS_one (z : Str) : srtS [z] = [z] := List.mergeSort_singleton _
/-- a deed out of a list of deeds -/
theorem imall_erase {H : Hp} : ∀ {xs : List V} {ds : List PyData} (k : Nat), ImAll H xs ds → ImAll H (xs.eraseIdx k) (ds.eraseIdx k)
  | _, _, _, .nil => by simp only [List.eraseIdx_nil]; exact .nil
  | _, _, 0, .cons _ t => t
  | _, _, k + 1, .cons h t => .cons h (imall_erase k t)
theorem imall_set {H : Hp} : ∀ {xs : List V} {ds : List PyData} (k : Nat) {v : V} {d : PyData}, ImAll H xs ds → Im H v d → ImAll H (xs.set k v) (ds.set k d)
  | _, _, _, _, _, .nil, _ => .nil
  | _, _, 0, _, _, .cons _ t, h => .cons h t
  | _, _, k + 1, _, _, .cons a t, h => .cons a (imall_set k t h)
section
variable {K : PySem.W.Frag} {H : Hp} {Q : VK}
theorem rd_popLs {p : Addr} {ds : List PyData} {i : Int} (h : Ls H p ds) (h0 : 0 ≤ i) (h1 : i < ds.length) (hl : ds.length ≤ 1000) (q : ∀ y xs, H p = some (.lst xs) → Ls (upd H p (.lst (xs.eraseIdx i.toNat))) p (ds.eraseIdx i.toNat) → Q y (upd H p (.lst (xs.eraseIdx i.toNat)))) : rPopAt (.ref p) [.int i] H Q := by
  obtain ⟨xs, e, hx⟩ := h
  have hk : i.toNat < xs.length := by rw [hx.len]; omega
  have hi : seqIndex? i xs.length = some i.toNat := by
    have h2 : ixN xs.length i = some i.toNat := by
      unfold ixN
      rw [if_pos h0, if_pos (by omega)]
    exact (ixN_seq h2).1
  refine ⟨p, xs, i, i.toNat, xs[i.toNat], rfl, rfl, e, Int.le_trans (by decide) h0, Int.lt_of_lt_of_le h1 (by omega), hi, List.getElem?_eq_getElem hk, q _ xs e ⟨_, upd_same, ?_⟩⟩
  have eL : Ext [] [p] H (upd H p (.lst (xs.eraseIdx i.toNat))) := Ext.mut (by simp) e
  exact ImAll.ext eL (lsts_one e) _ _ (imall_erase _ hx)
end
theorem mem_erase {α : Type} {l : List α} {k : Nat} {x : α} (h : x ∈ l.eraseIdx k) : x ∈ l := List.mem_of_mem_eraseIdx h
/-- an item whose content may be of six ids: a move adds a server -/
structure ItmW (s : Sl) (i : Itm) : Prop where
  c : ∃ cs : List Str, i.c = srtS cs ∧ cs.Nodup ∧ (∀ y ∈ cs, idB y = true) ∧ cs.length ≤ 6
  g : ∃ gs : List Str, i.g = srtS gs ∧ gs.Nodup ∧ (∀ y ∈ gs, idB y = true) ∧ gs.length ≤ 3
  li : 1 ≤ i.li ∧ i.li ≤ 1000
  ab : 0 ≤ i.a ∧ i.a ≤ i.b ∧ i.b ≤ 10000
  h : ∀ z, s = .h z → i.g = [] ∧ i.a = 0 ∧ i.b = 10000
theorem ItmOk.w {s : Sl} {i : Itm} (h : ItmOk s i) : ItmW s i := by
  obtain ⟨cs, h1, h2, h3, h4⟩ := h.c
  exact ⟨⟨cs, h1, h2, h3, by omega⟩, h.g, h.li, h.ab, h.h⟩
def DdW (R : Rm) : Dd → Prop
  | .put s i => s ∈ slotsR R ∧ ItmW s i
  | .on x z => idB x = true ∧ z ∈ R.zs.tail.map (·.1)
  | .off x z => idB x = true ∧ z ∈ R.zs.tail.map (·.1)
theorem DdOk.w {R : Rm} {d : Dd} (h : DdOk R d) : DdW R d := by
  cases d with
  | put s i => exact ⟨h.1, h.2.w⟩
  | on x z => exact h
  | off x z => exact h
section
variable (T : List (Addr × Str))
def spRow : Sp := fun vs H Q _ => ∃ (l t pa : Addr) (v u : V) (R : Rm) (ps : List (Str × List Str)) (s : Sta), vs = [.ref t, v, .ref pa, u] ∧ Tape l H t ∧ Im H v (rmD R) ∧ RmIn R ∧ Pools H t pa ps ∧ PsOk R ps ∧ StAt H u s ∧ StaOk R s ∧ s.on.length ≤ 50 ∧
  ∀ (x : V) (ds : List Dd) (H' : Hp), (∀ d ∈ ds, DdW R d) → ds.length ≤ 12 → Im H' x (.tuple (ds.map ddD)) → Ext T [t] H H' → Tape l H' t → Q x H'
def spMove : Sp := fun vs H Q _ => ∃ (l t : Addr) (v u : V) (R : Rm) (s : Sta), vs = [.ref t, v, u] ∧ Tape l H t ∧ Im H v (rmD R) ∧ RmIn R ∧ 1 < R.zs.length ∧ StAt H u s ∧ StaOk R s ∧ s.on.length ≤ 50 ∧
  ∀ (x : V) (ds : List Dd) (H' : Hp), (∀ d ∈ ds, DdW R d) → ds.length ≤ 12 → Im H' x (.tuple (ds.map ddD)) → Ext T [t] H H' → Tape l H' t → Q x H'
end
theorem tail_mem {R : Rm} (h : RmIn R) {z : Str} (hz : z ∈ R.zs.map (·.1)) : z = dotS ∨ z ∈ R.zs.tail.map (·.1) := by
  obtain ⟨lag, rest, e, _⟩ := h.ne
  rw [e] at hz ⊢
  rcases List.mem_cons.mp hz with h | h
  · exact .inl h
  · exact .inr h
theorem kl_mem {R : Rm} {z : Str} (hz : z ∈ R.zs.tail.map (·.1)) : Sl.k z ∈ slotsR R ∧ Sl.l z ∈ slotsR R := by
  obtain ⟨y, hy, rfl⟩ := List.mem_map.mp hz
  unfold slotsR
  exact ⟨List.mem_append_left _ (List.mem_cons_of_mem _ (List.mem_flatMap.mpr ⟨y, hy, by simp⟩)), List.mem_append_left _ (List.mem_cons_of_mem _ (List.mem_flatMap.mpr ⟨y, hy, by simp⟩))⟩
theorem k_mem {R : Rm} (h : RmIn R) {z : Str} (hz : z ∈ R.zs.map (·.1)) : Sl.k z ∈ slotsR R := by
  rcases tail_mem h hz with e | hz
  · rw [e]
    unfold slotsR
    exact List.mem_append_left _ List.mem_cons_self
  · exact (kl_mem hz).1
def slw (s : Sl) : Bool := match s with
  | .k _ => false
  | .l _ => true
  | .h _ => false
  | .s _ _ => true
theorem slw_eq (s : Sl) : ∃ (kw z : Str) (r : List PyData), slD s = .tuple (.str kw :: .str z :: r) ∧ (kw ∈ [Str.ofString "set", Str.ofString "link"] ↔ slw s = true) := by
  cases s with
  | k z => exact ⟨"keys", z, [], rfl, ⟨fun h => absurd h (by decide +kernel), fun h => by cases h⟩⟩
  | l z => exact ⟨"link", z, [], rfl, ⟨fun _ => rfl, fun _ => by decide +kernel⟩⟩
  | h z => exact ⟨"hosts", z, [], rfl, ⟨fun h => absurd h (by decide +kernel), fun h => by cases h⟩⟩
  | s n k => exact ⟨"set", n, [.str k], rfl, ⟨fun _ => rfl, fun _ => by decide +kernel⟩⟩
theorem im_filter {H : Hp} {α : Type} {f : α → PyData} {c : α → Bool} (hf : ∀ a b, f a = f b → a = b) {xs us : List V} {as : List α} (hx : ImAll H xs (as.map f)) (hu : EachIs (fun v x => v = x) us (xs.filter (pIm H f c))) : ImAll H us ((as.filter c).map f) := by
  have h1 : us = xs.filter (pIm H f c) := by
    have key : ∀ {us vs : List V}, EachIs (fun v x => v = x) us vs → us = vs := by
      intro us vs h
      induction h with
      | nil => rfl
      | cons a b ih => rw [a, ih]
    exact key hu
  rw [h1]
  have key : ∀ {xs : List V} {as : List α}, EachIs (fun x a => Im H x (f a)) xs as → ImAll H xs (as.map f) := by
    intro xs as h
    induction h with
    | nil => exact .nil
    | cons a b ih => exact .cons a ih
  exact key (each_filter (c := c) hf hx)
/-! ### a list of one's own that grows -/
section
variable {T : List (Addr × Str)} {H H' : Hp}
theorem Im.z {p : Addr} {v : V} {d : PyData} (h : Im H v d) (e : Ext T [p] H H') (hm : Lsts H [p]) : Im H' v d := Im.ext e hm _ _ h
theorem ImAll.z {p : Addr} {vs : List V} {ds : List PyData} (h : ImAll H vs ds) (e : Ext T [p] H H') (hm : Lsts H [p]) : ImAll H' vs ds := ImAll.ext e hm _ _ h
theorem StAt.z {p : Addr} {v : V} {s : Sta} (h : StAt H v s) (e : Ext T [p] H H') (hm : Lsts H [p]) : StAt H' v s := h.ext e hm
theorem SqP.z {p a : Addr} {xs : List V} (h : SqP H a xs) (e : Ext T [p] H H') (hm : Lsts H [p]) : SqP H' a xs := SqP.ext h e hm
theorem tup.z {p a : Addr} {xs : List V} (h : H a = some (.tup xs)) (e : Ext T [p] H H') (hm : Lsts H [p]) : H' a = some (.tup xs) := SqP.ext h e hm
theorem Ls.z {p a : Addr} {ds : List PyData} (h : Ls H a ds) (e : Ext T [p] H H') (hm : Lsts H [p]) (ha : a ≠ p) : Ls H' a ds := h.ext e (by simpa using ha) hm
theorem lst.z {p a : Addr} {xs : List V} (h : H a = some (.lst xs)) (e : Ext T [p] H H') (ha : a ≠ p) : H' a = some (.lst xs) := e.lst (by simpa using ha) h
theorem CL.z {p a t : Addr} {n : Nat} {cs : List Str} (h : CL H t a n cs) (e : Ext T [p] H H') (ha : a ≠ p) : CL H' t a n cs := ⟨lst.z h.at_ e ha, h.ne, h.nd, h.ok, h.len⟩
end
section
variable {T : List (Addr × Str)} {K : PySem.W.Frag} {Hb H : Hp} {Q : VK} {l t dp : Addr} {ds : List PyData}
theorem push_step {v : V} {d : PyData} (hb : Ext T [t] Hb H) (hn : Nw Hb dp) (hTb : Tape l Hb t) (hT : Tape l H t) (hds : Ls H dp ds) (hv : Im H v d) (hl : ds.length < 1000)
    (q : ∀ H', Ext T [t] Hb H' → Tape l H' t → Ext T [dp] H H' → Lsts H [dp] → Ls H' dp (ds ++ [d]) → Q .non H') : rAppend (.ref dp) [v] H Q :=
  rd_appLs hds hv (Nat.lt_of_lt_of_le hl (by decide)) fun ys hy h => q _ (hb.own hn hy) (hT.own (hTb.ne hn).1 (hTb.ne hn).2) (Ext.mut (by simp) hy) (lsts_one hy) h
theorem pop_step {i : Int} (hb : Ext T [t] Hb H) (hn : Nw Hb dp) (hTb : Tape l Hb t) (hT : Tape l H t) (hds : Ls H dp ds) (h0 : 0 ≤ i) (h1 : i < ds.length) (hl : ds.length ≤ 1000)
    (q : ∀ y H', Ext T [t] Hb H' → Tape l H' t → Ext T [dp] H H' → Lsts H [dp] → Ls H' dp (ds.eraseIdx i.toNat) → Q y H') : rPopAt (.ref dp) [.int i] H Q :=
  rd_popLs hds h0 h1 hl fun y xs e h => q y _ (hb.own hn e) (hT.own (hTb.ne hn).1 (hTb.ne hn).2) (Ext.mut (by simp) e) (lsts_one e) h
theorem set_step {i : Int} {v : V} {d : PyData} {Q : Hp → Prop} (hb : Ext T [t] Hb H) (hn : Nw Hb dp) (hTb : Tape l Hb t) (hT : Tape l H t) (hds : Ls H dp ds) (hv : Im H v d) (h0 : 0 ≤ i) (h1 : i < ds.length)
    (q : ∀ H', Ext T [t] Hb H' → Tape l H' t → Ext T [dp] H H' → Lsts H [dp] → Ls H' dp (ds.set i.toNat d) → Q H') : rSetL (.ref dp) (.int i) v H Q := by
  obtain ⟨xs, e, hx⟩ := hds
  refine rd_set (j := i.toNat) e (by unfold ixN; rw [if_pos h0, if_pos (by rw [hx.len]; exact h1)]) ?_
  have eL : Ext T [dp] H (upd H dp (.lst (xs.set i.toNat v))) := Ext.mut (by simp) e
  exact q _ (hb.own hn e) (hT.own (hTb.ne hn).1 (hTb.ne hn).2) eL (lsts_one e) ⟨_, upd_same, imall_set _ (ImAll.ext eL (lsts_one e) _ _ hx) (Im.ext eL (lsts_one e) _ _ hv)⟩
end

open PySem PySem.Spec PyProof.Rows L2
/-! ### rows of moments: the least moments, and what a round of raising does -/
abbrev Rw := Nat × Nat × Int
def rwD (r : Rw) : PyData := .tuple [.int (r.1 : Int), .int (r.2.1 : Int), .int r.2.2]
def RwIn (n : Nat) (rs : List Rw) : Prop := ∀ r ∈ rs, r.1 ≤ n ∧ r.2.1 ≤ n
def fn (m : List Int) (k : Nat) : Int := m.getD k 0
structure Feas (rs : List Rw) (m : Nat → Int) : Prop where
  zero : m 0 = 0
  nn : ∀ k, 0 ≤ m k
  rows : ∀ r ∈ rs, m r.2.1 + r.2.2 ≤ m r.1
def Least (rs : List Rw) (n : Nat) (t : List Int) : Prop := t.length = n ∧ Feas rs (fn (0 :: t)) ∧ ∀ m, Feas rs m → ∀ k, fn (0 :: t) k ≤ m k
def LM (rs : List Rw) (n : Nat) : Option (List Int) → Prop
  | some t => Least rs n t
  | none => ∀ m, ¬ Feas rs m
theorem fn_ext {a b : List Int} (hl : a.length = b.length) (h : ∀ k, fn a k = fn b k) : a = b := by
  refine List.ext_getElem? fun k => ?_
  by_cases hk : k < a.length
  · have h1 := h k
    unfold fn at h1
    rw [List.getD_eq_getElem?_getD, List.getD_eq_getElem?_getD, List.getElem?_eq_getElem hk, List.getElem?_eq_getElem (hl ▸ hk)] at h1
    rw [List.getElem?_eq_getElem hk, List.getElem?_eq_getElem (hl ▸ hk)]
    exact congrArg some h1
  · rw [List.getElem?_eq_none (by omega), List.getElem?_eq_none (by omega)]
theorem LM.uniq {rs : List Rw} {n : Nat} {a b : Option (List Int)} (ha : LM rs n a) (hb : LM rs n b) : a = b := by
  cases a with
  | none =>
    cases b with
    | none => rfl
    | some t => exact absurd hb.2.1 (ha _)
  | some s =>
    cases b with
    | none => exact absurd ha.2.1 (hb _)
    | some t =>
      have e : (0 :: s) = (0 :: t) := fn_ext (by rw [List.length_cons, List.length_cons, ha.1, hb.1]) fun k => Int.le_antisymm (ha.2.2 _ hb.2.1 k) (hb.2.2 _ ha.2.1 k)
      injection e with _ e
      rw [e]
theorem nat_min {P : Nat → Prop} : ∀ (n : Nat), P n → ∃ m, P m ∧ ∀ k, P k → m ≤ k := by
  intro n
  induction n using Nat.strongRecOn with
  | _ n ih =>
    intro h
    by_cases e : ∃ k, k < n ∧ P k
    · obtain ⟨k, h1, h2⟩ := e
      exact ih k h1 h2
    · exact ⟨n, h, fun k hk => Nat.le_of_not_lt fun hl => e ⟨k, hl, hk⟩⟩
theorem least_of {rs : List Rw} {m0 : Nat → Int} (h : Feas rs m0) : ∃ M, Feas rs M ∧ ∀ m, Feas rs m → ∀ k, M k ≤ m k := by
  have key : ∀ k, ∃ v : Int, (∃ m, Feas rs m ∧ m k = v) ∧ ∀ m, Feas rs m → v ≤ m k := fun k => by
    obtain ⟨v, ⟨m, h1, h2⟩, h3⟩ := nat_min (P := fun v => ∃ m, Feas rs m ∧ m k = (v : Int)) (m0 k).toNat ⟨m0, h, by have := h.nn k; omega⟩
    refine ⟨v, ⟨m, h1, h2⟩, fun m' h' => ?_⟩
    have := h3 (m' k).toNat ⟨m', h', by have := h'.nn k; omega⟩
    have := h'.nn k
    omega
  refine ⟨fun k => (key k).choose, ⟨?_, fun k => ?_, fun r hr => ?_⟩, fun m hm k => (key k).choose_spec.2 m hm⟩
  · obtain ⟨m, h1, h2⟩ := (key 0).choose_spec.1
    rw [← h2]
    exact h1.zero
  · obtain ⟨m, h1, h2⟩ := (key k).choose_spec.1
    rw [← h2]
    exact h1.nn k
  · obtain ⟨m, h1, h2⟩ := (key r.1).choose_spec.1
    have h3 := (key r.2.1).choose_spec.2 m h1
    have h4 := h1.rows r hr
    show (key r.2.1).choose + r.2.2 ≤ (key r.1).choose
    rw [← h2]
    omega
/-- how many of the numbers up to n are not yet at their least -/
def offs (M m : Nat → Int) (n : Nat) : Nat := (List.range (n + 1)).countP fun k => decide (m k ≠ M k)
theorem countP_lt {α : Type} {p q : α → Bool} : ∀ {l : List α}, (∀ a ∈ l, q a = true → p a = true) → (∃ a ∈ l, p a = true ∧ q a = false) → l.countP q < l.countP p
  | [], _, h => by
    obtain ⟨a, h, _⟩ := h
    cases h
  | a :: r, h1, h2 => by
    have hle : r.countP q ≤ r.countP p := List.countP_mono_left fun b hb h => h1 b (List.mem_cons_of_mem _ hb) h
    obtain ⟨b, hb, e1, e2⟩ := h2
    rw [List.countP_cons, List.countP_cons]
    rcases List.mem_cons.mp hb with e | hb
    · subst e
      rw [e1, e2]
      simp
      omega
    · have := countP_lt (l := r) (fun b hb h => h1 b (List.mem_cons_of_mem _ hb) h) ⟨b, hb, e1, e2⟩
      cases hq : q a with
      | false => simp; omega
      | true =>
        rw [h1 a List.mem_cons_self hq]
        simp
        omega
/-- what a round does to moments -/
structure Round (rs : List Rw) (a b : Nat → Int) : Prop where
  up : ∀ k, a k ≤ b k
  rows : ∀ r ∈ rs, a r.2.1 + r.2.2 ≤ b r.1
theorem offs_step {rs : List Rw} {n : Nat} {M a b : Nat → Int} (hn : RwIn n rs) (hM : Feas rs M) (hl : ∀ m, Feas rs m → ∀ k, M k ≤ m k) (ha : ∀ k, 0 ≤ a k) (h0 : a 0 = 0) (hb : ∀ k, b k ≤ M k) (R : Round rs a b) : offs M b n ≤ offs M a n - 1 := by
  have hsub : ∀ k ∈ List.range (n + 1), decide (b k ≠ M k) = true → decide (a k ≠ M k) = true := fun k _ h => by
    have h := of_decide_eq_true h
    have h1 := R.up k
    have h2 := hb k
    exact decide_eq_true (by omega)
  by_cases hz : ∃ k, k ≤ n ∧ a k ≠ M k
  · have : offs M b n < offs M a n := by
      refine countP_lt hsub ?_
      refine Classical.byContradiction fun hno => ?_
      have hno : ∀ k, k ≤ n → a k ≠ M k → b k ≠ M k := fun k hk h1 h2 => hno ⟨k, List.mem_range.mpr (by omega), decide_eq_true h1, decide_eq_false (by simpa using h2)⟩
      have F : Feas rs fun k => if k ≤ n ∧ a k ≠ M k then M k - 1 else M k := by
        refine ⟨?_, fun k => ?_, fun r hr => ?_⟩
        · rw [if_neg (fun h => h.2 (by rw [h0, hM.zero]))]
          exact hM.zero
        · by_cases h : k ≤ n ∧ a k ≠ M k
          · rw [if_pos h]
            have h1 := R.up k
            have h2 := hb k
            have h3 := ha k
            have h4 := h.2
            omega
          · rw [if_neg h]
            exact hM.nn k
        · obtain ⟨h1, h2⟩ := hn r hr
          have h3 := hM.rows r hr
          by_cases hk : a r.1 ≠ M r.1
          · by_cases hj : a r.2.1 ≠ M r.2.1
            · rw [if_pos ⟨h2, hj⟩, if_pos ⟨h1, hk⟩]
              omega
            · rw [if_neg (fun h => hj h.2), if_pos ⟨h1, hk⟩]
              have h4 := R.rows r hr
              have h5 := hb r.1
              have h6 := hno r.1 h1 hk
              have h7 : a r.2.1 = M r.2.1 := Classical.byContradiction fun h => hj h
              omega
          · by_cases hj : a r.2.1 ≠ M r.2.1
            · rw [if_pos ⟨h2, hj⟩, if_neg (fun h => hk h.2)]
              omega
            · rw [if_neg (fun h => hj h.2), if_neg (fun h => hk h.2)]
              exact h3
      obtain ⟨k, h1, h2⟩ := hz
      have := hl _ F k
      rw [if_pos ⟨h1, h2⟩] at this
      omega
    omega
  · have e : offs M b n = 0 := by
      unfold offs
      rw [List.countP_eq_zero]
      intro k hk h
      have h2 := of_decide_eq_true (hsub k hk h)
      exact hz ⟨k, by have := List.mem_range.mp hk; omega, h2⟩
    omega
theorem offs_zero {M m : Nat → Int} {n : Nat} (h : offs M m n = 0) : ∀ k, k ≤ n → m k = M k := fun k hk => by
  unfold offs at h
  rw [List.countP_eq_zero] at h
  have h2 := h k (List.mem_range.mpr (by omega))
  exact Classical.byContradiction fun e => h2 (decide_eq_true e)
theorem offs_le {M m : Nat → Int} {n : Nat} (h0 : m 0 = M 0) : offs M m n ≤ n := by
  have h1 : offs M m n < (List.range (n + 1)).countP fun _ => true := countP_lt (fun _ _ _ => rfl) ⟨0, List.mem_range.mpr (by omega), rfl, decide_eq_false (by simpa using h0)⟩
  have h2 : (List.range (n + 1)).countP (fun _ => true) ≤ (List.range (n + 1)).length := List.countP_le_length
  rw [List.length_range] at h2
  omega
/-! ### a round over a list of moments -/
theorem fn_set {m : List Int} {k j : Nat} {v : Int} (hk : k < m.length) : fn (m.set k v) j = if j = k then v else fn m j := by
  unfold fn
  rw [List.getD_eq_getElem?_getD, List.getD_eq_getElem?_getD, List.getElem?_set]
  by_cases h : j = k
  · subst h
    rw [if_pos rfl, if_pos rfl, if_pos hk]
    rfl
  · rw [if_neg (fun e => h e.symm), if_neg h]
theorem fn_nn {m : List Int} (h : ∀ v ∈ m, 0 ≤ v) (k : Nat) : 0 ≤ fn m k := by
  unfold fn
  rw [List.getD_eq_getElem?_getD]
  cases e : m[k]? with
  | none => exact Int.le_refl 0
  | some v => exact h v (List.mem_of_getElem? e)
theorem fn_ge {m : List Int} {k : Nat} (h : m.length ≤ k) : fn m k = 0 := by
  unfold fn
  rw [List.getD_eq_getElem?_getD, List.getElem?_eq_none h]
  rfl
/-- the state of the moments within the law's own search: a is the state at the begin of the round -/
structure Mid (rs : List Rw) (n : Nat) (a m : List Int) (i : Nat) : Prop where
  len : m.length = n + 1
  up : ∀ k, fn a k ≤ fn m k
  le : ∀ M, Feas rs M → ∀ k, fn m k ≤ M k
  rows : ∀ r ∈ rs.take i, fn a r.2.1 + r.2.2 ≤ fn m r.1
theorem Mid.step {rs : List Rw} {n : Nat} {a m : List Int} {i : Nat} {r : Rw} (h : Mid rs n a m i) (hr : rs[i]? = some r) (hn : RwIn n rs) :
    (fn m r.1 < fn m r.2.1 + r.2.2 → Mid rs n a (m.set r.1 (fn m r.2.1 + r.2.2)) (i + 1)) ∧ (¬ fn m r.1 < fn m r.2.1 + r.2.2 → Mid rs n a m (i + 1)) := by
  have hm : r ∈ rs := List.mem_of_getElem? hr
  obtain ⟨h1, h2⟩ := hn r hm
  have et : rs.take (i + 1) = rs.take i ++ [r] := by rw [List.take_add_one, hr]; rfl
  have hk : r.1 < m.length := by rw [h.len]; omega
  refine ⟨fun c => ⟨by rw [List.length_set]; exact h.len, fun k => ?_, fun M hM k => ?_, fun s hs => ?_⟩, fun c => ⟨h.len, h.up, h.le, fun s hs => ?_⟩⟩
  · rw [fn_set hk]
    by_cases e : k = r.1
    · rw [if_pos e, e]
      have := h.up r.1
      omega
    · rw [if_neg e]
      exact h.up k
  · rw [fn_set hk]
    by_cases e : k = r.1
    · rw [if_pos e, e]
      have h3 := hM.rows r hm
      have h4 := h.le M hM r.2.1
      omega
    · rw [if_neg e]
      exact h.le M hM k
  · rw [fn_set hk]
    rw [et] at hs
    rcases List.mem_append.mp hs with hs | hs
    · have h3 := h.rows s hs
      by_cases e : s.1 = r.1
      · rw [if_pos e]
        rw [e] at h3
        omega
      · rw [if_neg e]
        exact h3
    · rw [List.mem_singleton.mp hs, if_pos rfl]
      have := h.up r.2.1
      omega
  · rw [et] at hs
    rcases List.mem_append.mp hs with hs | hs
    · exact h.rows s hs
    · rw [List.mem_singleton.mp hs]
      have := h.up r.2.1
      omega
/-! ### the program's search: moments, causes, and what was raised last -/
structure SS where
  m : List Int
  c : List (Option Rw)
  r : Option Nat
def SS.step (s : SS) (w : Rw) : SS := if fn s.m w.1 < fn s.m w.2.1 + w.2.2 then ⟨s.m.set w.1 (fn s.m w.2.1 + w.2.2), s.c.set w.1 (some w), some w.1⟩ else s
def SS.pass (ws : List Rw) (s : SS) : SS := ws.foldl SS.step ⟨s.m, s.c, none⟩
def settleF (ws : List Rw) : Nat → SS → SS
  | 0, s => s
  | f + 1, s => if (s.pass ws).r = none then s.pass ws else settleF ws f (s.pass ws)
def allRows (rs : List Rw) (n : Nat) : List Rw := rs ++ (List.range (n + 1)).map fun k => (k, 0, 0)
def SS.zero (n : Nat) : SS := ⟨List.replicate (n + 1) 0, List.replicate (n + 1) none, none⟩
structure Fold (ws : List Rw) (n : Nat) (s t : SS) : Prop where
  len : t.m.length = s.m.length
  clen : t.c.length = s.c.length
  up : ∀ k, fn s.m k ≤ fn t.m k
  rows : ∀ r ∈ ws, fn s.m r.2.1 + r.2.2 ≤ fn t.m r.1
  le : ∀ M : Nat → Int, (∀ r ∈ ws, M r.2.1 + r.2.2 ≤ M r.1) → (∀ k, fn s.m k ≤ M k) → ∀ k, fn t.m k ≤ M k
  stay : t.r = none → t.m = s.m ∧ s.r = none
  rin : ∀ k, t.r = some k → (s.r = some k ∨ k ≤ n)
theorem fold_ok {n : Nat} : ∀ {ws : List Rw} {s : SS}, RwIn n ws → s.m.length = n + 1 → Fold ws n s (ws.foldl SS.step s)
  | [], s, _, _ => ⟨rfl, rfl, fun _ => Int.le_refl _, (fun r hr => by cases hr), fun _ _ h => h, fun h => ⟨rfl, h⟩, fun k h => .inl h⟩
  | w :: ws, s, hn, hl => by
    obtain ⟨h1, h2⟩ := hn w List.mem_cons_self
    have hk : w.1 < s.m.length := by omega
    by_cases c : fn s.m w.1 < fn s.m w.2.1 + w.2.2
    · have e : s.step w = ⟨s.m.set w.1 (fn s.m w.2.1 + w.2.2), s.c.set w.1 (some w), some w.1⟩ := if_pos c
      have ih := fold_ok (ws := ws) (s := s.step w) (fun r hr => hn r (List.mem_cons_of_mem _ hr)) (by rw [e]; show (s.m.set _ _).length = _; rw [List.length_set]; exact hl)
      have up1 : ∀ k, fn s.m k ≤ fn (s.step w).m k := fun k => by
        rw [e]
        show _ ≤ fn (s.m.set _ _) k
        rw [fn_set hk]
        by_cases h : k = w.1
        · rw [if_pos h, h]
          omega
        · rw [if_neg h]
          exact Int.le_refl _
      have wv : fn (s.step w).m w.1 = fn s.m w.2.1 + w.2.2 := by
        rw [e]
        show fn (s.m.set _ _) _ = _
        rw [fn_set hk, if_pos rfl]
      refine ⟨?_, ?_, fun k => Int.le_trans (up1 k) (ih.up k), fun r hr => ?_, fun M hM hs k => ih.le M (fun r hr => hM r (List.mem_cons_of_mem _ hr)) (fun k => ?_) k, fun h => ?_, fun k h => ?_⟩
      · show (ws.foldl SS.step (s.step w)).m.length = _
        rw [ih.len, e]
        exact List.length_set
      · show (ws.foldl SS.step (s.step w)).c.length = _
        rw [ih.clen, e]
        exact List.length_set
      · rcases List.mem_cons.mp hr with hr | hr
        · rw [hr]
          have := ih.up w.1
          rw [wv] at this
          exact this
        · have h3 := ih.rows r hr
          have h4 := up1 r.2.1
          show _ ≤ fn (ws.foldl SS.step (s.step w)).m r.1
          omega
      · by_cases h : k = w.1
        · rw [h, wv]
          have h3 := hM w List.mem_cons_self
          have h4 := hs w.2.1
          omega
        · rw [e]
          show fn (s.m.set _ _) k ≤ _
          rw [fn_set hk, if_neg h]
          exact hs k
      · have h3 := (ih.stay h).2
        rw [e] at h3
        cases h3
      · rcases ih.rin k h with h | h
        · rw [e] at h
          injection h with h
          exact .inr (by omega)
        · exact .inr h
    · have e : s.step w = s := if_neg c
      have ih := fold_ok (ws := ws) (s := s) (fun r hr => hn r (List.mem_cons_of_mem _ hr)) hl
      have e2 : (w :: ws).foldl SS.step s = ws.foldl SS.step s := by rw [List.foldl_cons, e]
      rw [e2]
      refine ⟨ih.len, ih.clen, ih.up, fun r hr => ?_, fun M hM => ih.le M fun r hr => hM r (List.mem_cons_of_mem _ hr), ih.stay, ih.rin⟩
      rcases List.mem_cons.mp hr with hr | hr
      · rw [hr]
        have := ih.up w.1
        omega
      · exact ih.rows r hr
theorem allRows_in {rs : List Rw} {n : Nat} (h : RwIn n rs) : RwIn n (allRows rs n) := fun r hr => by
  rcases List.mem_append.mp hr with hr | hr
  · exact h r hr
  · obtain ⟨k, hk, rfl⟩ := List.mem_map.mp hr
    have := List.mem_range.mp hk
    exact ⟨by show k ≤ n; omega, Nat.zero_le _⟩
theorem Feas.all {rs : List Rw} {n : Nat} {M : Nat → Int} (h : Feas rs M) : ∀ r ∈ allRows rs n, M r.2.1 + r.2.2 ≤ M r.1 := fun r hr => by
  rcases List.mem_append.mp hr with hr | hr
  · exact h.rows r hr
  · obtain ⟨k, hk, rfl⟩ := List.mem_map.mp hr
    show M 0 + 0 ≤ M k
    have := h.zero
    have := h.nn k
    omega
theorem fn_zeros (n k : Nat) : fn (List.replicate n (0 : Int)) k = 0 := by
  unfold fn
  rw [List.getD_eq_getElem?_getD, List.getElem?_replicate]
  by_cases h : k < n
  · rw [if_pos h]
    rfl
  · rw [if_neg h]
    rfl
/-- what the search tells -/
def Told (rs : List Rw) (n : Nat) (s : SS) : Prop := s.m.length = n + 1 ∧ s.c.length = n + 1 ∧ (s.r = none → LM rs n (some (s.m.drop 1))) ∧ (∀ k, s.r = some k → k ≤ n ∧ LM rs n none)
structure Search (rs : List Rw) (n i : Nat) (s : SS) : Prop where
  len : s.m.length = n + 1
  clen : s.c.length = n + 1
  nn : ∀ k, 0 ≤ fn s.m k
  le : ∀ M, Feas rs M → ∀ k, fn s.m k ≤ M k
  off : ∀ M, Feas rs M → (∀ m, Feas rs m → ∀ k, M k ≤ m k) → offs M (fn s.m) n ≤ n - i
theorem Search.next {rs : List Rw} {n i : Nat} {s : SS} (h : Search rs n i s) (hn : RwIn n rs) : Fold (allRows rs n) n ⟨s.m, s.c, none⟩ (s.pass (allRows rs n)) ∧ Search rs n (i + 1) (s.pass (allRows rs n)) := by
  have F := fold_ok (s := ⟨s.m, s.c, none⟩) (allRows_in hn) h.len
  refine ⟨F, F.len.trans h.len, F.clen.trans h.clen, fun k => Int.le_trans (h.nn k) (F.up k), fun M hM => F.le M hM.all (h.le M hM), fun M hM hl => ?_⟩
  have h1 := offs_step (a := fn s.m) (b := fn (s.pass (allRows rs n)).m) hn hM hl h.nn (Int.le_antisymm (by have := h.le M hM 0; rw [hM.zero] at this; exact this) (h.nn 0)) (F.le M hM.all (h.le M hM)) ⟨F.up, fun r hr => F.rows r (List.mem_append_left _ hr)⟩
  have h2 := h.off M hM hl
  omega
theorem Search.done {rs : List Rw} {n i : Nat} {s : SS} (h : Search rs n i s) (hn : RwIn n rs) (hr : (s.pass (allRows rs n)).r = none) : LM rs n (some ((s.pass (allRows rs n)).m.drop 1)) := by
  obtain ⟨F, S⟩ := h.next hn
  have em : (s.pass (allRows rs n)).m = s.m := (F.stay hr).1
  have hrows : ∀ r ∈ allRows rs n, fn s.m r.2.1 + r.2.2 ≤ fn s.m r.1 := fun r hr => by
    have := F.rows r hr
    rw [em] at this
    exact this
  have hz : ∀ k, k ≤ n → fn s.m 0 ≤ fn s.m k := fun k hk => by
    have := hrows (k, 0, 0) (List.mem_append_right _ (List.mem_map.mpr ⟨k, List.mem_range.mpr (by omega), rfl⟩))
    have : fn s.m 0 + 0 ≤ fn s.m k := this
    omega
  have F0 : Feas rs fun k => if k ≤ n then fn s.m k - fn s.m 0 else 0 := by
    refine ⟨?_, fun k => ?_, fun r hr => ?_⟩
    · rw [if_pos (Nat.zero_le _)]
      omega
    · by_cases hk : k ≤ n
      · rw [if_pos hk]
        have := hz k hk
        omega
      · rw [if_neg hk]
        exact Int.le_refl _
    · obtain ⟨h1, h2⟩ := hn r hr
      rw [if_pos h2, if_pos h1]
      have := hrows r (List.mem_append_left _ hr)
      omega
  have h0 : fn s.m 0 = 0 := by
    have h1 := h.le _ F0 0
    rw [if_pos (Nat.zero_le _)] at h1
    have := h.nn 0
    omega
  obtain ⟨v, t, ht⟩ : ∃ v t, s.m = v :: t := by
    cases e : s.m with
    | nil =>
      have := h.len
      rw [e] at this
      cases this
    | cons v t => exact ⟨v, t, rfl⟩
  have hv : v = 0 := by
    rw [ht] at h0
    exact h0
  subst hv
  rw [em, ht]
  show Least rs n t
  have hl := h.len
  rw [ht, List.length_cons] at hl
  refine ⟨by omega, ⟨rfl, fun k => ?_, fun r hr => ?_⟩, fun m hm k => ?_⟩
  · rw [← ht]
    exact h.nn k
  · rw [← ht]
    exact hrows r (List.mem_append_left _ hr)
  · rw [← ht]
    exact h.le m hm k
theorem Search.never {rs : List Rw} {n i : Nat} {s : SS} (h : Search rs n i s) (hn : RwIn n rs) (hi : n ≤ i) (hr : (s.pass (allRows rs n)).r ≠ none) : LM rs n none := fun m0 h0 => by
  obtain ⟨M, hM, hl⟩ := least_of h0
  have hz := offs_zero (Nat.le_zero.mp (Nat.le_trans (h.off M hM hl) (by omega)))
  -- nothing is raised where all are at their least
  have key : ∀ ws : List Rw, (∀ r ∈ ws, r ∈ allRows rs n) → (ws.foldl SS.step ⟨s.m, s.c, none⟩) = ⟨s.m, s.c, none⟩ := by
    intro ws
    induction ws with
    | nil => intro _; rfl
    | cons w ws ih =>
      intro hw
      have h1 := hw w List.mem_cons_self
      have h2 := hM.all w h1
      obtain ⟨h3, h4⟩ := allRows_in hn w h1
      have e : SS.step ⟨s.m, s.c, none⟩ w = ⟨s.m, s.c, none⟩ := if_neg (by
        show ¬ fn s.m w.1 < fn s.m w.2.1 + w.2.2
        rw [hz _ h3, hz _ h4]
        omega)
      rw [List.foldl_cons, e]
      exact ih fun r hr => hw r (List.mem_cons_of_mem _ hr)
  refine hr ?_
  show ((allRows rs n).foldl SS.step ⟨s.m, s.c, none⟩).r = none
  rw [key _ fun _ h => h]
theorem settle_told {rs : List Rw} {n : Nat} (hn : RwIn n rs) : ∀ (f i : Nat) (s : SS), f + i = n + 1 → f ≠ 0 → Search rs n i s → Told rs n (settleF (allRows rs n) f s)
  | 0, _, _, _, h, _ => absurd rfl h
  | f + 1, i, s, hf, _, S => by
    obtain ⟨F, S2⟩ := S.next hn
    unfold settleF
    by_cases hr : (s.pass (allRows rs n)).r = none
    · rw [if_pos hr]
      exact ⟨S2.len, S2.clen, fun _ => S.done hn hr, fun k h => by rw [hr] at h; cases h⟩
    · rw [if_neg hr]
      by_cases hz : f = 0
      · subst hz
        refine ⟨S2.len, S2.clen, fun h => absurd h hr, fun k h => ⟨?_, S.never hn (by omega) hr⟩⟩
        rcases F.rin k h with h | h
        · cases h
        · exact h
      · exact settle_told hn f (i + 1) _ (by omega) hz S2
theorem settle_ok {rs : List Rw} {n : Nat} (hn : RwIn n rs) : Told rs n (settleF (allRows rs n) (n + 1) (SS.zero n)) := by
  refine settle_told hn (n + 1) 0 _ (by omega) (by omega) ⟨List.length_replicate, List.length_replicate, fun k => ?_, fun M hM k => ?_, fun M hM _ => ?_⟩
  · show 0 ≤ fn (List.replicate _ _) k
    rw [fn_zeros]
    exact Int.le_refl _
  · show fn (List.replicate _ _) k ≤ _
    rw [fn_zeros]
    exact hM.nn k
  · exact offs_le (by show fn (List.replicate _ _) 0 = _; rw [fn_zeros, hM.zero])
/-! ### the law's own search -/
structure Slow (rs : List Rw) (n i : Nat) (m : List Int) : Prop where
  len : m.length = n + 1
  zero : fn m 0 = 0
  nn : ∀ k, 0 ≤ fn m k
  le : ∀ M, Feas rs M → ∀ k, fn m k ≤ M k
  off : ∀ M, Feas rs M → (∀ m, Feas rs m → ∀ k, M k ≤ m k) → offs M (fn m) n ≤ n - i
  keep : n + 3 ≤ i → ∀ r ∈ rs, fn m r.2.1 + r.2.2 ≤ fn m r.1
theorem Slow.begin {rs : List Rw} {n : Nat} : Slow rs n 0 (List.replicate (n + 1) 0) := by
  refine ⟨List.length_replicate, fn_zeros _ _, fun k => ?_, fun M hM k => ?_, fun M hM _ => ?_, fun h => ?_⟩
  · rw [fn_zeros]
    exact Int.le_refl _
  · rw [fn_zeros]
    exact hM.nn k
  · exact offs_le (by rw [fn_zeros, hM.zero])
  · omega
theorem Slow.mid {rs : List Rw} {n i : Nat} {a : List Int} (h : Slow rs n i a) : Mid rs n a a 0 := ⟨h.len, fun _ => Int.le_refl _, h.le, fun r hr => by
  rw [List.take_zero] at hr
  cases hr⟩
theorem Slow.next {rs : List Rw} {n i : Nat} {a m : List Int} (hn : RwIn n rs) (h : Slow rs n i a) (M : Mid rs n a m rs.length) (h0 : fn m 0 = 0) (hs : n + 2 ≤ i → m = a) : Slow rs n (i + 1) m := by
  refine ⟨M.len, h0, fun k => Int.le_trans (h.nn k) (M.up k), M.le, fun W hW hl => ?_, fun hi r hr => ?_⟩
  · have h1 := offs_step (a := fn a) (b := fn m) hn hW hl h.nn h.zero (M.le W hW) ⟨M.up, fun r hr => M.rows r (by rw [List.take_length]; exact hr)⟩
    have h2 := h.off W hW hl
    omega
  · have e := hs (by omega)
    have h1 := M.rows r (by rw [List.take_length]; exact hr)
    rw [e] at h1 ⊢
    exact h1
theorem Slow.none0 {rs : List Rw} {n : Nat} {a m : List Int} {i : Nat} {r : Rw} (M : Mid rs n a m i) (hr : r ∈ rs) (h0 : fn m 0 = 0) (hz : r.1 = 0) (c : fn m r.1 < fn m r.2.1 + r.2.2) : LM rs n none := fun W hW => by
  have h1 := hW.rows r hr
  have h2 := M.le W hW r.2.1
  rw [hz] at h1 c
  rw [hW.zero] at h1
  omega
theorem Slow.noneL {rs : List Rw} {n i : Nat} {a : List Int} {r : Rw} (hn : RwIn n rs) (h : Slow rs n i a) (hi : n + 2 ≤ i) (hr : r ∈ rs) (c : fn a r.1 < fn a r.2.1 + r.2.2) : LM rs n none := fun W0 hW0 => by
  obtain ⟨W, hW, hl⟩ := least_of hW0
  have hz := offs_zero (Nat.le_zero.mp (Nat.le_trans (h.off W hW hl) (by omega)))
  obtain ⟨h1, h2⟩ := hn r hr
  have h3 := hW.rows r hr
  rw [hz _ h1, hz _ h2] at c
  omega
theorem Slow.done {rs : List Rw} {n i : Nat} {m : List Int} (h : Slow rs n i m) (hi : n + 3 ≤ i) : LM rs n (some (m.drop 1)) := by
  obtain ⟨v, t, ht⟩ : ∃ v t, m = v :: t := by
    cases e : m with
    | nil =>
      have := h.len
      rw [e] at this
      cases this
    | cons v t => exact ⟨v, t, rfl⟩
  have hv : v = 0 := by
    have h0 := h.zero
    rw [ht] at h0
    exact h0
  subst hv
  have hl := h.len
  rw [ht, List.length_cons] at hl
  have h1 := h.nn
  have h2 := h.le
  have h3 := h.keep hi
  rw [ht] at h1 h2 h3 ⊢
  exact ⟨by show t.length = n; omega, ⟨rfl, h1, h3⟩, h2⟩

open PySem PySem.Spec PyProof.Rows L2
open PySem.W (EachIs)
/-! ### a list or a tuple, by one word -/
def SqK (K : PySem.W.Frag) (kd : Bool) (H : Hp) (a : Addr) (xs : List V) : Prop := if kd = true then SqL K H a xs else SqT K H a xs
theorem SqK.l {K : PySem.W.Frag} {H : Hp} {a : Addr} {xs : List V} (h : SqL K H a xs) : SqK K true H a xs := h
theorem SqK.t {K : PySem.W.Frag} {H : Hp} {a : Addr} {xs : List V} (h : SqT K H a xs) : SqK K false H a xs := h
theorem SqK.ext {K : PySem.W.Frag} {kd : Bool} {T : List (Addr × Str)} {ms : List Addr} {H H' : Hp} {a : Addr} {xs : List V} (h : SqK K kd H a xs) (e : Ext T ms H H') (ha : a ∉ ms) : SqK K kd H' a xs := by
  cases kd with
  | true => exact e.seqL ha h
  | false => exact e.seqT ha h
theorem SqK.x {K : PySem.W.Frag} {kd : Bool} {T : List (Addr × Str)} {H H' : Hp} {a : Addr} {xs : List V} (h : SqK K kd H a xs) (e : Ext T [] H H') : SqK K kd H' a xs := h.ext e (by simp)
theorem SqK.or {K : PySem.W.Frag} {kd : Bool} {H : Hp} {a : Addr} {xs : List V} (h : SqK K kd H a xs) : SqT K H a xs ∨ SqL K H a xs := by
  cases kd with
  | true => exact .inr h
  | false => exact .inl h
theorem SqK.or' {K : PySem.W.Frag} {kd : Bool} {H : Hp} {a : Addr} {xs : List V} (h : SqK K kd H a xs) : SqL K H a xs ∨ SqT K H a xs := by
  cases kd with
  | true => exact .inl h
  | false => exact .inr h
/-- what is made later may change -/
theorem SqK.own {K : PySem.W.Frag} {kd : Bool} {T : List (Addr × Str)} {H H' : Hp} {a p : Addr} {xs : List V} (h : SqK K kd H a xs) (np : Nw H p) (e : Ext T [p] H H') : SqK K kd H' a xs := by
  have key : ∀ o, (∀ ps, o ≠ .tbl ps) → H a = some o → H' a = some o := fun o ho h1 => e.keep a o (by
    intro hm
    have := np.ne h1 ho
    simp at hm
    exact this hm) ho h1
  cases kd with
  | true =>
    rcases h with (h | ⟨o, h⟩) | h
    · exact .inl (.inl (key _ (fun _ z => by cases z) h))
    · exact .inl (.inr ⟨o, key _ (fun _ z => by cases z) h⟩)
    · exact .inr h
  | false =>
    rcases h with (h | ⟨o, h⟩) | h
    · exact .inl (.inl (key _ (fun _ z => by cases z) h))
    · exact .inl (.inr ⟨o, key _ (fun _ z => by cases z) h⟩)
    · exact .inr h
/-- data in a list or a tuple -/
def DsK (K : PySem.W.Frag) (kd : Bool) (H : Hp) (a : Addr) (ds : List PyData) : Prop := ∃ xs, SqK K kd H a xs ∧ ImAll H xs ds
theorem DsK.x {K : PySem.W.Frag} {kd : Bool} {T : List (Addr × Str)} {H H' : Hp} {a : Addr} {ds : List PyData} (h : DsK K kd H a ds) (e : Ext T [] H H') : DsK K kd H' a ds := by
  obtain ⟨xs, h1, h2⟩ := h
  exact ⟨xs, h1.x e, h2.x e⟩
theorem DsK.ls {K : PySem.W.Frag} {H : Hp} {a : Addr} {ds : List PyData} (h : Ls H a ds) : DsK K true H a ds := by
  obtain ⟨xs, h1, h2⟩ := h
  exact ⟨xs, SqL.of h1, h2⟩
section
variable {K : PySem.W.Frag} {σ : L2.St} {H : Hp} {Q : VK} {te : TE}
theorem rd_starK {t : TA} {kd : Bool} {p : Addr} {xs : List V} {Q : List V → Hp → Prop} (h : SqK K kd H p xs) (q : t σ H fun ys H2 => Q (xs ++ ys) H2) : ∃ p' xs', V.ref p = V.ref p' ∧ (SqT K H p' xs' ∨ SqL K H p' xs') ∧ t σ H fun ys H2 => Q (xs' ++ ys) H2 := ⟨p, xs, rfl, h.or, q⟩
theorem rep_one {α : Type} (n : Nat) (x : α) : (List.replicate n [x]).flatten = List.replicate n x := by
  induction n with
  | zero => rfl
  | succ n ih => rw [List.replicate_succ, List.flatten_cons, ih]; rfl
theorem rd_rep {l : Addr} {x : V} {n : Nat} (h : H l = some (.lst [x])) (hn : n ≤ 1000) (q : ∀ p, H p = none → Q (.ref p) (upd H p (.lst (List.replicate n x)))) : rRep (.ref l) (.int (n : Int)) H Q :=
  ⟨l, n, [x], rfl, rfl, h, by omega, by omega, by
    rw [List.length_singleton, Int.toNat_natCast, Nat.one_mul]
    exact Nat.le_trans hn (by decide), fun p hp => by
    rw [Int.toNat_natCast, rep_one]
    exact q p hp⟩
theorem rd_isN {x : V} (q : Q (.bl (decide (x = .non))) H) : rIsU x .non H Q := .inr ⟨rfl, q⟩
theorem rd_isBl {a b : Bool} (q : Q (.bl (decide (a = b))) H) : rIsU (.bl a) (.bl b) H Q := .inl ⟨a, b, rfl, rfl, q⟩
theorem rd_isnBl {a b : Bool} (q : Q (.bl (!decide (a = b))) H) : rIsNU (.bl a) (.bl b) H Q := .inl ⟨a, b, rfl, rfl, q⟩
theorem rd_isTup {a : Addr} {xs : List V} (h : H a = some (.tup xs)) (q : Q (.bl true) H) : rIsi K [.ref a, .ty "tuple"] H Q := ⟨_, _, _, _, true, rfl, .ty _, .base (.tup h), rfl, q⟩
theorem rd_break {nx bk ct : L2.St → Hp → Prop} {rt : VK} (q : bk σ H) : tBreak ⟨nx, rt, bk, ct⟩ σ H := q
end
/-! ### walked, whichever of the two it is -/
section
variable {K : PySem.W.Frag} {σ : L2.St} {H H1 : Hp} {g : TG} {nx bk ct : L2.St → Hp → Prop} {rt : VK}
theorem forg_any {kd : Bool} {a : Addr} {xs : List V} {tb : TS} (Pv : Nat → L2.St → Hp → Prop) (h0 : Pv 0 σ H) (hl : ∀ i σ H, i ≤ xs.length → Pv i σ H → SqK K kd H a xs)
    (hs : ∀ i x σ H, xs[i]? = some x → Pv i σ H → g x σ H fun σ2 H2 => tb ⟨Pv (i + 1), rt, nx, Pv (i + 1)⟩ σ2 H2) (hd : ∀ σ H, Pv xs.length σ H → nx σ H) :
    ((∃ xs, SqL K H a xs) ∧ ForG (Itl K a) g tb ⟨nx, rt, bk, ct⟩ σ H) ∨ ((∃ xs, SqT K H a xs) ∧ ForG (Itt K a) g tb ⟨nx, rt, bk, ct⟩ σ H) := by
  have h1 := hl 0 σ H (Nat.zero_le _) h0
  cases kd with
  | true => exact .inl ⟨⟨xs, h1⟩, forg_list Pv h0 hl hs hd⟩
  | false => exact .inr ⟨⟨xs, h1⟩, forg_tup Pv h0 hl hs hd⟩
theorem lcg_any (T : List (Addr × Str)) (ms : List Addr) {kd : Bool} {a : Addr} {xs : List V} {Q : VK} {tt : TT} {te : TE} {vs : List Nat} (h : SqK K kd H a xs) (ha : a ∉ ms)
    (hDm : ∀ D, H D = none → D ∉ ms) (hl : xs.length < sizeLine) (p : V → Bool) (Rel : V → V → Prop)
    (step : ∀ (i : Nat) (x : V), xs[i]? = some x → ∀ H', Ext T ms H H' → ∀ (R : V → Hp → Prop) (S : Hp → Prop), (p x = true → ∀ v H2, Ext T ms H' H2 → Rel v x → R v H2) → (p x = false → ∀ H2, Ext T ms H' H2 → S H2) →
      g x (wipe σ vs) H' fun σ2 H2 => wipe σ2 vs = wipe σ vs ∧ tt σ2 H2 fun b H3 => if b = true then te σ2 H3 R else S H3)
    (q : ∀ D H2 ys, Nw H D → Ext T ms H H2 → H2 D = some (.lst ys) → EachIs Rel ys (xs.filter p) → Q (.ref D) H2) :
    ((∃ xs, SqL K H a xs) ∧ LcG (Itl K a) g tt te vs σ H Q) ∨ ((∃ xs, SqT K H a xs) ∧ LcG (Itt K a) g tt te vs σ H Q) := by
  cases kd with
  | true => exact .inl ⟨⟨xs, h⟩, lcg_rel T ms walk_list xs rfl (fun i H x H' y => y) hDm (fun H' e => h.ext e ha) hl p Rel step q⟩
  | false => exact .inr ⟨⟨xs, h⟩, lcg_rel T ms walk_tup xs rfl (fun i H x H' y => y) hDm (fun H' e => h.ext e ha) hl p Rel step q⟩
end
/-- over a range, data without drawing -/
theorem lcg_rangeD (T : List (Addr × Str)) {σ : L2.St} {H : Hp} {Q : VK} {te : TE} {n k : Nat} (f : Nat → PyData) (hn : n < sizeLine)
    (step : ∀ (i : Nat) H', i < n → Ext T [] H H' → ∀ R : VK, (∀ v H2, Ext T [] H' H2 → Im H2 v (f i) → R v H2) → te ((wipe σ [k]).set k (some (.int (0 + (i : Int))))) H' R)
    (q : ∀ D H2, Nw H D → Ext T [] H H2 → Ls H2 D ((List.range n).map f) → Q (.ref D) H2) : LcG (Itr 0 n) (gName k) tYes te [k] σ H Q := fun D hD => by
  refine lc_it walk_range (fun i H2 => Ext T [] H H2 ∧ ∃ ys, H2 D = some (.lst ys) ∧ ys.length = i ∧ ImAll H2 ys ((List.range i).map f)) ⟨.new hD, [], upd_same, rfl, .nil⟩ (fun _ _ _ _ => True.intro) (fun i x H1 H' hi h y => ?_) (fun H1 h => ?_)
  · obtain ⟨e1, e2⟩ := y
    subst e1
    subst e2
    obtain ⟨h1, ys, h3, h4, h5⟩ := h
    refine ⟨wipe1, step i H' hi h1 _ fun v H2 e hv => ?_⟩
    have h3' := lst.x h3 e
    refine ⟨ys, h3', by omega, (h1.trans e).own (.of hD) h3', ys ++ [v], upd_same, by rw [List.length_append, h4]; rfl, ?_⟩
    have eD : Ext T [D] H2 (upd H2 D (.lst (ys ++ [v]))) := Ext.mut (by simp) h3'
    have hLD : Lsts H2 [D] := fun b hb => ⟨ys, by rw [List.mem_singleton.mp hb]; exact h3'⟩
    rw [List.range_succ, List.map_append]
    exact (ImAll.ext eD hLD _ _ (h5.x e)).snoc (Im.ext eD hLD _ _ hv)
  · obtain ⟨h1, ys, h3, h4, h5⟩ := h
    exact q D H1 (.of hD) h1 ⟨ys, h3, h5⟩
/-! ### rows of three numbers -/
theorem Im.rw' {H : Hp} {v : V} {r : Rw} (h : Im H v (rwD r)) : ∃ a, v = .ref a ∧ SqP H a [.int (r.1 : Int), .int (r.2.1 : Int), .int r.2.2] := by
  obtain ⟨a, xs, rfl, h1, h2⟩ := Im.tup' h
  cases h2 with
  | cons a1 h2 =>
    cases h2 with
    | cons a2 h2 =>
      cases h2 with
      | cons a3 h2 =>
        cases h2
        rw [a1.int', a2.int', a3.int'] at h1
        exact ⟨a, rfl, h1⟩
theorem rw_new {H : Hp} {a : Addr} {r : Rw} (h : H a = some (.tup [.int (r.1 : Int), .int (r.2.1 : Int), .int r.2.2])) : Im H (.ref a) (rwD r) := .new3 (.int _) (.int _) (.int _) h
theorem rwD_inj {a b : Rw} (h : rwD a = rwD b) : a = b := by
  obtain ⟨a1, a2, a3⟩ := a
  obtain ⟨b1, b2, b3⟩ := b
  unfold rwD at h
  injection h with h
  injection h with h1 h
  injection h with h2 h
  injection h with h3 _
  injection h1 with h1
  injection h2 with h2
  injection h3 with h3
  have e1 : a1 = b1 := Int.ofNat.inj h1
  have e2 : a2 = b2 := Int.ofNat.inj h2
  have e3 : a3 = b3 := h3
  rw [e1, e2, e3]
theorem rw_get {H : Hp} {xs : List V} {rs : List Rw} {i : Nat} {x : V} (h : ImAll H xs (rs.map rwD)) (hx : xs[i]? = some x) : ∃ r, rs[i]? = some r ∧ Im H x (rwD r) := by
  obtain ⟨d, h1, h2⟩ := h.get' hx
  rw [List.getElem?_map] at h1
  obtain ⟨r, h3, rfl⟩ := Option.map_eq_some_iff.mp h1
  exact ⟨r, h3, h2⟩
theorem rd_grow {K : PySem.W.Frag} {σ : L2.St} {H : Hp} {i j l : Nat} {v : V} {r : Rw} {Q : L2.St → Hp → Prop} (h : Im H v (rwD r)) (q : Q (((σ.set i (some (.int (r.1 : Int)))).set j (some (.int (r.2.1 : Int)))).set l (some (.int r.2.2))) H) :
    gTupU K 3 (gCons (gName i) (gCons (gName j) (gCons (gName l) gNil))) v σ H Q := by
  obtain ⟨a, rfl, h1⟩ := h.rw'
  exact rd_gtup (SqP.t h1) rfl (rd_gcons (rd_name (rd_gcons (rd_name (rd_gcons (rd_name (rd_gnil q)))))))
theorem at_fn {m : List Int} {k : Nat} (h : k < m.length) : atI (m.map V.int) (k : Int) = some (.int (fn m k)) := by
  refine atI_nat ?_
  rw [List.getElem?_map, List.getElem?_eq_getElem h]
  unfold fn
  rw [List.getD_eq_getElem?_getD, List.getElem?_eq_getElem h]
  rfl
theorem map_set {α β : Type} {f : α → β} (l : List α) (k : Nat) (v : α) : (l.map f).set k (f v) = (l.set k v).map f := by rw [List.map_set]
theorem ixN_nat {n k : Nat} (h : k < n) : ixN n (k : Int) = some k := by
  unfold ixN
  rw [if_pos (by omega), if_pos (by omega), Int.toNat_natCast]
/-- one of a list written there, drawn -/
theorem rd_pickL {K : PySem.W.Frag} {T : List (Addr × Str)} {σ : L2.St} {H : Hp} {Q : VK} {xs : List V} {l t : Addr} {i : Nat} {m : Int} (hσ : σ[i]? = some (some (.ref t))) (hT : Tape l H t) (hl : (xs.length : Int) = m) (h0 : 0 < m) (h1 : m ≤ 1000)
    (q : ∀ c ∈ xs, ∀ H', Ext T [t] H H' → Tape l H' t → Q c H') :
    xs.length ≤ sizeLine ∧ ∀ p, H p = none → tCall (spTake T) [] E0 (tCons (tVar i) (tCons (tC (.int m)) tNil)) σ (upd H p (.lst xs)) fun y H2 => rIx K (.ref p) y H2 Q := by
  refine ⟨Nat.le_trans (show _ ≤ 1000 by omega) (by decide), fun p np => ?_⟩
  have e1 : Ext T [] H (upd H p (.lst xs)) := .new np
  have T1 := hT.ext e1
  have h2 : (upd H p (.lst xs)) p = some (.lst xs) := upd_same
  have hpt : p ≠ t := (hT.ne (.of np)).1
  generalize upd H p _ = H1 at e1 T1 h2 ⊢
  refine ⟨_, hσ, l, t, m, rfl, h0, by omega, T1, fun d H2 hd0 hd1 e2 T2 => ?_⟩
  obtain ⟨c, hc1, _, hc2⟩ := at_in (l := xs) hd0 (by omega)
  exact rd_ixL (SqL.of (e2.lst (by simpa using hpt) h2)) hc1 (q c hc2 H2 (e1.any.trans e2) T2)
theorem Ls.app {T : List (Addr × Str)} {H : Hp} {a : Addr} {xs : List V} {ds : List PyData} {v : V} {d : PyData} (ha : H a = some (.lst xs)) (hi : ImAll H xs ds) (hv : Im H v d) : Ls (upd H a (.lst (xs ++ [v]))) a (ds ++ [d]) ∧ Ext T [a] H (upd H a (.lst (xs ++ [v]))) := by
  have eD : Ext T [a] H (upd H a (.lst (xs ++ [v]))) := Ext.mut (by simp) ha
  have hLD : Lsts H [a] := fun b hb => ⟨xs, by rw [List.mem_singleton.mp hb]; exact ha⟩
  exact ⟨⟨_, upd_same, (ImAll.ext eD hLD _ _ hi).snoc (Im.ext eD hLD _ _ hv)⟩, eD⟩

open PySem PySem.Spec PyProof.Rows L2
/-! ### causes: where they lead -/
def cz (c : List (Option Rw)) (k : Nat) : Option Rw := c.getD k none
theorem cz_set {c : List (Option Rw)} {k j : Nat} {v : Option Rw} (hk : k < c.length) : cz (c.set k v) j = if j = k then v else cz c j := by
  unfold cz
  rw [List.getD_eq_getElem?_getD, List.getD_eq_getElem?_getD, List.getElem?_set]
  by_cases h : j = k
  · subst h
    rw [if_pos rfl, if_pos rfl, if_pos hk]
    rfl
  · rw [if_neg (fun e => h e.symm), if_neg h]
inductive Path (c : List (Option Rw)) : Nat → Nat → Nat → Int → Prop
  | nil (k : Nat) : Path c k k 0 0
  | cons {k j p : Nat} {L : Int} {r : Rw} : cz c k = some r → Path c r.2.1 j p L → Path c k j (p + 1) (r.2.2 + L)
structure Caus (ws : List Rw) (m : List Int) (c : List (Option Rw)) : Prop where
  own : ∀ k r, cz c k = some r → r.1 = k ∧ r ∈ ws ∧ fn m k ≤ fn m r.2.1 + r.2.2
  pos : ∀ k p L, Path c k k (p + 1) L → 0 < L
theorem Caus.path {ws : List Rw} {m : List Int} {c : List (Option Rw)} (h : Caus ws m c) : ∀ {k j p : Nat} {L : Int}, Path c k j p L → fn m k ≤ fn m j + L
  | _, _, _, _, .nil k => by omega
  | _, _, _, _, .cons h1 t => by
    have h2 := (h.own _ _ h1).2.2
    have h3 := Caus.path h t
    omega
theorem Caus.step {ws : List Rw} {m : List Int} {c : List (Option Rw)} {w : Rw} (h : Caus ws m c) (hw : w ∈ ws) (hm : w.1 < m.length) (hc : w.1 < c.length) (hlt : fn m w.1 < fn m w.2.1 + w.2.2) :
    Caus ws (m.set w.1 (fn m w.2.1 + w.2.2)) (c.set w.1 (some w)) := by
  have up : ∀ k, fn m k ≤ fn (m.set w.1 (fn m w.2.1 + w.2.2)) k := fun k => by
    rw [fn_set hm]
    by_cases e : k = w.1
    · rw [if_pos e, e]
      omega
    · rw [if_neg e]
      exact Int.le_refl _
  have key : ∀ {a b p : Nat} {L : Int}, Path (c.set w.1 (some w)) a b p L → fn m a < fn m b + L ∨ Path c a b p L := by
    intro a b p L hp
    induction hp with
    | nil k => exact .inr (.nil k)
    | @cons k j p L r h1 t ih =>
      have hle : fn m r.2.1 ≤ fn m j + L := by
        rcases ih with ih | ih
        · omega
        · exact h.path ih
      rw [cz_set hc] at h1
      by_cases e : k = w.1
      · rw [if_pos e] at h1
        injection h1 with h1
        subst h1
        rw [e]
        exact .inl (by omega)
      · rw [if_neg e] at h1
        have h2 := (h.own _ _ h1).2.2
        rcases ih with ih | ih
        · exact .inl (by omega)
        · exact .inr (.cons h1 ih)
  refine ⟨fun k r hr => ?_, fun k p L hp => ?_⟩
  · rw [cz_set hc] at hr
    by_cases e : k = w.1
    · rw [if_pos e] at hr
      injection hr with hr
      subst hr
      refine ⟨e.symm, hw, ?_⟩
      have := up w.2.1
      rw [e, fn_set hm, if_pos rfl]
      omega
    · rw [if_neg e] at hr
      obtain ⟨h1, h2, h3⟩ := h.own k r hr
      refine ⟨h1, h2, ?_⟩
      have := up r.2.1
      rw [fn_set hm, if_neg e]
      omega
  · rcases key hp with hp | hp
    · omega
    · exact h.pos k p L hp
/-- in which round a moment was raised last -/
structure Rank (ws : List Rw) (i : Nat) (prev : Nat → Int) (m : List Int) (c : List (Option Rw)) (tt : Nat → Nat) : Prop where
  le : ∀ k, tt k ≤ i
  has : ∀ k, 1 ≤ tt k → ∃ r, cz c k = some r ∧ tt k ≤ tt r.2.1 + 1
  same : ∀ k, tt k < i → fn m k = prev k
  rnd : 1 ≤ i → ∀ r ∈ ws, prev r.2.1 + r.2.2 ≤ fn m r.1
structure InR (ws : List Rw) (i : Nat) (m0 : List Int) (t0 : Nat → Nat) (t : SS) (tt : Nat → Nat) : Prop where
  le : ∀ k, tt k ≤ i + 1
  up : ∀ k, t0 k ≤ tt k
  has : ∀ k, 1 ≤ tt k → ∃ r, cz t.c k = some r ∧ tt k ≤ tt r.2.1 + 1
  same : ∀ k, tt k ≤ i → fn t.m k = fn m0 k ∧ tt k = t0 k
  rais : ∀ k, t.r = some k → tt k = i + 1
  mup : ∀ k, fn m0 k ≤ fn t.m k
  cs : Caus ws t.m t.c
theorem inR_fold {ws : List Rw} {n i : Nat} {m0 : List Int} {t0 : Nat → Nat} {prev : Nat → Int} {c0 : List (Option Rw)} (hws : RwIn n ws) (R : Rank ws i prev m0 c0 t0) : ∀ {us : List Rw} {t : SS} {tt : Nat → Nat}, (∀ r ∈ us, r ∈ ws) → t.m.length = n + 1 → t.c.length = n + 1 → InR ws i m0 t0 t tt →
    ∃ tt', InR ws i m0 t0 (us.foldl SS.step t) tt'
  | [], t, tt, _, _, _, h => ⟨tt, h⟩
  | w :: us, t, tt, hu, hm, hc, h => by
    have hw := hu w List.mem_cons_self
    obtain ⟨h1, h2⟩ := hws w hw
    have hk : w.1 < t.m.length := by omega
    have hk2 : w.1 < t.c.length := by omega
    have hus : ∀ r ∈ us, r ∈ ws := fun r hr => hu r (List.mem_cons_of_mem _ hr)
    by_cases c : fn t.m w.1 < fn t.m w.2.1 + w.2.2
    · have e : t.step w = ⟨t.m.set w.1 (fn t.m w.2.1 + w.2.2), t.c.set w.1 (some w), some w.1⟩ := if_pos c
      have hj : i ≤ tt w.2.1 := Classical.byContradiction fun hlt => by
        obtain ⟨e1, e2⟩ := h.same w.2.1 (by omega)
        have e3 := R.same w.2.1 (by omega)
        have e4 := R.rnd (by omega) w hw
        have e5 := h.mup w.1
        omega
      refine inR_fold hws R (us := us) (t := t.step w) (tt := fun x => if x = w.1 then i + 1 else tt x) hus (by rw [e]; show (t.m.set _ _).length = _; rw [List.length_set]; exact hm) (by rw [e]; show (t.c.set _ _).length = _; rw [List.length_set]; exact hc) ?_
      have tup : ∀ x, tt x ≤ if x = w.1 then i + 1 else tt x := fun x => by
        by_cases ex : x = w.1
        · rw [if_pos ex]
          exact h.le x
        · rw [if_neg ex]
          exact Nat.le_refl _
      rw [e]
      refine ⟨fun k => ?_, fun k => Nat.le_trans (h.up k) (tup k), fun k hk1 => ?_, fun k hki => ?_, fun k hkr => ?_, fun k => ?_, h.cs.step hw hk hk2 c⟩
      · by_cases ex : k = w.1
        · rw [if_pos ex]
          exact Nat.le_refl _
        · rw [if_neg ex]
          exact h.le k
      · show ∃ r, cz (t.c.set w.1 (some w)) k = some r ∧ _
        rw [cz_set hk2]
        by_cases ex : k = w.1
        · rw [if_pos ex, if_pos ex]
          refine ⟨w, rfl, ?_⟩
          have := tup w.2.1
          omega
        · rw [if_neg ex, if_neg ex]
          rw [if_neg ex] at hk1
          obtain ⟨r, h3, h4⟩ := h.has k hk1
          refine ⟨r, h3, ?_⟩
          have := tup r.2.1
          omega
      · by_cases ex : k = w.1
        · rw [if_pos ex] at hki
          omega
        · rw [if_neg ex] at hki ⊢
          obtain ⟨h3, h4⟩ := h.same k hki
          refine ⟨?_, h4⟩
          show fn (t.m.set _ _) k = _
          rw [fn_set hk, if_neg ex]
          exact h3
      · injection hkr with hkr
        rw [if_pos hkr.symm]
      · show _ ≤ fn (t.m.set _ _) k
        rw [fn_set hk]
        by_cases ex : k = w.1
        · rw [if_pos ex, ex]
          have := h.mup w.1
          omega
        · rw [if_neg ex]
          exact h.mup k
    · have e : t.step w = t := if_neg c
      have e2 : (w :: us).foldl SS.step t = us.foldl SS.step t := by rw [List.foldl_cons, e]
      rw [e2]
      exact inR_fold hws R hus hm hc h
theorem settle_cause {rs : List Rw} {n : Nat} (hn : RwIn n rs) : ∀ (f i : Nat) (s : SS) (prev : Nat → Int) (tt : Nat → Nat), f + i = n + 1 → f ≠ 0 → s.m.length = n + 1 → s.c.length = n + 1 → Caus (allRows rs n) s.m s.c → Rank (allRows rs n) i prev s.m s.c tt →
    ∀ k, (settleF (allRows rs n) f s).r = some k → ∃ prev' tt', Caus (allRows rs n) (settleF (allRows rs n) f s).m (settleF (allRows rs n) f s).c ∧ Rank (allRows rs n) (n + 1) prev' (settleF (allRows rs n) f s).m (settleF (allRows rs n) f s).c tt' ∧ tt' k = n + 1
  | 0, _, _, _, _, _, h, _, _, _, _ => absurd rfl h
  | f + 1, i, s, prev, tt, hf, _, hm, hc, C, R => by
    intro k hk
    have F := fold_ok (s := ⟨s.m, s.c, none⟩) (allRows_in hn) hm
    obtain ⟨tt', I⟩ := inR_fold (us := allRows rs n) (t := ⟨s.m, s.c, none⟩) (tt := tt) (allRows_in hn) R (fun _ h => h) hm hc
      ⟨fun k => Nat.le_succ_of_le (R.le k), fun _ => Nat.le_refl _, R.has, fun k _ => ⟨rfl, rfl⟩, (fun k h => by cases h), fun _ => Int.le_refl _, C⟩
    have R2 : Rank (allRows rs n) (i + 1) (fn s.m) (s.pass (allRows rs n)).m (s.pass (allRows rs n)).c tt' := ⟨I.le, I.has, fun k h => (I.same k (by omega)).1, fun _ r hr => F.rows r hr⟩
    unfold settleF at hk ⊢
    by_cases hr : (s.pass (allRows rs n)).r = none
    · rw [if_pos hr] at hk
      rw [hr] at hk
      cases hk
    · rw [if_neg hr] at hk ⊢
      by_cases hz : f = 0
      · subst hz
        have hk : (s.pass (allRows rs n)).r = some k := hk
        show ∃ prev' tt', Caus _ (s.pass (allRows rs n)).m (s.pass (allRows rs n)).c ∧ Rank _ _ _ (s.pass (allRows rs n)).m (s.pass (allRows rs n)).c _ ∧ _
        have hi : i + 1 = n + 1 := by omega
        rw [hi] at R2
        exact ⟨_, tt', I.cs, R2, by rw [I.rais k hk, hi]⟩
      · exact settle_cause hn f (i + 1) _ _ _ (by omega) hz (F.len.trans hm) (F.clen.trans hc) I.cs R2 k hk
theorem cz_nones (n k : Nat) : cz (List.replicate n none) k = none := by
  unfold cz
  rw [List.getD_eq_getElem?_getD, List.getElem?_replicate]
  by_cases h : k < n
  · rw [if_pos h]
    rfl
  · rw [if_neg h]
    rfl
/-! ### the way along the causes -/
def cs (c : List (Option Rw)) (k : Nat) : Rw := (cz c k).getD (0, 0, 0)
def nxc (c : List (Option Rw)) (k : Nat) : Nat := (cs c k).2.1
def itc (c : List (Option Rw)) (k : Nat) : Nat → Nat
  | 0 => k
  | p + 1 => nxc c (itc c k p)
def ringL (c : List (Option Rw)) (k p : Nat) : List Rw := (List.range p).map fun i => cs c (itc c k i)
theorem itc_add (c : List (Option Rw)) (k p : Nat) : ∀ q, itc c (itc c k p) q = itc c k (p + q)
  | 0 => rfl
  | q + 1 => by
    show nxc c (itc c (itc c k p) q) = nxc c (itc c k (p + q))
    rw [itc_add c k p q]
theorem itc_front (c : List (Option Rw)) (k q : Nat) : itc c (nxc c k) q = itc c k (q + 1) := by
  have := itc_add c k 1 q
  rw [show itc c k 1 = nxc c k from rfl] at this
  rw [this, Nat.add_comm]
/-- the causes lead on for ever, and back -/
structure Cyc (n : Nat) (c : List (Option Rw)) (k p : Nat) : Prop where
  pos : 1 ≤ p
  back : itc c k p = k
  some : ∀ q, ∃ r, cz c (itc c k q) = some r
  le : ∀ q, itc c k q ≤ n
  sm : p ≤ n + 1
theorem pigeon : ∀ (n : Nat) (v : Nat → Nat), (∀ i, i ≤ n + 1 → v i ≤ n) → ∃ a b, a < b ∧ b ≤ n + 1 ∧ v a = v b := by
  intro n
  induction n with
  | zero =>
    intro v h
    refine ⟨0, 1, by omega, by omega, ?_⟩
    have h0 := h 0 (by omega)
    have h1 := h 1 (by omega)
    omega
  | succ n ih =>
    intro v h
    by_cases e : ∃ a, a ≤ n + 1 ∧ v a = v (n + 2)
    · obtain ⟨a, h1, h2⟩ := e
      exact ⟨a, n + 2, by omega, by omega, h2⟩
    · -- the last value is taken once: close the gap
      have hne : ∀ a, a ≤ n + 1 → v a ≠ v (n + 2) := fun a h1 h2 => e ⟨a, h1, h2⟩
      have hl := h (n + 2) (by omega)
      obtain ⟨a, b, h1, h2, h3⟩ := ih (fun i => if v i < v (n + 2) then v i else v i - 1) (fun i hi => by
        have h4 := h i (by omega)
        have h5 := hne i hi
        by_cases hlt : v i < v (n + 2)
        · show (if v i < v (n + 2) then v i else v i - 1) ≤ n
          rw [if_pos hlt]
          omega
        · show (if v i < v (n + 2) then v i else v i - 1) ≤ n
          rw [if_neg hlt]
          omega)
      refine ⟨a, b, h1, by omega, ?_⟩
      have h3 : (if v a < v (n + 2) then v a else v a - 1) = (if v b < v (n + 2) then v b else v b - 1) := h3
      have ha := hne a (by omega)
      have hb := hne b (by omega)
      by_cases p1 : v a < v (n + 2)
      · by_cases p2 : v b < v (n + 2)
        · rw [if_pos p1, if_pos p2] at h3
          exact h3
        · rw [if_pos p1, if_neg p2] at h3
          omega
      · by_cases p2 : v b < v (n + 2)
        · rw [if_neg p1, if_pos p2] at h3
          omega
        · rw [if_neg p1, if_neg p2] at h3
          omega
theorem cyc_of {ws : List Rw} {n k : Nat} {prev : Nat → Int} {m : List Int} {c : List (Option Rw)} {tt : Nat → Nat} (hws : RwIn n ws) (C : Caus ws m c) (R : Rank ws (n + 1) prev m c tt) (hk : k ≤ n) (ht : tt k = n + 1) :
    (∀ q, q ≤ n → (∃ r, cz c (itc c k q) = some r) ∧ itc c k q ≤ n) ∧ itc c k (n + 1) ≤ n ∧ ∃ p, Cyc n c (itc c k (n + 1)) p := by
  have chain : ∀ q, q ≤ n + 1 → itc c k q ≤ n ∧ n + 1 - q ≤ tt (itc c k q) := by
    intro q
    induction q with
    | zero => exact fun _ => ⟨hk, by rw [show itc c k 0 = k from rfl, ht]; exact Nat.le_refl _⟩
    | succ q ih =>
      intro hq
      obtain ⟨h1, h2⟩ := ih (by omega)
      obtain ⟨r, h3, h4⟩ := R.has (itc c k q) (by omega)
      obtain ⟨h5, h6, h7⟩ := C.own _ _ h3
      have e : itc c k (q + 1) = r.2.1 := by
        show (cs c (itc c k q)).2.1 = _
        unfold cs
        rw [h3]
        rfl
      rw [e]
      exact ⟨(hws r h6).2, by omega⟩
  have has : ∀ q, q ≤ n → ∃ r, cz c (itc c k q) = some r := fun q hq => by
    obtain ⟨h1, h2⟩ := chain q (by omega)
    obtain ⟨r, h3, _⟩ := R.has (itc c k q) (by omega)
    exact ⟨r, h3⟩
  refine ⟨fun q hq => ⟨has q hq, (chain q (by omega)).1⟩, (chain (n + 1) (Nat.le_refl _)).1, ?_⟩
  obtain ⟨a, b, h1, h2, h3⟩ := pigeon n (itc c k) fun i hi => (chain i hi).1
  have per : ∀ q, itc c k (a + q) = itc c k (b + q) := fun q => by rw [← itc_add, ← itc_add, h3]
  -- the place after all the steps is one that was there before
  have hc : itc c k (n + 1) = itc c k (a + (n + 1 - b)) := by
    rw [per, show b + (n + 1 - b) = n + 1 by omega]
  -- every place from a on is one from a to b
  have fold : ∀ q, ∃ q', a ≤ q' ∧ q' < b ∧ itc c k (a + q) = itc c k q' := by
    intro q
    induction q using Nat.strongRecOn with
    | _ q ih =>
      by_cases hq : a + q < b
      · exact ⟨a + q, by omega, hq, rfl⟩
      · obtain ⟨q', h4, h5, h6⟩ := ih (a + q - b) (by omega)
        refine ⟨q', h4, h5, ?_⟩
        have h7 := per (a + q - b)
        rw [show b + (a + q - b) = a + q by omega] at h7
        rw [← h6, h7]
  refine ⟨b - a, by omega, ?_, fun q => ?_, fun q => ?_, by omega⟩
  · rw [itc_add, show n + 1 + (b - a) = b + (n + 1 - a) by omega, ← per, show a + (n + 1 - a) = n + 1 by omega]
  · rw [hc, itc_add, show a + (n + 1 - b) + q = a + (n + 1 - b + q) by omega]
    obtain ⟨q', h4, h5, h6⟩ := fold (n + 1 - b + q)
    rw [h6]
    exact has q' (by omega)
  · rw [hc, itc_add, show a + (n + 1 - b) + q = a + (n + 1 - b + q) by omega]
    obtain ⟨q', h4, h5, h6⟩ := fold (n + 1 - b + q)
    rw [h6]
    exact (chain q' (by omega)).1
theorem cs_of {c : List (Option Rw)} {k : Nat} {r : Rw} (h : cz c k = some r) : cs c k = r := by
  unfold cs
  rw [h]
  rfl
theorem path_ring {c : List (Option Rw)} : ∀ {p k : Nat}, (∀ q, q < p → ∃ r, cz c (itc c k q) = some r) → Path c k (itc c k p) p ((ringL c k p).map (·.2.2)).sum
  | 0, k, _ => .nil k
  | p + 1, k, h => by
    obtain ⟨r, hr⟩ := h 0 (by omega)
    have e1 : ringL c k (p + 1) = cs c k :: ringL c (nxc c k) p := by
      unfold ringL
      rw [List.range_succ_eq_map, List.map_cons, List.map_map]
      congr 1
      exact List.map_congr_left fun i _ => by
        show cs c (itc c k (i + 1)) = _
        rw [itc_front]
    have hr' : cz c k = some r := hr
    have e2 : nxc c k = r.2.1 := by
      unfold nxc
      rw [cs_of hr']
    have ih := path_ring (c := c) (p := p) (k := nxc c k) fun q hq => by
      rw [itc_front]
      exact h (q + 1) (by omega)
    rw [e1, List.map_cons, List.sum_cons, cs_of hr', ← itc_front]
    rw [e2] at ih ⊢
    exact .cons hr' ih
/-! ### rings -/
def knownB (rs : List Rw) (r : Rw) : Bool := decide (r ∈ rs) || (decide (r.2.1 = 0) && decide (r.2.2 = 0))
def behindL (ring : List Rw) : List Rw := ring.drop 1 ++ ring.take 1
def linkB (ring : List Rw) : Bool := (ring.zip (behindL ring)).all fun p => decide (p.1.2.1 = p.2.1)
def sumL (ring : List Rw) : Int := (ring.map (·.2.2)).sum
def ringB (rs ring : List Rw) : Bool := !ring.isEmpty && (linkB ring && (ring.all (knownB rs) && decide (0 < sumL ring)))
theorem behind_len (ring : List Rw) : (behindL ring).length = ring.length := by
  unfold behindL
  rw [List.length_append, List.length_drop, List.length_take]
  omega
theorem behind_get {ring : List Rw} {i : Nat} (h : i < ring.length) : (behindL ring)[i]? = ring[(i + 1) % ring.length]? := by
  unfold behindL
  by_cases e : i + 1 < ring.length
  · rw [List.getElem?_append_left (by rw [List.length_drop]; omega), List.getElem?_drop, Nat.mod_eq_of_lt e, Nat.add_comm]
  · have e2 : i + 1 = ring.length := by omega
    rw [List.getElem?_append_right (by rw [List.length_drop]; omega), List.length_drop, e2, Nat.mod_self, show i - (ring.length - 1) = 0 by omega, List.getElem?_take_of_lt (by omega)]
theorem link_iff {ring : List Rw} : linkB ring = true ↔ ∀ i r s, ring[i]? = some r → ring[(i + 1) % ring.length]? = some s → r.2.1 = s.1 := by
  unfold linkB
  rw [List.all_eq_true]
  constructor
  · intro h i r s hr hs
    have hi : i < ring.length := (List.getElem?_eq_some_iff.mp hr).1
    have hz : (ring.zip (behindL ring))[i]? = some (r, s) := by
      rw [List.getElem?_zip_eq_some]
      exact ⟨hr, by rw [behind_get hi]; exact hs⟩
    exact of_decide_eq_true (h (r, s) (List.mem_of_getElem? hz))
  · intro h x hx
    obtain ⟨i, hi⟩ := List.mem_iff_getElem?.mp hx
    rw [show x = (x.1, x.2) from rfl, List.getElem?_zip_eq_some] at hi
    obtain ⟨h1, h2⟩ := hi
    have hl : i < ring.length := (List.getElem?_eq_some_iff.mp h1).1
    rw [behind_get hl] at h2
    exact decide_eq_true (h i _ _ h1 h2)
theorem ringL_len (c : List (Option Rw)) (k p : Nat) : (ringL c k p).length = p := by
  unfold ringL
  rw [List.length_map, List.length_range]
theorem ringL_get {c : List (Option Rw)} {k p i : Nat} (h : i < p) : (ringL c k p)[i]? = some (cs c (itc c k i)) := by
  unfold ringL
  rw [List.getElem?_map, List.getElem?_range h]
  rfl
theorem ringL_snoc (c : List (Option Rw)) (k p : Nat) : ringL c k (p + 1) = ringL c k p ++ [cs c (itc c k p)] := by
  unfold ringL
  rw [List.range_succ, List.map_append]
  rfl
theorem ringL_rot {c : List (Option Rw)} {k p b : Nat} (hb : b ≤ p) (hp : itc c k p = k) : (ringL c k p).drop b ++ (ringL c k p).take b = ringL c (itc c k b) p := by
  refine List.ext_getElem? fun i => ?_
  by_cases h : i < p
  · rw [ringL_get h, itc_add]
    by_cases h2 : i < p - b
    · rw [List.getElem?_append_left (by rw [List.length_drop, ringL_len]; exact h2), List.getElem?_drop, ringL_get (by omega)]
    · rw [List.getElem?_append_right (by rw [List.length_drop, ringL_len]; omega), List.length_drop, ringL_len, List.getElem?_take_of_lt (by omega), ringL_get (by omega)]
      have e : itc c k (b + i) = itc c (itc c k p) (i - (p - b)) := by
        rw [itc_add, show p + (i - (p - b)) = b + i by omega]
      rw [e, hp]
  · rw [List.getElem?_eq_none (by rw [List.length_append, List.length_drop, List.length_take, ringL_len]; omega), List.getElem?_eq_none (by rw [ringL_len]; omega)]
theorem Cyc.rot {n : Nat} {c : List (Option Rw)} {k p b : Nat} (h : Cyc n c k p) : Cyc n c (itc c k b) p := by
  refine ⟨h.pos, ?_, fun q => ?_, fun q => ?_, h.sm⟩
  · rw [itc_add, Nat.add_comm, ← itc_add, h.back]
  · rw [itc_add]
    exact h.some _
  · rw [itc_add]
    exact h.le _
theorem known_all {rs : List Rw} {n : Nat} {r : Rw} (h : r ∈ allRows rs n) : knownB rs r = true := by
  unfold knownB
  rcases List.mem_append.mp h with h | h
  · rw [decide_eq_true h]
    rfl
  · obtain ⟨k, _, rfl⟩ := List.mem_map.mp h
    rw [decide_eq_true (show ((k, 0, 0) : Rw).2.1 = 0 from rfl), decide_eq_true (show ((k, 0, 0) : Rw).2.2 = 0 from rfl), Bool.and_self, Bool.or_true]
theorem ring_ok {rs : List Rw} {n m' : Nat} {m : List Int} {c : List (Option Rw)} {k p : Nat} (C : Caus (allRows rs n) m c) (h : Cyc m' c k p) : ringB rs (ringL c k p) = true := by
  have one : ∀ q, ∃ r, cz c (itc c k q) = some r ∧ cs c (itc c k q) = r ∧ r.1 = itc c k q ∧ r ∈ allRows rs n ∧ r.2.1 = itc c k (q + 1) := fun q => by
    obtain ⟨r, hr⟩ := h.some q
    obtain ⟨h1, h2, _⟩ := C.own _ _ hr
    refine ⟨r, hr, cs_of hr, h1, h2, ?_⟩
    show _ = (cs c (itc c k q)).2.1
    rw [cs_of hr]
  have hp := h.pos
  unfold ringB
  rw [show (!(ringL c k p).isEmpty) = true by
    cases e : ringL c k p with
    | nil =>
      have := ringL_len c k p
      rw [e] at this
      simp at this
      omega
    | cons a b => rfl]
  rw [show linkB (ringL c k p) = true by
    rw [link_iff]
    intro i r s hr hs
    have hi : i < p := by
      have := (List.getElem?_eq_some_iff.mp hr).1
      rw [ringL_len] at this
      exact this
    rw [ringL_get hi] at hr
    injection hr with hr
    rw [ringL_len, ringL_get (Nat.mod_lt _ (by omega))] at hs
    injection hs with hs
    obtain ⟨r1, _, e1, _, _, e2⟩ := one i
    rw [← hr, ← hs, e1, e2]
    obtain ⟨r2, _, e3, e4, _, _⟩ := one ((i + 1) % p)
    rw [e3, e4]
    by_cases hl : i + 1 < p
    · rw [Nat.mod_eq_of_lt hl]
    · have e5 : i + 1 = p := by omega
      rw [e5, Nat.mod_self, h.back]
      rfl]
  rw [show (ringL c k p).all (knownB rs) = true by
    rw [List.all_eq_true]
    intro r hr
    obtain ⟨i, hi, rfl⟩ := List.mem_map.mp hr
    obtain ⟨r1, _, e1, _, e2, _⟩ := one i
    rw [e1]
    exact known_all e2]
  rw [show decide (0 < sumL (ringL c k p)) = true by
    obtain ⟨p', rfl⟩ : ∃ p', p = p' + 1 := ⟨p - 1, by omega⟩
    have h1 := path_ring (c := c) (p := p' + 1) (k := k) fun q _ => h.some q
    rw [h.back] at h1
    exact decide_eq_true (C.pos _ _ _ h1)]
  rfl
/-- what the search tells of a ring -/
theorem settle_ring {rs : List Rw} {n k : Nat} (hn : RwIn n rs) (hk : (settleF (allRows rs n) (n + 1) (SS.zero n)).r = some k) :
    Caus (allRows rs n) (settleF (allRows rs n) (n + 1) (SS.zero n)).m (settleF (allRows rs n) (n + 1) (SS.zero n)).c ∧
    (∀ q, q ≤ n → (∃ r, cz (settleF (allRows rs n) (n + 1) (SS.zero n)).c (itc (settleF (allRows rs n) (n + 1) (SS.zero n)).c k q) = some r) ∧ itc (settleF (allRows rs n) (n + 1) (SS.zero n)).c k q ≤ n) ∧
    ∃ p, Cyc n (settleF (allRows rs n) (n + 1) (SS.zero n)).c (itc (settleF (allRows rs n) (n + 1) (SS.zero n)).c k (n + 1)) p := by
  obtain ⟨prev, tt, C, R, ht⟩ := settle_cause hn (n + 1) 0 (SS.zero n) (fun _ => 0) (fun _ => 0) (by omega) (by omega) List.length_replicate List.length_replicate
    ⟨(fun k r h => by
      rw [show cz (SS.zero n).c k = none from cz_nones _ _] at h
      cases h), (fun k p L h => by
      cases h with
      | cons h1 _ =>
        rw [show cz (SS.zero n).c k = none from cz_nones _ _] at h1
        cases h1)⟩
    ⟨fun _ => Nat.le_refl _, fun k h => by omega, fun k h => by omega, fun h => by omega⟩ k hk
  obtain ⟨_, _, _, h4⟩ := settle_ok hn
  obtain ⟨h1, h2, h3⟩ := cyc_of (allRows_in hn) C R (h4 k hk).1 ht
  exact ⟨C, h1, h3⟩

open PySem PySem.Spec PyProof.Rows L2
/-! ### the least of a list of data: one of its elements -/
theorem vals_at : ∀ {xs : List V} {us : List Value} {i : Nat} {u : Value}, Vals xs us → us[i]? = some u → ∃ x, xs[i]? = some x ∧ RelV x u
  | _, _, _, _, .nil, h => by simp at h
  | _, _, 0, _, .cons r _, h => by
    have h := Option.some.inj h
    exact ⟨_, rfl, h ▸ r⟩
  | _, _, i + 1, _, .cons _ t, h => by
    obtain ⟨x, h1, h2⟩ := vals_at (i := i) t (by simpa using h)
    exact ⟨x, by simpa using h1, h2⟩
def rMinA (K : PySem.W.Frag) : List V → Hp → VK → Prop := fun vs H Q => ∃ (a : Addr) (xs : List V) (ds : List PyData), vs = [.ref a] ∧ SqL K H a xs ∧ DpAll K H xs ds ∧ ds ≠ [] ∧ PySem.W.AlikeAll ds ∧ PyData.depthAll ds ≤ 60 ∧ ∀ (i : Nat) (y : V), xs[i]? = some y → Q y H
theorem call_minA {X : Cx} (K : PySem.W.Frag) (hK : X.K = K) (hc : X.calm = true) (hu : X.A.units + 64 < cLine) : CallR X (.builtin "min") (rMinA K) := by
  subst hK
  intro pins s σ H vs us Q I r h
  obtain ⟨a, xs, ds, rfl, hs, hd, hne, hal, hdep, q⟩ := h
  cases r with
  | cons r t =>
    cases t
    cases r
    obtain ⟨its, rv, hl, hz⟩ := I.list hs
    obtain ⟨as, hr⟩ := Dp.readsAll I ds xs its hd rv
    cases ds with
    | nil => exact absurd rfl hne
    | cons d ds =>
      refine PySem.W.min_list_data (I.ok.hd hc) hl.isList hr hal (by omega) fun i v h' tk bs hv hrd hk => ?_
      obtain ⟨y, hy, ry⟩ := vals_at rv (show its[i]? = some v by simpa using hv)
      exact ⟨y, H, I.kept (t' := tk) hk, ry, q i y hy⟩
theorem call_sumU {X : Cx} (K : PySem.W.Frag) (hK : X.K = K) (hc : X.calm = true) : CallR X (.builtin "sum") (rSum K) := by
  subst hK
  exact cr_sum hc
theorem mt_indexU {X : Cx} (K : PySem.W.Frag) (hK : X.K = K) (hu : X.A.units + 65 < cLine) : MtR X "list.index" (rIndexD K) := by
  subst hK
  exact mt_indexD hu
def tTru (K : PySem.W.Frag) (ta : TE) : TT := fun σ H Q => ta σ H fun x H' => ∃ k, TruV K x H' k ∧ Q k H'
theorem pt_truU {X : Cx} (K : PySem.W.Frag) (hK : X.K = K) {e : Expr} {t : TE} (h : PE X e t) (he : ∀ whole, isTrue e X.env whole = (do let v ← whole; standAt e.pos; holding [v] (truthy v)) := by intro _; rfl) : PT X e (tTru K t) := by
  subst hK
  exact pt_truth h he
theorem pi_zipU {X : Cx} (K : PySem.W.Frag) (hK : X.K = K) {e e2 : Expr} {ta : TA} {p pos tpos : Pos} {elts : List Expr} {kk : Nat} (hg : Gl X "zip") (hm : X.mg "zip" = none) (ha : PA X [e, e2] ta)
    (h1 : starEach [e, e2] X.env = (false, eval e X.env) :: starEach [e2] X.env := by rfl) (h2 : (backTo pos (starEach [e2] X.env)).any (·.1) = false := by rfl) : PI X (.Tuple elts kk tpos) (.Call (.Name "zip" p) [e, e2] [] pos) (iZip K ta) := by
  subst hK
  exact pi_zip hg hm ha h1 h2
section
variable {K : PySem.W.Frag} {σ : L2.St} {H : Hp} {Q : VK} {te : TE}
theorem rd_tru {Q : Bool → Hp → Prop} (q : te σ H fun x H' => ∃ k, TruV K x H' k ∧ Q k H') : tTru K te σ H Q := q
theorem rd_truL {a : Addr} {xs : List V} {Q : Bool → Prop} (h : SqL K H a xs) (q : Q (!xs.isEmpty)) : ∃ k, TruV K (.ref a) H k ∧ Q k := ⟨_, .inl ⟨xs, h, rfl⟩, q⟩
theorem rd_while {c : TT} {tb : TS} {nx bk ct : L2.St → Hp → Prop} {rt : VK} (W : Nat → L2.St → Hp → Prop) {m0 : Nat} (h0 : W m0 σ H) (hs : ∀ m σ H, W m σ H → c σ H fun b H1 => if b = true then ∃ N : L2.St → Hp → Prop, (∀ σ' H', N σ' H' → ∃ m', m' < m ∧ W m' σ' H') ∧ tb ⟨N, rt, nx, N⟩ σ H1 else nx σ H1) : tWhile c tb ⟨nx, rt, bk, ct⟩ σ H := ⟨W, ⟨m0, h0⟩, hs⟩
theorem rd_zip {ta : TA} {R : It → Hp → Prop} (q : ta σ H fun vs H1 => ∃ a b xs ys, vs = [V.ref a, V.ref b] ∧ SqL K H1 a xs ∧ SqL K H1 b ys ∧ R (Itz K a b) H1) : iZip K ta σ H R := q
theorem rd_sum {a : Addr} {ns : List Int} (h : SqL K H a (ns.map V.int)) (q : Q (.int ns.sum) H) : rSum K [.ref a] H Q := ⟨a, ns, rfl, h, q⟩
theorem rd_aug {D : Ends} {i : Nat} {ti : TIp} {v : V} (h : σ[i]? = some (some v)) (q : te σ H fun y H1 => ti v y H1 fun z H2 => D.nx (σ.set i (some z)) H2) : tAug i te ti D σ H := ⟨v, h, q⟩
theorem rd_ipadd {i j : Int} (q : Q (.int (i + j)) H) : ipI (fun i j => i + j) (.int i) (.int j) H Q := ⟨i, j, rfl, rfl, q⟩
end
/-- over two lists of one length -/
theorem lcg_zipF (T : List (Addr × Str)) {K : PySem.W.Frag} {σ : L2.St} {H : Hp} {Q : VK} {g : TG} {te : TE} {vs : List Nat} {a b : Addr} {xs ys : List V} (h1 : SqL K H a xs) (h2 : SqL K H b ys) (hl : xs.length = ys.length) (hs : xs.length < sizeLine) (f : Nat → V)
    (step : ∀ (i : Nat) (x y : V) (t : Addr), xs[i]? = some x → ys[i]? = some y → ∀ H', Ext T [] H H' → H' t = some (.tup [x, y]) → ∀ R : VK, (∀ H2, Ext T [] H' H2 → R (f i) H2) → g (.ref t) (wipe σ vs) H' fun σ2 H2 => wipe σ2 vs = wipe σ vs ∧ tYes σ2 H2 fun b H3 => if b = true then te σ2 H3 R else True)
    (q : ∀ D H2, Nw H D → Ext T [] H H2 → H2 D = some (.lst ((List.range xs.length).map f)) → Q (.ref D) H2) : LcG (Itz K a b) g tYes te vs σ H Q := fun D hD => by
  refine lc_it (walk_zip (n := xs.length) (by rw [← hl, Nat.min_self]) (xs := xs) (ys := ys)) (fun i H2 => Ext T [] H H2 ∧ H2 D = some (.lst ((List.range i).map f))) ⟨.new hD, upd_same⟩ (fun i H2 _ h => ⟨h.1.seqL (by simp) h1, h.1.seqL (by simp) h2⟩) (fun i x H1 H' hi h y => ?_) (fun H1 h => ?_)
  · obtain ⟨t, u, v, rfl, nt, rfl, hu, hv⟩ := y
    obtain ⟨e1, e2⟩ := h
    obtain ⟨nt2, e3, ht⟩ := alT (T := T) nt [u, v]
    generalize upd H1 t _ = H' at e3 ht ⊢
    have h3 := step i u v t hu hv H' (e1.trans e3) ht
    have hD2 := lst.x e2 e3
    have h4 := h3 (fun y H4 => ∃ acc, H4 D = some (.lst acc) ∧ acc.length < sizeLine ∧ (Ext T [] H (upd H4 D (.lst (acc ++ [y]))) ∧ (upd H4 D (.lst (acc ++ [y]))) D = some (.lst ((List.range (i + 1)).map f)))) (fun H2 e4 => by
      have hD3 := lst.x hD2 e4
      refine ⟨_, hD3, ?_, ((e1.trans e3).trans e4).own (.of hD) hD3, ?_⟩
      · rw [List.length_map, List.length_range]
        omega
      · rw [upd_same, List.range_succ, List.map_append]
        rfl)
    exact h4
  · exact q D H1 (.of hD) h.1 h.2

section
open PySem PySem.Spec PyProof.Rows L2
/-! ### the pairs of a dict whose keys are tuples, just made -/
section
variable {X : Cx} {pins : List (Addr × Obj)} {σ : L2.St} {H : Hp} {s : Shared} {d : Addr} {o : Obj}
theorem frzT2 {kvs : List (List L2.Key × V)} (I : Inv X pins σ H s) (h : H d = some (.frz o (.dT kvs))) :
    (d == sysModules) = false ∧ s.heap.get? d = some o ∧ o.ExactDict ∧ ∃ (es : Array DictEntry) (ep : Nat), o.data = .dict es ep ∧ es.size = kvs.length ∧
      ∀ (i : Nat) (k : List L2.Key) (v : V), kvs[i]? = some (k, v) → ∃ (en : DictEntry) (q : Addr), es[i]? = some en ∧ en.key = .ref q ∧ H q = some (.tup (k.map kV)) ∧ RelV v en.val := by
  obtain ⟨hd, z, hs, xs, pr, o', es, ep, ho, hx, hdt, he, _⟩ := I.hok d _ h
  rw [hd] at ho
  cases ho
  refine ⟨hs, hd, hx, es, ep, hdt, ?_, fun i k v e => ?_⟩
  · have l1 : es.size = xs.length := size_of_entries he
    have l2 : kvs.length = xs.length := Paired.length pr
    omega
  · obtain ⟨b, hb, e1, e2, e3⟩ := paired_get pr e
    have q := entry_at he i
    rw [hb] at q
    exact ⟨_, b.2.1, q, rfl, e2, e3⟩
end
/-- the pairs, each a new tuple of the key's own tuple and the value -/
def ItiT (d : Addr) (o : Obj) (kvs : List (List L2.Key × V)) : It :=
  ⟨fun i H => H d = some (.frz o (.dT kvs)) ∧ i < kvs.length, fun i H x H' => ∃ (T : Addr) (k : List L2.Key) (v : V) (q : Addr), kvs[i]? = some (k, v) ∧ H q = some (.tup (k.map kV)) ∧ x = .ref T ∧ H T = none ∧ H' = upd H T (.tup [.ref q, v]), fun i H => H d = some (.frz o (.dT kvs)) ∧ kvs.length ≤ i⟩
section
variable {P : Program} {w : World} {K : PySem.W.Frag} {tg : Expr} {d : Addr} {o : Obj} {es : Array DictEntry} {ep : Nat}
theorem turn_itemsT {kvs : List (List L2.Key × V)} {elts : List Expr} {kk : Nat} {tpos : Pos} (it : Addr) (hod : o.data = .dict es ep) :
    Turn P w K (.Tuple elts kk tpos) (ItiT d o kvs) [it] it (fun i h => ∃ ok ov, IsItemIter h it d i kvs.length ep ok ov) where
  mem := by simp
  obj := fun i h st b hb => by
    have e : b = it := by simpa using hb
    subst e
    obtain ⟨ok, ov, e⟩ := st
    exact ⟨_, e, fun v z => nomatch z⟩
  keep := fun i h h' st k => let ⟨ok, ov, e⟩ := st; ⟨ok, ov, k it (by simp) _ e⟩
  item := by
    intro X hP hw hK hc i pins s σ H E I hf st hg
    subst hP hw hK
    obtain ⟨hd, hi⟩ := hg
    obtain ⟨hs, hgd, hx, es', ep', hdt, hsz, ent⟩ := frzT2 I hd
    obtain ⟨rfl, rfl⟩ := dict_ep hod hdt
    obtain ⟨⟨k, v⟩, hkv⟩ : ∃ p, kvs[i]? = some p := ⟨kvs[i], List.getElem?_eq_getElem hi⟩
    obtain ⟨en, q, hen, hkey, hq, hval⟩ := ent i k v hkv
    obtain ⟨ok, ov, he⟩ := st
    rw [← hsz] at he
    have hlt : it < s.heap.objs.size := Heap.lt_size he
    have hi' : i < es'.size := by omega
    have hen' : es'[i] = en := by
      rw [Array.getElem?_eq_getElem hi'] at hen
      exact Option.some.inj hen
    refine DT.nextI he ⟨_, hgd, hx, hdt⟩ hi' fun h' ho hT hz hk => ?_
    rw [hen'] at ho hT
    refine ⟨_, rfl, wpAny_letOwnedTupleGo_items (s := { s with heap := h' }) ho fun h'' he' sb => ?_⟩
    have hT2 : h''.get? s.heap.objs.size = some { cls := .type "tuple", data := .seq #[en.key, en.val] } := (sb.2 _ (Nat.ne_of_gt hlt)).trans hT
    have new : ObjOk X.prog X.w (upd H s.heap.objs.size (.tup [.ref q, v])) h'' s.heap.objs.size (.tup [.ref q, v]) :=
      ⟨by show 2 ≤ sizeLine; decide, [en.key, en.val], .cons (by rw [hkey]; rfl) (.cons hval .nil), ⟨_, hT2, rfl, _, rfl⟩⟩
    have I1 : Inv X pins σ (upd H s.heap.objs.size (.tup [.ref q, v])) { s with heap := h'' } :=
      I.turnedNew (t' := s.toks) (ch := [it]) (fun b ob hb e => (sb.2 b (by simpa using hb)).trans (hk b ob (by simpa using hb) e)) hf (Nat.le_refl _) new
    refine ⟨.ref s.heap.objs.size, _, I1, rfl, ⟨_, k, v, q, hkv, hq, rfl, I.hok.fresh (Nat.le_refl _), rfl⟩, ⟨en.key, en.val, ?_⟩, fun b hb => ?_⟩
    · rw [← hsz]; exact he'
    · have e : b = it := by simpa using hb
      rw [e, upd_ne (Nat.ne_of_lt hlt)]
      exact (hf it (by simp)).1
  done := by
    intro X hP hw hK hc i pins s σ H E I hf st hg
    subst hP hw hK
    obtain ⟨hd, hi⟩ := hg
    obtain ⟨f0, f1, f2, f3, f4, f5⟩ := hf it (by simp)
    obtain ⟨hs, hgd, hx, es', ep', hdt, hsz, ent⟩ := frzT2 I hd
    obtain ⟨rfl, rfl⟩ := dict_ep hod hdt
    obtain ⟨ok, ov, he⟩ := st
    rw [← hsz] at he
    exact DT.endI (I.ok.hd hc) he ⟨_, hgd, hx, hdt⟩ (by omega) fun h' eb => ⟨rfl, I.turned (t' := s.toks) (fun b ob hb e => eb b ob hb e) f0 f1 f3 f4 f5⟩
  self := fun A i s Q E st h => let ⟨_, _, e⟩ := st; PySem.W.kcp_self e h
end
theorem walk_itemsT {d : Addr} {o : Obj} {kvs : List (List L2.Key × V)} : Walk (ItiT d o kvs) kvs.length (fun H => H d = some (.frz o (.dT kvs))) (fun i H x H' => ∃ (T : Addr) (k : List L2.Key) (v : V) (q : Addr), kvs[i]? = some (k, v) ∧ H q = some (.tup (k.map kV)) ∧ x = .ref T ∧ H T = none ∧ H' = upd H T (.tup [.ref q, v])) :=
  ⟨fun _ _ hi q => ⟨q, hi⟩, fun _ q => ⟨q, Nat.le_refl _⟩, fun _ _ _ _ _ _ y => y⟩
def iItemsT (td : TE) : TI := fun σ H R => td σ H fun x H1 => ∃ (d : Addr) (kvs : List (List L2.Key × V)), x = .ref d ∧ H1 d = some (.dT kvs) ∧ ∀ o, R (ItiT d o kvs) (upd H1 d (.frz o (.dT kvs)))
theorem pi_itemsT {X : Cx} {e : Expr} {td : TE} {apos cpos : Pos} {elts : List Expr} {kk : Nat} {tpos : Pos} (he : PE X e td) (hbase : attributeBase e "items" X.env (eval e X.env) = eval e X.env := by rfl) (hline : (apos.endLine == cpos.line) = true := by rfl) :
    PI X (.Tuple elts kk tpos) (.Call (.Attribute e "items" apos) [] [] cpos) (iItemsT td) := by
  refine ⟨fun pins s σ H R I h => ?_⟩
  refine wpAny_Call_method (T := "dict") (id := "dict.items") hbase rfl hline F.plainAttrs_dict F.slot_dict_items F.type_dict_items (thn (he.run pins s σ H _ I h) fun u s1 ⟨x, H1, I1, rx, d, kvs, ex, hd, q⟩ => ?_)
  subst ex
  obtain rfl : u = Value.ref d := rx
  obtain ⟨od, I0⟩ := I1.lock hd trivial
  have q := q od
  have hd' : (upd H1 d (.frz od (.dT kvs))) d = some (.frz od (.dT kvs)) := upd_same
  generalize upd H1 d (.frz od (.dT kvs)) = H2 at I0 q hd'
  obtain ⟨hs, hgd, hx, es, ep, hdt, hsz, ent⟩ := frzT2 I0 hd'
  have hm : DT.Raw s1.heap d es ep := ⟨_, hgd, hx, hdt⟩
  refine ⟨hm.typeIs, fun a e => by cases e; exact ⟨_, hgd, hx.2.1⟩, ?_⟩
  have I2 : Inv X pins σ H2 { s1 with heap := s1.heap.push { cls := .type "dict_items", data := .fields #[.ref d] } } := I0.kept (t' := s1.toks) fun b ob q => Heap.get?_push_of_some _ q
  have fin : wpAny (model X.prog X.w) X.A (pyIter (.ref s1.heap.objs.size)) (PIE X pins σ (.Tuple elts kk tpos) R) X.xe { s1 with heap := s1.heap.push { cls := .type "dict_items", data := .fields #[.ref d] } } := by
    refine DT.iterI (d := d) ⟨_, Heap.get?_push_size _ rfl, rfl, rfl⟩ (hm.push _) (pi_one (tk := s1.toks) I2 _ (turn_itemsT _ hdt) ⟨.none, .none, ?_⟩ q)
    rw [← hsz]
    exact Heap.get?_push_size _ rfl
  show wpAny _ _ (callWith cpos (.builtin "dict.items") [.ref d] [] []) _ X.xe s1
  exact method_meetsIn F.slot_dict_items F.entry_dict_items rfl (PySem.evalArgs_none ⟨rfl, hm.typeIs, F.args_dict_items_1 _, _, DT.meetsItems (es := es) (ep := ep) hs, ⟨hm, fin⟩⟩)
end
/-! ### a slice that is the whole tuple: the tuple itself -/
namespace HTW
open PySem PySem.W PySem.Calls PyProof.Rows HT
section
variable {prog : Program} {w : World} {A : Around} {E : Value → Shared → Prop} {s : Shared}
theorem tupleIsExact_ {t : Addr} {items : Array Value} {Q : Bool → Shared → Prop} (ht : IsTup s.heap t items) (h : Q true s) : wpAny (model prog w) A (Builtin.Tuple.tupleIsExact (.ref t)) Q E s := by
  obtain ⟨o, ho, hc, n, hd⟩ := id ht
  unfold Builtin.Tuple.tupleIsExact
  refine wpAny_bind (wpAny_typeOf ht.typeIs ?_)
  exact wpAny_pure h
theorem getItem_tuple_whole {t sl : Addr} {items : Array Value} {vl vu : Value} {lo hi : Option Int} {Q : Value → Shared → Prop} (ht : IsTup s.heap t items) (hs : s.heap.IsSliceOf sl vl vu .none) (pl : IsPart vl lo) (pu : IsPart vu hi)
    (hw : sIx items.size 0 lo = 0 ∧ sIx items.size items.size hi = items.size)
    (h : Q (.ref t) s) : wpAny (model prog w) A (getItem (.ref t) (.ref sl)) Q E s := by
  obtain ⟨os, hos, hcs, hds⟩ := id hs
  have hTs : s.TypeIs (.ref sl) "slice" := ⟨os, hos, hcs⟩
  unfold getItem
  try with_reducible refine wpAny_holding ?_
  first | refine wpAny_bind (wpAny_pure ?_) | skip
  refine wpAny_bind (wpAny_sequenceKey ht.typeIs (by decide) ?_)
  refine wpAny_bind (wpAny_callSpecial?_slot (name := Str.ofString "__getitem__") ht.typeIs PyProof.Rows.slot_tuple_getitem
    (wpAny_call_entry PyProof.Rows.slot_tuple_getitem ht.typeIs entry_tuple_getitem ?_ (args_tuple_getitem _ _)))
  show wpAny _ _ (Builtin.Tuple.tupleItemsOf (.ref t) >>= _) _ _ s
  refine wpAny_bind (tupleItemsOf_ ht ?_)
  refine wpAny_bind (wpAny_typeOf hTs ?_)
  rw [if_pos (by decide)]
  refine wpAny_bind (sliceApplied_gen hs pl pu ?_)
  have hyes : (((sIx items.size 0 lo : Nat) : Int) == 0 && (1 : Int) == 1 && (sIx items.size items.size hi - sIx items.size 0 lo) == items.size) = true := by
    rw [hw.1, hw.2]
    simp
  show wpAny _ _ (if (((sIx items.size 0 lo : Nat) : Int) == 0 && (1 : Int) == 1 && (sIx items.size items.size hi - sIx items.size 0 lo) == items.size) = true then _ else _) _ _ s
  rw [if_pos hyes]
  refine wpAny_bind (tupleIsExact_ ht ?_)
  rw [if_pos rfl]
  first
    | exact wpAny_bind (wpAny_rule (wpAny_bind (wpAny_pure (wpAny_pure ⟨_, rfl, wpAny_pure h⟩))))
    | exact wpAny_bind (wpAny_rule (wpAny_pure ⟨_, rfl, wpAny_pure h⟩))
    | exact wpAny_bind (wpAny_rule (wpAny_bind (wpAny_pure ⟨_, rfl, wpAny_pure h⟩)))
end
end HTW
section
open PySem PySem.Spec PyProof.Rows L2
def rSlW (K : PySem.W.Frag) : V → Option Int → Option Int → Hp → VK → Prop := fun x lo hi H Q => ∃ a xs, x = .ref a ∧ SqT K H a xs ∧ HT.sIx xs.length 0 lo = 0 ∧ HT.sIx xs.length xs.length hi = xs.length ∧ Q (.ref a) H
theorem sl_tupW {X : Cx} : SlR X (rSlW X.K) := by
  intro pins s σ H x v vl vu lo hi sl Q I rx hs pl pu h
  obtain ⟨a, xs, rfl, hx, hw1, hw2, q⟩ := h
  cases rx
  obtain ⟨its, r, ht, hz⟩ := I.tuple hx
  have hlen : its.toArray.size = xs.length := by rw [List.size_toArray]; exact r.length.symm
  refine ⟨"tuple", _, PyProof.Rows.slot_tuple_getitem.lookup, ht.typeIs, ?_⟩
  exact HTW.getItem_tuple_whole ht hs pl pu (by rw [hlen]; exact ⟨hw1, hw2⟩) ⟨.ref a, H, I, rfl, q⟩
def rSlU2 (K : PySem.W.Frag) : V → Option Int → Option Int → Hp → VK → Prop := fun x lo hi H Q => rSlU K x lo hi H Q ∨ rSlW K x lo hi H Q
theorem sl_U2 {X : Cx} (K : PySem.W.Frag) (hK : X.K = K) : SlR X (rSlU2 K) := by
  have h := sl_U (X := X) K hK
  subst hK
  exact h.or sl_tupW
end

/-! an own exception whose __init__ says super().__init__(f"..") and keeps its one argument -/
section
open PySem PySem.W PySem.Calls PyProof.Rows PySem.HandSPX
def supA (fld : Str) (p1 p2 : Pos) : Arguments := { posonlyargs := [], args := [{ arg := "self", annotation := none, pos := p1 }, { arg := fld, annotation := none, pos := p2 }], vararg := none, kwonlyargs := [], kw_defaults := [], kwarg := none, defaults := [] }
def supB (fld : Str) (parts : List Expr) (ps : List Pos) (q1 q2 q3 q4 : Pos) : List Stmt :=
  [.Expr (.Call (.Attribute (.Call (.Name "super" (ps.getD 0 ⟨0, 0, 0, 0⟩)) [] [] (ps.getD 1 ⟨0, 0, 0, 0⟩)) "__init__" (ps.getD 2 ⟨0, 0, 0, 0⟩)) [.JoinedStr parts (ps.getD 3 ⟨0, 0, 0, 0⟩)] [] (ps.getD 4 ⟨0, 0, 0, 0⟩)) (ps.getD 5 ⟨0, 0, 0, 0⟩),
   .Assign [.Attribute (.Name "self" q1) fld q2] (.Name fld q3) q4]
def supS (fld : Str) : Scope := { kind := .function, names := [(PySem.Str.ofString "self", .local), (fld, .local), (PySem.Str.ofString "__class__", .free), (PySem.Str.ofString "super", .globalImplicit)], isGenerator := false, isCoroutine := false, more := [] }
/-- a word or a number that an f-string shows -/
def Showable (v : Value) : Prop := (∃ z t, v = .str z t ∧ z.length ≤ 1000) ∨ ∃ i t, v = .int i t ∧ i.natAbs.log2 < 1920
/-- the f-string gives some text -/
def PartsOk (fld : Str) (parts : List Expr) (jp : Pos) : Prop := ∀ (prog : Program) (w : World) (A : Around) (E : Value → Shared → Prop) (qual : Str) (L a cc : Addr) (cd : Value) (s : Shared) (m : Str → Option Value) (v : Value) (Q : Value → Shared → Prop),
  s.heap.Ns L m → m fld = some v → Showable v → (∀ z tk t', Q (.str z tk) { s with toks := t' }) → wpAny (model prog w) A (eval (.JoinedStr parts jp) (ksEnv qual (supS fld) L a cd cc)) Q E s
def pz (ps : List Pos) (i : Nat) : Pos := ps.getD i ⟨0, 0, 0, 0⟩
def CallOk (fld : Str) (parts : List Expr) (ps : List Pos) : Prop := ∀ (qual : Str) (L a cc : Addr) (cd : Value), ∃ pl : Sem Bool,
  eval (.Call (.Attribute (.Call (.Name "super" (pz ps 0)) [] [] (pz ps 1)) "__init__" (pz ps 2)) [.JoinedStr parts (pz ps 3)] [] (pz ps 4)) (ksEnv qual (supS fld) L a cd cc) = (do
      let ov ← attributeBase (.Call (.Name "super" (pz ps 0)) [] [] (pz ps 1)) "__init__" (ksEnv qual (supS fld) L a cd cc) (eval (.Call (.Name "super" (pz ps 0)) [] [] (pz ps 1)) (ksEnv qual (supS fld) L a cd cc))
      standAt (pz ps 2).atName
      let (f, first) ← holding [ov] (getMethod ov "__init__" pl)
      callWith (pz ps 4) f first (backTo (pz ps 4) (starEach [.JoinedStr parts (pz ps 3)] (ksEnv qual (supS fld) L a cd cc))) [])
structure SupTxt (P : Program) (K : Frag) (mg : Str → Option Value) (nm fld : Str) (C fI : Addr) : Prop where
  gC : mg nm = some (.ref C)
  cls : ∃ nm q N bs bm sn sub ab col dd k0 k1 k2 k3 k5, K.lookup C = some (excClassObj nm q C N bs bm true sn sub ab col dd k0 k1 k2 k3 k5 "ValueError.__new__") ∧ refsVE bm = true
  sa : findIn K (.ref C) "__setattr__" = some (some (.builtin "object.__setattr__"))
  ga : findIn K (.ref C) "__getattribute__" = some (some (.builtin "BaseException.__getattribute__"))
  gg : findIn K (.ref C) "__getattr__" = some none
  noN : findIn K (.ref C) fld = some none
  iC : findIn K (.ref C) "__init__" = some (some (.ref fI))
  tC : typeIn K (.ref fI) = some (.type "function")
  kC : keepIn K (.ref C) = true
  exC : subIn K (.ref C) (.type "BaseException") = some true
  tyC : typeIn K (.ref C) = some (.type "type")
  hdC : hasDictIn K C = true
  te : exmOne K (.ref C) (.ref C) = some true
  sup : ks_superIn K C C "__init__" = some (some (.builtin "ValueError.__init__"))
  subV : subIn K (.ref C) (.type "ValueError") = some true
  selfC : mroIn K C (.ref C) = some true
  gsup : nsIn K mainGlobals "super" = some none
  opq : nsIn K cStatics "thirdparty.any" = some none
  htop : (P.main.scope.names.lookup ("super" : Str)).isSome = false
  fn : ∃ (oc : Value) (od : Option Addr) (doc pm kV : Value) (an : Option Addr) (cda cc : Addr) (ct : Value) (osl : Array (Option Value)) (p1 p2 q1 q2 q3 q4 : Pos) (ps : List Pos) (parts : List Expr) (qual : Str),
    K.lookup fI = some ⟨oc, od, .func (ksFn "__init__" qual (supA fld p1 p2) (supB fld parts ps q1 q2 q3 q4) (supS fld) .none kV doc pm an (.ref cda) ct cc), osl⟩ ∧ codeIn K (.ref cda) qual = true ∧
    (∃ ccl cdd vs ccs file tf, K.lookup cda = some ⟨ccl, cdd, .fields vs, ccs⟩ ∧ vs[2]? = some (.str file tf) ∧ ((P.main.file : Str) == file) = true) ∧
    (∃ cl cld csl, K.lookup cc = some ⟨cl, cld, .cell (some (.ref C)), csl⟩) ∧ PartsOk fld parts (pz ps 3) ∧ CallOk fld parts ps
theorem kept_but {K : Frag} {h h' : Heap} {x : Addr} (X : K.In h) (hx : K.lookup x = none) (k : ∀ b o, b ≠ x → h.get? b = some o → h'.get? b = some o) : K.In h' := fun a o e =>
  k a o (fun z => by rw [z, hx] at e; cases e) (X a o e)
/-- what __init__ leaves of a fresh exception at x -/
structure InitEnd (h h' : Heap) (x C dx : Addr) (fld : Str) (v : Value) : Prop where
  keep : ∀ b o, b ≠ x → h.get? b = some o → h'.get? b = some o
  obj : ∃ t1 : Addr, h'.get? x = some { cls := .ref C, dict := some dx, data := .fields #[.ref t1, .none, .none, .none, .bool false, .none] }
  dbig : h.objs.size ≤ dx
  dne : dx ≠ x
  ns : h'.Ns1 dx (fun y => if y = fld then some v else none)
structure OwnMade (h h' : Heap) (e C d : Addr) (fld : Str) (v : Value) : Prop where
  keep : ∀ b o, h.get? b = some o → h'.get? b = some o
  new : h.objs.size ≤ e
  obj : ∃ oe vs, h'.get? e = some oe ∧ oe.cls = .ref C ∧ oe.dict = some d ∧ oe.data = .fields vs ∧ vs[1]? = some .none
  dbig : h.objs.size ≤ d
  dne : d ≠ e
  ns : h'.Ns1 d (fun y => if y = fld then some v else none)
theorem one_size (v : Value) : [v].length ≤ sizeLine := by
  rw [sizeLine_eq]
  exact (by decide : 1 ≤ 16777216)
theorem ld_ks {M : Model} {s : Shared} {name : Str} {scope : Scope} {L a cc : Addr} {cd : Value} {m : Str → Option Value} {x : Str} {pos : Pos} {v : Value} {Q : Value → Shared → Prop} {A : Around} {E : Value → Shared → Prop} (hn : s.heap.Ns L m) (hv : m x = some v) (h : Q v s)
    (hk : scope.kind = .function) (hl : (ksEnv name scope L a cd cc).kindOf x = some .local) (hd : (x == ("__debug__" : Str)) = false) :
    wpAny M A (eval (.Name x pos) (ksEnv name scope L a cd cc)) Q E s := wpAny_Name (wpAny_loadName_local hk hl hn hv h) hd
theorem len_small {z : Str} (h : z.length ≤ 100000) : z.length ≤ sizeLine := Nat.le_trans h (by rw [sizeLine_eq]; decide)
end
section
open PySem PySem.W PySem.Calls PyProof.Rows PySem.HandSPX
section
variable {prog : Program} {w : World} {A : Around} {E : Value → Shared → Prop} {qual fld : Str} {L a cc : Addr} {cd : Value} {s : Shared} {m : Str → Option Value} {v : Value}
theorem fmt_fld {pos p : Pos} {Q : Value → Shared → Prop} (hn : s.heap.Ns L m) (hv : m fld = some v) (hs : Showable v) (hl : (ksEnv qual (supS fld) L a cd cc).kindOf fld = some .local) (hd : (fld == ("__debug__" : Str)) = false)
    (h : ∀ (z : Str) tk t', z.length ≤ 2000 → Q (.str z tk) { s with toks := t' }) : wpAny (model prog w) A (eval (.FormattedValue (.Name fld p) (-1) none pos) (ksEnv qual (supS fld) L a cd cc)) Q E s := by
  refine wpAny_FormattedValue_plain (ld_ks hn hv ?_ rfl hl hd)
  rcases hs with ⟨z, t, rfl, hz⟩ | ⟨i, t, rfl, hi⟩
  · exact wpAny_formatField_str (h z t _ (by omega)) (h z _ _ (by omega)) (len_small (by omega))
  · refine wpAny_formatField_int hi (h _ _ _ ?_)
    have e := int_text_length_le (k := 1920) (by decide) hi
    have e2 : (Str.ofString (toString i)).length = (toString i).length := PySem.ofString_length _
    show (Str.ofString (toString i)).length ≤ 2000
    omega
theorem join2 {c1 : Str} {k1 : Nat} {p1 p2 p3 jp : Pos} {Q : Value → Shared → Prop} (hn : s.heap.Ns L m) (hv : m fld = some v) (hs : Showable v) (hl : (ksEnv qual (supS fld) L a cd cc).kindOf fld = some .local) (hd : (fld == ("__debug__" : Str)) = false) (hc : c1.length ≤ 100)
    (h : ∀ z tk t', Q (.str z tk) { s with toks := t' }) : wpAny (model prog w) A (eval (.JoinedStr [.Constant (.str c1) k1 p1, .FormattedValue (.Name fld p2) (-1) none p3] jp) (ksEnv qual (supS fld) L a cd cc)) Q E s := by
  refine wpAny_JoinedStr ?_
  show wpAny _ _ (eval (.Constant (.str c1) k1 p1) _) _ _ _
  refine Constant_str ?_
  refine ⟨_, _, rfl, ?_, ?_⟩
  · rw [strLen_append]
    have e0 : Str.empty.length = 0 := rfl
    exact Nat.le_trans (show _ ≤ 100000 by omega) (by rw [sizeLine_eq]; decide)
  · show wpAny _ _ (eval (.FormattedValue (.Name fld p2) (-1) none p3) _) _ _ _
    refine fmt_fld (s := { s with toks := s.toks + 1 }) hn hv hs hl hd fun z tk t' hz => ?_
    have e : ((Str.empty ++ c1) ++ z).length ≤ 100000 := by
      rw [strLen_append, strLen_append]
      have e0 : Str.empty.length = 0 := rfl
      omega
    exact ⟨_, _, rfl, len_small e, len_small e, h _ _ _⟩
theorem join3 {c1 c2 : Str} {k1 k2 : Nat} {p1 p2 p3 p4 jp : Pos} {Q : Value → Shared → Prop} (hn : s.heap.Ns L m) (hv : m fld = some v) (hs : Showable v) (hl : (ksEnv qual (supS fld) L a cd cc).kindOf fld = some .local) (hd : (fld == ("__debug__" : Str)) = false) (hc : c1.length ≤ 100) (hc2 : c2.length ≤ 100)
    (h : ∀ z tk t', Q (.str z tk) { s with toks := t' }) : wpAny (model prog w) A (eval (.JoinedStr [.Constant (.str c1) k1 p1, .FormattedValue (.Name fld p2) (-1) none p3, .Constant (.str c2) k2 p4] jp) (ksEnv qual (supS fld) L a cd cc)) Q E s := by
  refine wpAny_JoinedStr ?_
  show wpAny _ _ (eval (.Constant (.str c1) k1 p1) _) _ _ _
  refine Constant_str ?_
  refine ⟨_, _, rfl, ?_, ?_⟩
  · rw [strLen_append]
    have e0 : Str.empty.length = 0 := rfl
    exact Nat.le_trans (show _ ≤ 100000 by omega) (by rw [sizeLine_eq]; decide)
  · show wpAny _ _ (eval (.FormattedValue (.Name fld p2) (-1) none p3) _) _ _ _
    refine fmt_fld (s := { s with toks := s.toks + 1 }) hn hv hs hl hd fun z tk t' hz => ?_
    have e : ((Str.empty ++ c1) ++ z).length ≤ 100000 := by
      rw [strLen_append, strLen_append]
      have e0 : Str.empty.length = 0 := rfl
      omega
    have e2 : (((Str.empty ++ c1) ++ z) ++ c2).length ≤ 100000 := by
      rw [strLen_append, strLen_append, strLen_append]
      have e0 : Str.empty.length = 0 := rfl
      omega
    refine ⟨_, _, rfl, len_small e, ?_⟩
    show wpAny _ _ (eval (.Constant (.str c2) k2 p4) _) _ _ _
    refine Constant_str ?_
    exact ⟨_, _, rfl, len_small e2, len_small e2, h _ _ _⟩
end
section
variable {prog : Program} {w : World} {A : Around} {E : Value → Shared → Prop} {R : Result → Shared → Prop} {s : Shared} {K : Frag} {mg : Str → Option Value} {nm fld : Str} {C fI : Addr}
theorem opaque_keep {h h' : Heap} {M : Model} (X : K.In h) (e : nsIn K cStatics "thirdparty.any" = some none) : Looks M h (opaqueClassAbove (.ref C)) none := looks_opaque X e
/-- ValueError.__init__ bound, called -/
theorem call_mw {h : Heap} {g : Array GenState} {d : Drawn} {t : Nat} {os : OsState} {nm q : Str} {N : Addr} {bs bm : List Value} {hdct : Bool} {sn : List Str} {sub : List Value} {ab : Bool} {col : Option Bool} {dd : Option Addr} {k0 k1 k2 k3 k5 : Option Value} {u e t0 : Addr} {rest : List Value} {Q : Value → Shared → Prop}
    (hC : h.get? C = some (excClassObj nm q C N bs bm hdct sn sub ab col dd k0 k1 k2 k3 k5 "ValueError.__new__")) (he : h.get? e = some (excO C t0)) (hu : h.get? u = some (kxs_mw "ValueError.__init__" e)) (hrest : rest.length ≤ sizeLine)
    (hq : ∀ h' t1, (∀ b o, b ≠ e → h.get? b = some o → h'.get? b = some o) → h'.get? e = some (excO C t1) → Q .none ⟨h', g, d, t, os⟩) :
    wpAny (model prog w) A (call (.ref u) rest) Q E ⟨h, g, d, t, os⟩ := by
  refine wpAny_call (codeAny_of_tree ?_)
  show wpAny _ A.in1 (callAny (.ref u) ⟨rest, []⟩) _ _ _
  simp only [callAny]
  refine wpAny_bind (wpAny_load hu ?_)
  simp only [kxs_mw, show (Value.type "method-wrapper" == Value.type "method" || Value.type "method-wrapper" == Value.type "builtin_function_or_method" || Value.type "method-wrapper" == Value.type "method-wrapper") = true by decide, if_true]
  refine KFB.if_so (by decide) ?_
  refine wpAny_bind (check_bound_init F.excBase_ValueError.toExcCallFacts hC he rfl ?_)
  refine wpAny_bind (wpAny_pure (wpAny_pure ?_))
  refine ⟨plainId_quiet F.excBase_ValueError.init.plain _, codeAny_builtin F.excBase_ValueError.initEntry ?_⟩
  rw [Around.under_plainId F.excBase_ValueError.init.plain _]
  wp_walk
  refine hq _ h.objs.size (fun b o hb ho => ?_) ?_
  · rw [Heap.get?_update_other _ _ (Ne.symm hb)]
    exact Heap.get?_push_of_some _ ho
  · rw [Heap.get?_update_self _ (Heap.get?_push_of_some _ he) rfl]
    rfl
end
end
section
open PySem PySem.W PySem.Calls PyProof.Rows PySem.HandSPX
section
variable {prog : Program} {w : World} {A : Around} {E : Value → Shared → Prop} {R : Result → Shared → Prop} {s : Shared} {K : Frag} {mg : Str → Option Value} {nm fld : Str} {C fI : Addr}
structure FldOk (fld : Str) : Prop where
  fs : ("self" : Str) ≠ fld
  fl : ((supS fld).names.lookup fld) = some .local
  lo : (supS fld).names.lookup ("self" : Str) = some .local
  fr : (supS fld).names.lookup ("__class__" : Str) = some .free
  gl : (supS fld).names.lookup ("super" : Str) = some .globalImplicit
  db : (fld == ("__debug__" : Str)) = false
  nc : ∀ x ∈ (supS fld).names, x.2 ≠ .cell
  bd : ∀ (qual : Str) (p1 p2 : Pos) (body : List Stmt) (kV doc pm : Value) (an : Option Addr) (cdv ct : Value) (cc : Addr) (x v : Value), bindArgs (ksFn "__init__" qual (supA fld p1 p2) body (supS fld) .none kV doc pm an cdv ct cc) ⟨[x, v], []⟩ = pure [(("self" : Str), x), (fld, v)]
theorem fld_word : FldOk "word" := ⟨by decide +kernel, rfl, rfl, rfl, rfl, by decide +kernel, by decide +kernel, fun _ _ _ _ _ _ _ _ _ _ _ _ _ => rfl⟩
theorem fld_line : FldOk "line" := ⟨by decide +kernel, rfl, rfl, rfl, rfl, by decide +kernel, by decide +kernel, fun _ _ _ _ _ _ _ _ _ _ _ _ _ => rfl⟩
theorem sup_init (T : SupTxt prog K mg nm fld C fI) {x t0 : Addr} {v : Value} (X : K.In s.heap) (hlim : s.heap.NoLimit) (hG : s.heap.Ns mainGlobals mg) (hB : ∃ mb, s.heap.Ns builtinsNs mb ∧ ∀ x : Str, x ≠ "__name__" → mb x = bootBuiltins x)
    (hx : s.heap.get? x = some (excO C t0)) (hnx : K.lookup x = none) (hroom : A.depth < recursionLimit) (hs : Showable v) (FO : FldOk fld)
    (hq : ∀ h' tk dx, InitEnd s.heap h' x C dx fld v → R (.ok (.ret .none)) { s with heap := h', toks := tk }) :
    codeAny (model prog w) A (.call (.ref fI) ⟨[.ref x, v], []⟩) R s := by
  obtain ⟨hfs, hfl, hlo, hfr, hgl, hdb, hnc, hbd⟩ := FO
  obtain ⟨oc, od, doc, pm, kV, an, cda, cc, ct, osl, p1, p2, q1, q2, q3, q4, ps, parts, qual, ho, hcd, ⟨ccl, cdd, cvs, ccs, file, tf, hcode, hvs, hfile⟩, ⟨cl, cld, csl, hcell⟩, hpo, hco⟩ := T.fn
  obtain ⟨nm', q, N, bs, bm, sn, sub, ab, col, dd, k0, k1, k2, k3, k5, hC, hbm⟩ := T.cls
  have hcl : clsIn K C = some { name := nm', bases := bs, mro := .ref C :: bm, ns := N, qualname := q, hasDict := true, slotNames := sn, subclasses := sub, abstract := ab, collection := col, hasDel := false } := by unfold clsIn; rw [hC] <;> rfl
  refine ks_codeAny_call_defAt (fd := ksFn "__init__" qual (supA fld p1 p2) (supB fld parts ps q1 q2 q3 q4) (supS fld) .none kV doc pm an (.ref cda) ct cc) (body := supB fld parts ps q1 q2 q3 q4) (binds := [("self", .ref x), (fld, v)]) hroom (X _ _ ho) rfl hlim (codeRec_of X hcd) rfl
    (BindsTo.of_eq (hbd _ _ _ _ _ _ _ _ _ _ _ _ _)) hnc (fun y hy => ?_) (fun h₀ hns hk => ?_)
  · rcases List.mem_cons.mp hy with rfl | hy
    · exact hlo
    · rw [List.mem_singleton.mp hy]
      exact hfl
  obtain ⟨hp, g, d, tk, os⟩ := s
  dsimp only at hns hk hx X hlim hG hB hq ⊢
  have X₀ : K.In h₀ := X.keeps hk
  have hself : ([(("self" : Str), Value.ref x), (fld, v)].reverse.lookup ("self" : Str)) = some (.ref x) := by
    show List.lookup _ [(fld, v), (("self" : Str), Value.ref x)] = _
    have e : (("self" : Str) == fld) = false := by simpa using hfs
    simp [List.lookup, e]
  have hfld : ([(("self" : Str), Value.ref x), (fld, v)].reverse.lookup fld) = some v := by
    show List.lookup _ [(fld, v), (("self" : Str), Value.ref x)] = _
    simp [List.lookup]
  generalize hm : (fun x_1 => [(("self" : Str), Value.ref x), (fld, v)].reverse.lookup x_1) = m at hns
  have hself : m "self" = some (.ref x) := by rw [← hm]; exact hself
  have hfld : m fld = some v := by rw [← hm]; exact hfld
  have hx₀ := hk _ _ hx
  have I₀ : InstAt h₀ x (excO C t0) C none := ⟨hx₀, rfl, rfl, trivial⟩
  have hD1 := X₀ _ _ hC
  show _root_.PySem.wpAt (model prog w) _ (.func _ (ksEnv qual (supS fld) hp.objs.size fI (.ref cda) cc)) (execs (supB fld parts ps q1 q2 q3 q4) (ksEnv qual (supS fld) hp.objs.size fI (.ref cda) cc)) _ _ _
  obtain ⟨pl, hco⟩ := hco qual hp.objs.size fI cc (.ref cda)
  refine ks_wpAt_execs_cons (ks_wpAt_Expr_any (ks_wpAt_MethodCall (pl := pl) ?_ hco))
  obtain ⟨mb, hB1, hB2⟩ := hB
  refine ks_wpAt_super_base (env := ksEnv qual (supS fld) hp.objs.size fI (.ref cda) cc) hgl hfr rfl rfl (X₀ _ _ ho) rfl rfl rfl (X₀ _ _ hcode) rfl hvs hfile T.htop ?_
  refine ks_loadName_global rfl hgl (loadGlobal_builtin (env := ksEnv qual (supS fld) hp.objs.size fI (.ref cda) cc) (hG.keeps hk) (mg_none_of X hG T.gsup) (hB1.keeps hk) ((hB2 _ (by decide +kernel)).trans (by first | boot_by_name | rfl | kernel_rfl)) ⟨rfl, ?_⟩)
  refine wpAny_loadName_free rfl hfr rfl ⟨_, X₀ _ _ hcell, rfl⟩ ?_
  refine wpAny_loadName_local rfl hlo hns hself ?_
  refine ks_wpAny_isType_cls hD1 rfl ⟨rfl, ?_⟩
  refine ks_wpAny_call_super hD1 rfl hx₀ rfl (fun c e => by cases e) (looks_mroIn X₀ T.selfC) (fun h₁ hso k₁ => ?_)
  have X₁ : K.In h₁ := X₀.keeps k₁
  have hx₁ := k₁ _ _ hx₀
  have I₁ : InstAt h₁ x (excO C t0) C none := ⟨hx₁, rfl, rfl, trivial⟩
  have hI : Looks (model prog w) h₁ (isInstance (.ref x) (.type "ValueError")) true := I₁.type.andThen (looks_subIn X₁ T.subV)
  have hsup := T.sup
  unfold ks_superIn at hsup
  rw [hcl] at hsup
  refine kxs_getMethod kxs_ValueError hso (looks_opaque X₁ T.opq) (l₀ := .ref C :: bm) ?_ rfl X₁ hsup hI (ks_ne X₁ I₁ hcl) rfl ?_
  · exact fun A Q E s k q => wpAny_bind ((looks_clsIn X₁ hcl) A _ E s k (wpAny_pure q))
  have hns₂ := (hns.keeps k₁).keeps (h' := h₁.push (kxs_mw "ValueError.__init__" x)) fun b o e => Heap.get?_push_of_some _ e
  have hmw : (h₁.push (kxs_mw "ValueError.__init__" x)).get? h₁.objs.size = some (kxs_mw "ValueError.__init__" x) := Heap.get?_push_at rfl rfl
  have k₂ : ∀ b o, h₀.get? b = some o → (h₁.push (kxs_mw "ValueError.__init__" x)).get? b = some o := fun b o e => Heap.get?_push_of_some _ (k₁ _ _ e)
  generalize hh2 : h₁.push (kxs_mw "ValueError.__init__" x) = h₂ at hns₂ hmw k₂
  refine kxs_callWith (i := "ValueError.__init__") (x := x) rfl (evalArgs_plain (spliced_cons ?_))
  refine hpo prog w _ _ qual _ _ _ _ _ m v _ hns₂ hfld hs fun z tk1 t1 => ?_
  refine spliced_nil ⟨hmw, ?_⟩
  have X₂ : K.In h₂ := X₀.keeps k₂
  have hx₂ := k₂ _ _ hx₀
  refine call_mw (X₂ _ _ hC) hx₂ hmw (one_size _) fun h₃ t3 k₃ hx₃ => ?_
  have X₃ : K.In h₃ := kept_but X₂ hnx k₃
  have hxL : hp.objs.size ≠ x := Nat.ne_of_gt (Heap.lt_size hx)
  have hns₃ : h₃.Ns hp.objs.size m := by
    obtain ⟨oL, es, ep, hL, r⟩ := hns₂
    exact ⟨oL, es, ep, k₃ _ _ hxL hL, r⟩
  show _root_.PySem.wpAt _ _ _ (execs _ _) _ _ _
  refine ks_wpAt_execs_cons (ks_wpAt_Assign_Attr ?_)
  refine wpAt_of_wpAny (ld_ks hns₃ hfld ?_ rfl hfl hdb)
  refine ld_ks hns₃ hself ?_ rfl hlo (by decide)
  refine set_plain X₃ (ox := excO C t3) (od := none) ⟨hx₃, rfl, rfl, trivial⟩ T.sa ?_
  refine exc_osa X₃ hx₃ hcl (show refsVE (.ref C :: bm) = true from hbm) rfl T.noN (fun h₄ tk₄ dx k₄ dn dne hx₄ hn₄ => ?_)
  show _root_.PySem.wpAt _ _ _ (execs _ _) _ _ _
  have z : hp.objs.size < h₃.objs.size := hns₃.lt
  refine wpAt_of_wpAny (wpAny_execs_nil (hq h₄ tk₄ dx ⟨fun b o hb e => k₄ b o hb (k₃ b o hb (k₂ b o (hk b o e))), ⟨t3, hx₄⟩, Nat.le_of_lt (Nat.lt_of_lt_of_le z dn), dne, hn₄⟩))
theorem sup_made (T : SupTxt prog K mg nm fld C fI) {v : Value} (X : K.In s.heap) (hlim : s.heap.NoLimit) (hG : s.heap.Ns mainGlobals mg) (hB : ∃ mb, s.heap.Ns builtinsNs mb ∧ ∀ x : Str, x ≠ "__name__" → mb x = bootBuiltins x) (hroom : A.depth + 1 < recursionLimit) (hs : Showable v)
    (FO : FldOk fld)
    (hq : ∀ h' tk e d, OwnMade s.heap h' e C d fld v → R (.ok (.ret (.ref e))) { s with heap := h', toks := tk }) :
    codeAny (model prog w) A (.call (.ref C) ⟨[v], []⟩) R s := by
  obtain ⟨nm, q, N, bs, bm, sn, sub, ab, col, dd, k0, k1, k2, k3, k5, hC, hbm⟩ := T.cls
  obtain ⟨hp, g, dr, tk, os⟩ := s
  have k : ∀ b o, hp.get? b = some o → ((hp.push (kdv_tup [v])).push (excO C hp.objs.size)).get? b = some o := fun b o e => Heap.get?_push_of_some _ (Heap.get?_push_of_some _ e)
  have hget : ((hp.push (kdv_tup [v])).push (excO C hp.objs.size)).get? (hp.objs.size + 1) = some (excO C hp.objs.size) := by heap_get
  have hnx : K.lookup (hp.objs.size + 1) = none := by
    cases e : K.lookup (hp.objs.size + 1) with
    | none => rfl
    | some o =>
      have z : hp.get? (hp.objs.size + 1) = some o := X _ _ e
      exact absurd (Nat.lt_of_succ_lt (Heap.lt_size z)) (Nat.lt_irrefl _)
  refine call_own F.excBase_ValueError (fun X => refsVE_contains X bm hbm) (X _ _ hC) (looks_findIn X T.iC) (fun self => bind_fn X self T.tC) (one_size v) ?_
  refine sup_init (s := ⟨(hp.push (kdv_tup [v])).push (excO C hp.objs.size), g, dr, tk, os⟩) T (X.keeps k) (hlim.keeps k) (hG.keeps k) (hB.imp fun mb h => ⟨h.1.keeps k, h.2⟩) hget hnx ?_ hs FO fun h' tk' dx ⟨k', hx, dn, dne, hns⟩ => ?_
  · show A.depth + 1 < recursionLimit
    exact hroom
  · have old : ∀ b o, hp.get? b = some o → h'.get? b = some o := fun b o e => k' b o (Nat.ne_of_lt (Nat.lt_succ_of_lt (Heap.lt_size e))) (k b o e)
    have z : hp.objs.size + 1 + 1 ≤ dx := by
      first
        | (simpa only [Heap.size_push] using dn)
        | exact dn
        | (have q := dn; rw [Heap.size_push, Heap.size_push] at q; exact q)
    obtain ⟨t1, hx⟩ := hx
    exact ⟨rfl, hq h' tk' (hp.objs.size + 1) dx ⟨old, Nat.le_succ _, ⟨_, _, hx, rfl, rfl, rfl, rfl⟩, Nat.le_trans (Nat.le_trans (Nat.le_succ _) (Nat.le_succ _)) z, dne, hns⟩⟩
end
end
section
open PySem PySem.Spec PyProof.Rows L2
theorem relO_fld {v : V} {v' : Value} (r : RelV v v') (fld f : Str) : RelO (List.lookup f [(fld, v)]) (if f = fld then some v' else none) := by
  by_cases hw : f = fld
  · subst hw
    rw [if_pos rfl]
    have q : List.lookup f [(f, v)] = some v := by simp [List.lookup]
    rw [q]
    exact r
  · rw [if_neg hw]
    have qw : (f == fld) = false := by simpa using hw
    have q2 : List.lookup f [(fld, v)] = none := by simp [List.lookup, qw]
    rw [q2]
    trivial
/-- a word or a small number -/
def ShowV (v : V) : Prop := (∃ z, v = .str z ∧ z.length ≤ 1000) ∨ ∃ i : Int, v = .int i ∧ i.natAbs.log2 < 1920
theorem showV_of {v : V} {u : Value} (h : ShowV v) (r : RelV v u) : Showable u := by
  rcases h with ⟨z, rfl, hz⟩ | ⟨i, rfl, hi⟩
  · obtain ⟨t, rfl⟩ := r
    exact .inl ⟨z, t, rfl, hz⟩
  · obtain ⟨t, rfl⟩ := r
    exact .inr ⟨i, t, rfl, hi⟩
section
variable {X : Cx} {C fI : Addr} {nm fld : Str}
/-- C(e) -/
def tMkSup (C : Addr) (fld : Str) (ta : TA) : L2.St → Hp → XK → Prop := fun σ H Q => ta σ H fun vs H1 => ∃ v, vs = [v] ∧ ShowV v ∧ ∀ d, H1 d = none → Q (.ref C) (some d) (upd H1 d (.xd [(fld, v)]))
theorem pmk_sup {a : Expr} {ta : TA} {p pos : Pos} {k : Nat} (FO : FldOk fld) (T : SupTxt X.prog X.K X.mg nm fld C fI) (hr : Room k X.A) (ha : PA X [a] ta) (hg : Gl X nm) (hdb : (nm == ("__debug__" : Str)) = false)
    (he : starEach (a :: []) X.env = (false, eval a X.env) :: starEach [] X.env) (hpl : (backTo pos (starEach [] X.env)).any (·.1) = false) :
    PMk X (.Call (.Name nm p) [a] [] pos) (tMkSup C fld ta) := by
  intro pins s σ H Q I h
  refine wpAny_Call_Name_kw (ld_glob I hg T.gC ?_ hdb)
  refine PySem.W.callWith_K (h₀ := X.base) I.ok.mod.kin T.kC (thn (ha.run pos pins s σ H _ I h) fun us s1 hh => ?_) he hpl
  obtain ⟨vs, H1, I1, r1, v, ev, hsv, q1⟩ := hh
  subst ev
  refine ⟨I1.kIn, ?_⟩
  cases r1 with
  | cons rv rn =>
    rename_i v' us'
    cases rn
    show wpAny _ _ (call (.ref C) [v']) _ _ _
    have hlim := I1.nolimit
    have hG := I1.mod.glob.keeps I1.bk
    have hB : ∃ mb, s1.heap.Ns builtinsNs mb ∧ ∀ x : Str, x ≠ "__name__" → mb x = bootBuiltins x := I1.mod.blt.imp fun mb h => ⟨h.1.keeps I1.bk, h.2⟩
    obtain ⟨hp, g, dr, tk, os⟩ := s1
    refine wpAny_call (sup_made T I1.kIn hlim hG hB (by have := hr.dp; omega) (showV_of hsv rv) FO fun h' tk' e d M => ?_)
    show MkP X pins σ Q (.ref e) ⟨h', g, dr, tk', os⟩
    obtain ⟨oe, fv, hoe, hc, hd, hdat, h1⟩ := M.obj
    have hns := M.ns
    obtain ⟨G', g1, g2⟩ := restrict h' fun b => decide (b ≠ e)
    have gk : ∀ b, b ≠ e → G'.get? b = h'.get? b := fun b hb => g1 b (decide_eq_true hb)
    have ge : G'.get? e = none := g2 e (by simp)
    have old : ∀ b o, hp.get? b = some o → G'.get? b = some o := fun b o q => (gk b (Nat.ne_of_lt (Nat.lt_of_lt_of_le (Heap.lt_size q) M.new))).trans (M.keep b o q)
    have ob : ObjOk X.prog X.w (upd H1 d (.xd [(fld, v)])) G' d (.xd [(fld, v)]) :=
      ⟨_, hns.at (fun o q => (gk d M.dne).trans q), fun f => relO_fld rv fld f⟩
    have J : Inv X pins σ (upd H1 d (.xd [(fld, v)])) ⟨G', g, dr, tk', os⟩ := I1.laid (t' := tk') old M.dbig ob
    refine ⟨e, oe, fv, ⟨G', g, dr, tk', os⟩, _, .ref C, some d, rfl, J, fun b o q => ?_, ge, hoe, ⟨hc, hd⟩, hdat, h1, ?_, rfl, I1.bare, raises_own T.exC T.tyC, q1 d (I1.hok.fresh M.dbig)⟩
    · by_cases hb : b = e
      · have q' : G'.get? b = some o := q
        rw [hb, ge] at q'; cases q'
      · exact (gk b hb).symm.trans q
    · rw [upd_ne (Ne.symm M.dne)]
      exact I1.hok.fresh M.new
/-- raise C(e) -/
def tRaiseSup (C : Addr) (fld : Str) (W : WX) (ta : TA) : TS := fun _ σ H => tMkSup C fld ta σ H fun cls d H' => W cls d σ H'
theorem ps_raiseSup {a : Expr} {ta : TA} {W : WX} {p pos pos2 : Pos} {k : Nat} (hc : X.calm = true) (FO : FldOk fld) (T : SupTxt X.prog X.K X.mg nm fld C fI) (hr : Room k X.A) (tk : Takes X W) (ha : PA X [a] ta) (hg : Gl X nm := by rfl) (hdb : (nm == ("__debug__" : Str)) = false := by decide)
    (he : starEach (a :: []) X.env = (false, eval a X.env) :: starEach [] X.env := by rfl) (hpl : (backTo pos (starEach [] X.env)).any (·.1) = false := by rfl) :
    PS X (.Raise (some (.Call (.Name nm p) [a] [] pos)) none pos2) (tRaiseSup C fld W ta) := ps_raise hc tk (pmk_sup FO T hr ha hg hdb he hpl)
end
end

/-! a caught exception with its own dict: isinstance, fields; defs that may raise -/
section
open PySem PySem.W PySem.Spec PySem.Calls PyProof.Rows
variable {prog : Program} {w : World} {A : Around} {E : Value → Shared → Prop} {s : Shared} {K : Frag} {x D : Addr} {ox : Obj}
theorem find_classD {C : Addr} {odx : Option Obj} {name : Str} {a g : Value} (hc : (clsIn K C).isSome = true) (ha : findIn K (.ref C) name = some (some a)) (hg : specialIn K a "__get__" = some (some g)) (ht : takesIn K a = some true) : findObj K C odx name = some (.bind g a) := by
  obtain ⟨cd, hc⟩ := Option.isSome_iff_exists.mp hc
  unfold findObj
  rw [hc, Option.bind_some, ha, Option.bind_some]
  simp [hg, ht]
theorem kin_classD {odx : Option Obj} {Q : Option Value → Shared → Prop} (C : L2.ExcC K D) (X : K.In s.heap) (I : InstAt s.heap x ox D odx) (h : Q (some (.ref D)) { s with toks := s.toks + 1 }) : wpAny (model prog w) A (getAttr? (.ref x) "__class__") Q E s := by
  have hf : findObj K D odx "__class__" = some (.bind (.builtin "getset_descriptor.__get__") (.builtin "object.__class__")) := find_classD (by obtain ⟨cd, hc, _⟩ := any_some C.hd; rw [hc]; rfl) C.ha C.hn C.ht
  obtain ⟨hp, g, d, t, os⟩ := s
  have L0 := I.type (M := model prog w)
  have L1 := looks_findIn (M := model prog w) X C.hg
  have L2 := looks_findIn (M := model prog w) X C.hk
  have L3 := looks_find (M := model prog w) X I hf
  have sub : Looks (model prog w) hp (isInstance (.ref x) (.type "BaseException")) true := L0.andThen (looks_subIn X C.hs)
  have hx0 : (false && onTheHeap (Value.builtin "BaseException.__getattribute__")) = false := rfl
  have hx2 : (Value.builtin "BaseException.__getattribute__" == Value.builtin "object.__getattribute__") = false := by decide +kernel
  have hx1 : (onTheHeap (Value.ref D) && Value.builtin "BaseException.__getattribute__" == Value.builtin "object.__getattribute__") = false := by rw [hx2]; rfl
  unfold getAttr? getAttrBy? getAttrBy
  refine wpAny_bind (wpAny_mkText (wpAny_bind (wpAny_attempt (wpAny_holding (wpAny_bind (L0.at (wpAny_bind (L1.at ?_))))))))
  show wpAny _ _ (if (onTheHeap (Value.ref D) && Value.builtin "BaseException.__getattribute__" == Value.builtin "object.__getattribute__") = true then _ else _) _ _ _
  rw [hx1, if_neg Bool.false_ne_true]
  unfold getAttrByItsOwn hookBefore
  refine wpAny_bind ?_
  rw [if_pos (show onTheHeap (Value.ref D) = true from rfl)]
  refine L2.at ?_
  refine wpAny_bind (wpAny_attempt (wpAny_holding ?_))
  unfold callGetattribute
  rw [hx0, if_neg Bool.false_ne_true]
  unfold boundAndCalled
  rw [PySem.F.excAttr_ValueError.ga.bind (.ref x)]
  refine wpAny_bind (wpAny_pure ?_)
  show wpAny _ _ (call (.builtin "BaseException.__getattribute__") [.ref x, .str "__class__" t]) _ _ _
  refine wpAny_call (codeAny_call_builtin PySem.F.excAttr_ValueError.ga.plain PySem.F.entry_bexc_ga ?_)
  refine @check_slot (model prog w) _ _ ⟨hp, g, d, t + 1, os⟩ "BaseException.__getattribute__" "BaseException" "__getattribute__" (.ref x) [.str "__class__" t] [] _ (by decide +kernel) (by decide +kernel) sub (PySem.F.args_bexc_ga (.ref x) (.str "__class__" t)) ?_
  unfold Builtin.«object.__getattribute__»
  refine wpAny_bind (wpAny_of_eq (a := ((Value.ref x : Value), [Value.str "__class__" t])) (by first | rfl | (simp only [slotArgs]; rfl)) ?_)
  refine wpAny_bind (wpAny_pure (wpAny_bind (L0.at (wpAny_bind (L3.at ?_)))))
  show wpAny _ _ (holding [Value.builtin "object.__class__"] (call (.builtin "getset_descriptor.__get__") [.builtin "object.__class__", .ref x, .ref D]) >>= ret) _ _ _
  refine wpAny_bind (wpAny_holding (wpAny_call (class_get (s := ⟨hp, g, d, t + 1, os⟩) (ox := ox) (od := odx) X I C.hm ?_)))
  refine wpAny_pure ?_
  show wpAny _ _ (handedOut (.ref D)) _ _ _
  rw [handedOut_of (v := .ref D) rfl]
  first
    | exact wpAny_pure (wpAny_pure h)
    | exact wpAny_pure h
    | exact wpAny_pure (wpAny_bind (wpAny_pure (wpAny_pure h)))
theorem kit_excD {odx : Option Obj} (C : L2.ExcC K D) : KitX K (.ref x) (.ref D) (fun h => InstAt h x ox D odx) where
  ty := fun _ _ _ I => I.type
  it := fun _ _ X _ => by
    obtain ⟨cdD, hcD, _⟩ := any_some C.hd
    unfold clsIn at hcD
    split at hcD
    · rename_i c' d' cd' sl' ho
      intro A' Q' E' s' k q
      unfold isType loadHead
      exact wpAny_bind (wpAny_loadPart (k _ _ (X _ _ ho)) (wpAny_pure q))
    · cases hcD
  ne := fun h tp dd its n sl X htp => by
    obtain ⟨cdD, hcD, _⟩ := any_some C.hd
    refine Bool.eq_false_iff.mpr fun q => ?_
    have e : D = tp := Value.ref.inj (beq_iff_eq.mp q)
    subst e
    unfold clsIn at hcD
    split at hcD
    · rename_i c' d' cd' sl' ho
      have z := (X _ _ ho).symm.trans htp
      cases z
    · cases hcD
  ca := fun X I k => kin_classD C X I k
end
section
open PySem PySem.Spec PyProof.Rows L2
/-- what is more to be seen of such a class -/
structure ExcT (P : Program) (K : PySem.W.Frag) (mg : Str → Option Value) (nm fld : Str) (C fI : Addr) : Prop extends SupTxt P K mg nm fld C fI where
  ec : ExcC K C
theorem ExcT.xf {P : Program} {K : PySem.W.Frag} {mg : Str → Option Value} {nm fld : Str} {C fI : Addr} (T : ExcT P K mg nm fld C fI) : XfC K C := ⟨T.ga, T.gg, T.exC, T.hdC⟩
/-- isinstance(e, c), e the exception that the suite holds -/
def rIsX (K : PySem.W.Frag) (D a : Addr) (cls : Value) (d : Option Addr) : List V → Hp → VK → Prop := fun xs H Q => ∃ (c : V) (cv : Value) (b : Bool) (dd : Addr) (fs : List (Str × V)), xs = [.ref a, c] ∧ cls = .ref D ∧ d = some dd ∧ H dd = some (.xd fs) ∧ (∀ u, RelV c u → u = cv) ∧ PySem.W.kitOne K (.ref D) cv = some b ∧ Q (.bl b) H
theorem call_isX {X : Cx} {a D fI : Addr} {nm fld : Str} {oe : Obj} {cls : Value} {d : Option Addr} {pn : List (Addr × Obj)} (T : ExcT X.prog X.K X.mg nm fld D fI) (hz : Zc cls d oe) (hf : ∃ vs, oe.data = .fields vs) : CallR (X.suite a ((a, oe) :: pn)) (.builtin "isinstance") (rIsX X.K D a cls d) := by
  intro pins s σ H xs us Q I r h
  obtain ⟨c, cv, b, dd, fs, rfl, ecl, ed, ea, hcv, e, q⟩ := h
  subst ecl
  subst ed
  cases r with
  | cons rx rr =>
    cases rr with
    | cons rt rr =>
      cases rr
      cases rx
      have ec := hcv _ rt
      subst ec
      obtain ⟨hget, _⟩ := I.pin (a, oe) (List.mem_append.mpr (.inl List.mem_cons_self))
      obtain ⟨vs, hv⟩ := hf
      have hx : ObjOk X.prog X.w H s.heap dd (.xd fs) := I.hok dd _ ea
      obtain ⟨mA, hns, hr⟩ := hx
      obtain ⟨od, ho, hl⟩ := lookIn_ns hns
      have J : PySem.W.InstAt s.heap a oe D (some od) := ⟨hget, hz.1, by unfold PySem.W.notCls; rw [hv] <;> rfl, by rw [hz.2]; exact ho⟩
      exact PySem.W.kia_one (kit_excD T.ec) I.kIn J e (fun z => nomatch z) fun tk => ⟨.bl b, H, I.kept (t' := tk) fun _ _ z => z, rfl, q⟩
/-! ### a def that may raise, found by its name -/
def OkX (P : Program) (w : World) (K : PySem.W.Frag) (mg : Str → Option Value) (base : Heap) (k : Nat) (x : Str) (ps : List Str) (sp : Sp) : Prop :=
  ∃ (f : Addr) (fd : FuncData), FnOk P w K mg base (L2.CX P w) k f fd ps sp ∧ mg x = some (.ref f) ∧ PySem.W.keepIn K (.ref f) = true ∧ Binds K fd ps []
section
variable {P : Program} {w : World} {K : PySem.W.Frag} {mg : Str → Option Value} {base : Heap}
theorem Def.okX {x : Str} {st : Stmt} {N ps : List Str} {k : Nat} {sp : Sp} (D : Def K mg x st ps) (S : FnScope N ps (defScope st)) (len : ∀ vs H Q E, sp vs H Q E → vs.length = ps.length)
    (hbody : ∀ (cdv : Value) (f : Addr) (A : Around) (outer : List Env) (s : Shared) (H : Hp) (vs : List V) (Q : VK) (E : XK), Room k (A.deeper (envOfC x (defScope st) s.heap.objs.size f cdv)) → sp vs H Q E →
      ∃ t, PSs (cxOf (L2.CX P w) P w K mg base N x (defScope st) f cdv A outer s H E) (defBody st) t ∧ t { nx := fun _ H' => Q .non H', rt := Q } (start N vs) H) : OkX P w K mg base (k + 1) x ps sp := by
  obtain ⟨f, fd, F, hm, hb⟩ := D
  exact ⟨f, fd, F.okX S len fun cdv A outer s H vs Q E hr h => hbody cdv f A outer s H vs Q E hr h, hm, F.kp, hb⟩
theorem OkX.mono {j k : Nat} {x : Str} {ps : List Str} {sp : Sp} (h : OkX P w K mg base j x ps sp) (hk : j ≤ k) : OkX P w K mg base k x ps sp := by
  obtain ⟨f, fd, F, r⟩ := h
  exact ⟨f, fd, F.mono hk, r⟩
/-- where nothing is raised -/
def sp0 (sp : Sp) : Sp := fun vs H Q _ => sp vs H Q (fun _ _ _ => False)
theorem OkX.ok0 {k : Nat} {x : Str} {ps : List Str} {sp : Sp} (h : OkX P w K mg base k x ps sp) : Ok P w K mg base k x ps (sp0 sp) := by
  obtain ⟨f, fd, F, r⟩ := h
  refine ⟨f, fd, ⟨fun vs H Q E h => F.len vs H Q _ h, fun A outer s H args us vs Q E hr e0 hb rv hsp => ?_⟩, r⟩
  refine codeAny_mono (F.run A outer s H args us vs Q _ hr e0 hb rv hsp) fun r s' hq => ?_
  cases r with
  | error e =>
    obtain ⟨_, _, _, _, _, _, _, _, _, _, _, _, z⟩ := hq
    exact z.elim
  | ok fl => cases fl <;> exact hq
end
section
variable {X : Cx}
theorem pe_callX {x : Str} {p pos : Pos} {e : Expr} {es : List Expr} {t : TA} {k : Nat} {ps : List Str} {sp : Sp} {W : WX} (h : OkX X.prog X.w X.K X.mg X.base k x ps sp) (hr : Room k X.A) (hg : Gl X x) (tk : Takes X W) (ha : PA X (e :: es) t)
    (hdb : (x == ("__debug__" : Str)) = false := by decide) (he : starEach (e :: es) X.env = (false, eval e X.env) :: starEach es X.env := by rfl) (hpl : (backTo pos (starEach es X.env)).any (·.1) = false := by rfl) :
    PE X (.Call (.Name x p) (e :: es) [] pos) (tCallS sp (WE W) t) := by
  obtain ⟨f, fd, F, hm, hk, hb⟩ := h
  exact pe_callS F hr hg hm hk hb (fun σ => passAt tk σ) ha hdb he hpl
end
end

open PySem PySem.Spec PyProof.Rows L2
open PySem.W (EachIs)
/-! ### tables of waits: words, numbers, promises -/
section
variable {X : Cx}
theorem call_maxA (K : PySem.W.Frag) (hK : X.K = K) (hc : X.calm = true) : CallR X (.builtin "max") (rMax K) := by
  subst hK
  exact cr_max hc
theorem pi_zipAU (K : PySem.W.Frag) (hK : X.K = K) {e e2 : Expr} {ta : TA} {p pos tpos : Pos} {elts : List Expr} {kk : Nat} (hg : Gl X "zip") (hm : X.mg "zip" = none) (ha : PA X [e, e2] ta)
    (h1 : starEach [e, e2] X.env = (false, eval e X.env) :: starEach [e2] X.env := by rfl) (h2 : (backTo pos (starEach [e2] X.env)).any (·.1) = false := by rfl) : PI X (.Tuple elts kk tpos) (.Call (.Name "zip" p) [e, e2] [] pos) (RZ.iZipA K ta) := by
  subst hK
  exact RZ.pi_zipA hg hm ha h1 h2
end
section
variable {K : PySem.W.Frag} {σ : L2.St} {H : Hp} {Q : VK} {te : TE}
theorem rd_zipA {ta : TA} {R : It → Hp → Prop} (q : ta σ H fun vs H1 => ∃ a b xs ys, vs = [V.ref a, V.ref b] ∧ ((SqL K H1 a xs ∧ SqL K H1 b ys ∧ R (Itz K a b) H1) ∨ (SqT K H1 a xs ∧ SqT K H1 b ys ∧ R (RZ.ItzT K a b) H1))) : RZ.iZipA K ta σ H R := q
theorem rd_max2 {i j : Int} (q : Q (.int (if j > i then j else i)) H) : ∃ i' j', [V.int i, V.int j] = [.int i', .int j'] ∧ Q (.int (if j' > i' then j' else i')) H := ⟨i, j, rfl, q⟩
theorem rd_maxA {a : Addr} {ns : List Int} (h : SqL K H a (ns.map V.int)) (hn : 0 < ns.length) (q : ∀ m, m ∈ ns → (∀ y, y ∈ ns → y ≤ m) → Q (.int m) H) : rMax K [.ref a] H Q := ⟨a, ns, rfl, h, hn, q⟩
theorem rd_slW {a : Addr} {xs : List V} {lo hi : Option Int} (h : SqT K H a xs) (h1 : HT.sIx xs.length 0 lo = 0) (h2 : HT.sIx xs.length xs.length hi = xs.length) (q : Q (.ref a) H) : rSlU2 K (.ref a) lo hi H Q := .inr ⟨a, xs, rfl, h, h1, h2, q⟩
theorem rd_slT2 {a : Addr} {xs : List V} {lo hi : Option Int} (h : SqT K H a xs) (hw : ¬ (HT.sIx xs.length 0 lo = 0 ∧ HT.sIx xs.length xs.length hi = xs.length)) (q : ∀ p, H p = none → Q (.ref p) (upd H p (.tup (cutV xs lo hi)))) : rSlU2 K (.ref a) lo hi H Q := .inl (rd_slT h hw q)
end
abbrev Bd := Int × Int
def bdD (b : Bd) : PyData := .tuple [.int b.1, .int b.2]
def BdOk (bs : List Bd) : Prop := ∀ b ∈ bs, 0 ≤ b.1 ∧ b.1 ≤ b.2 ∧ b.2 ≤ 1000
def TbLt (tb : List Rw) : Prop := ∀ r ∈ tb, r.2.1 < r.1
def askStep (done : List Int) (m : Int) (r : Rw) : Int := if r.1 = done.length + 1 then (if fn (0 :: done) r.2.1 + r.2.2 > m then fn (0 :: done) r.2.1 + r.2.2 else m) else m
def askF (tb : List Rw) (done : List Int) : Int := tb.foldl (askStep done) (fn (0 :: done) done.length + 1)
def askW (tb : List Rw) (done : List Int) : List Int := (tb.filter fun r => decide (r.1 = done.length + 1)).map fun r => fn (0 :: done) r.2.1 + r.2.2
theorem ask_fold (done : List Int) : ∀ (tb : List Rw) (a : Int), tb.foldl (askStep done) a ∈ a :: askW tb done ∧ ∀ y ∈ a :: askW tb done, y ≤ tb.foldl (askStep done) a
  | [], a => by simp [askW]
  | r :: tb, a => by
    obtain ⟨h1, h2⟩ := ask_fold done tb (askStep done a r)
    rw [List.foldl_cons]
    by_cases c : r.1 = done.length + 1
    · have e : askW (r :: tb) done = (fn (0 :: done) r.2.1 + r.2.2) :: askW tb done := by
        unfold askW
        rw [List.filter_cons_of_pos (by simp [c])]
        rfl
      rw [e]
      have hs : askStep done a r = if fn (0 :: done) r.2.1 + r.2.2 > a then fn (0 :: done) r.2.1 + r.2.2 else a := by
        unfold askStep
        rw [if_pos c]
      have hle : askStep done a r ≤ tb.foldl (askStep done) (askStep done a r) := h2 _ List.mem_cons_self
      generalize hw : fn (0 :: done) r.2.1 + r.2.2 = w at hs ⊢
      refine ⟨?_, fun y hy => ?_⟩
      · rcases List.mem_cons.mp h1 with h | h
        · rw [h, hs]
          by_cases c2 : w > a
          · rw [if_pos c2]
            simp
          · rw [if_neg c2]
            simp
        · exact List.mem_cons_of_mem _ (List.mem_cons_of_mem _ h)
      · have ha : a ≤ askStep done a r := by
          rw [hs]
          split <;> omega
        have hw2 : w ≤ askStep done a r := by
          rw [hs]
          split <;> omega
        rcases List.mem_cons.mp hy with h | h
        · rw [h]
          omega
        rcases List.mem_cons.mp h with h | h
        · rw [h]
          omega
        · exact h2 y (List.mem_cons_of_mem _ h)
    · have e : askW (r :: tb) done = askW tb done := by
        unfold askW
        rw [List.filter_cons_of_neg (by simp [c])]
      have hs : askStep done a r = a := by
        unfold askStep
        rw [if_neg c]
      rw [hs] at h1 h2 ⊢
      rw [e]
      exact ⟨h1, h2⟩
theorem ask_max {tb : List Rw} {done : List Int} {m : Int} (h1 : m ∈ (fn (0 :: done) done.length + 1) :: askW tb done) (h2 : ∀ y ∈ (fn (0 :: done) done.length + 1) :: askW tb done, y ≤ m) : m = askF tb done := by
  obtain ⟨h3, h4⟩ := ask_fold done tb (fn (0 :: done) done.length + 1)
  have a := h2 _ h3
  have b := h4 _ h1
  unfold askF
  omega
def runF (tb : List Rw) : List Int → List Int → List Int → List Int × List Int
  | asked, done, [] => (asked, done)
  | asked, done, d :: ds => runF tb (asked ++ [askF tb done]) (done ++ [askF tb done + d]) ds
def areD (bs : List Bd) (ds : List Int) : Bool := decide (ds.length = bs.length) && (List.range ds.length).all fun i => decide ((bs.getD i (0, 0)).1 ≤ ds.getD i 0) && decide (ds.getD i 0 ≤ (bs.getD i (0, 0)).2)
def runD (r : List Int × List Int) : PyData := .tuple [.tuple (r.1.map .int), .tuple (r.2.map .int)]
section
variable (T : List (Addr × Str)) (K : PySem.W.Frag)
def spAsk : Sp := fun vs H Q _ => ∃ (va : V) (b : Addr) (kd : Bool) (tb : List Rw) (done : List Int), vs = [va, .ref b] ∧ Im H va (.tuple (tb.map rwD)) ∧ SqK K kd H b (done.map V.int) ∧ TbLt tb ∧ tb.length ≤ 100 ∧ done.length ≤ 100 ∧
  ∀ H', Ext T [] H H' → Q (.int (askF tb done)) H'
def spAreD : Sp := fun vs H Q _ => ∃ (vb vd : V) (bs : List Bd) (ds : List Int), vs = [vb, vd] ∧ Im H vb (.tuple (bs.map bdD)) ∧ Im H vd (.tuple (ds.map .int)) ∧ bs.length ≤ 100 ∧ ds.length ≤ 100 ∧
  ∀ H', Ext T [] H H' → Q (.bl (areD bs ds)) H'
def wordS : Str := "word"
def spRun (C : Addr) : Sp := fun vs H Q E => ∃ (va vb vd : V) (tb : List Rw) (bs : List Bd) (ds : List Int), vs = [va, vb, vd] ∧ Im H va (.tuple (tb.map rwD)) ∧ Im H vb (.tuple (bs.map bdD)) ∧ Im H vd (.tuple (ds.map .int)) ∧ TbLt tb ∧ tb.length ≤ 100 ∧ bs.length ≤ 50 ∧ ds.length ≤ 50 ∧
  (areD bs ds = true → ∀ v H', Ext T [] H H' → Im H' v (runD (runF tb [] [] ds)) → Q v H') ∧ (areD bs ds = false → ∀ d H', Ext T [] H H' → H' d = none → E (.ref C) (some d) (upd H' d (.xd [(wordS, .str "delays")])))
def spFirst57 : Sp := fun vs H Q _ => ∃ (va : V) (b : Addr) (kd : Bool) (tb : List Rw) (done : List Int), vs = [va, .int ((done.length : Int) + 1), .ref b] ∧ Im H va (.tuple (tb.map rwD)) ∧ SqK K kd H b (done.map V.int) ∧ TbLt tb ∧ tb.length ≤ 100 ∧ done.length ≤ 100 ∧
  ∀ H', Ext T [] H H' → Q (.int (askF tb done)) H'
def spLawRun : Sp := fun vs H Q _ => ∃ (va : V) (b : Addr) (kd : Bool) (tb : List Rw) (ds : List Int), vs = [va, .ref b] ∧ Im H va (.tuple (tb.map rwD)) ∧ SqK K kd H b (ds.map V.int) ∧ TbLt tb ∧ tb.length ≤ 100 ∧ ds.length ≤ 50 ∧
  ∀ v H', Ext T [] H H' → Im H' v (runD (runF tb [] [] ds)) → Q v H'
def spBounds : Sp := fun vs H Q _ => ∃ (l t : Addr) (n : Nat) (w : Int), vs = [.ref t, .int (n : Int), .int w] ∧ n ≤ 6 ∧ 0 ≤ w ∧ w < 3 ∧ Tape l H t ∧
  ∀ v bs H', BdOk bs → bs.length = n → Im H' v (.tuple (bs.map bdD)) → Ext T [t] H H' → Tape l H' t → Q v H'
def spDelays : Sp := fun vs H Q _ => ∃ (l t : Addr) (vb : V) (bs : List Bd), vs = [.ref t, vb] ∧ Im H vb (.tuple (bs.map bdD)) ∧ BdOk bs ∧ bs.length ≤ 6 ∧ Tape l H t ∧
  ∀ v ds H', ds.length = bs.length → areD bs ds = true → Im H' v (.tuple (ds.map .int)) → Ext T [t] H H' → Tape l H' t → Q v H'
def TbIn (n : Nat) (tb : List Rw) : Prop := ∀ r ∈ tb, r.2.1 < r.1 ∧ r.1 ≤ n
def spTable : Sp := fun vs H Q _ => ∃ (l t : Addr) (n : Nat) (w : Int), vs = [.ref t, .int (n : Int), .int w] ∧ n ≤ 6 ∧ 0 ≤ w ∧ w < 3 ∧ Tape l H t ∧
  ∀ v tb H', TbIn n tb → tb.length ≤ 36 → Im H' v (.tuple (tb.map rwD)) → Ext T [t] H H' → Tape l H' t → Q v H'
end
theorem im_ints {H : Hp} {v : V} {ds : List Int} (h : Im H v (.tuple (ds.map .int))) : ∃ a, v = .ref a ∧ H a = some (.tup (ds.map V.int)) := by
  obtain ⟨a, xs, rfl, h1, h2⟩ := h.tup'
  refine ⟨a, rfl, ?_⟩
  have e : ∀ {t : List Int} {vs : List V}, ImAll H vs (t.map PyData.int) → vs = t.map V.int := by
    intro t
    induction t with
    | nil =>
      intro vs h
      cases h
      rfl
    | cons z t ih =>
      intro vs h
      cases h with
      | cons a b => rw [a.int', ih b]; rfl
  rw [← e h2]
  exact h1
theorem imAll_int {H : Hp} : ∀ t : List Int, ImAll H (t.map V.int) (t.map PyData.int)
  | [] => .nil
  | z :: t => .cons (.int z) (imAll_int t)
theorem im_intsT {H : Hp} {a : Addr} {ds : List Int} (h : H a = some (.tup (ds.map V.int))) : Im H (.ref a) (.tuple (ds.map .int)) := .tup h (imAll_int ds)
open PySem PySem.Spec PyProof.Rows L2
open PySem.W (EachIs)
theorem walk_zipT {K : PySem.W.Frag} {a b : Addr} {xs ys : List V} {n : Nat} (hn : n = min xs.length ys.length) : Walk (RZ.ItzT K a b) n (fun H => SqT K H a xs ∧ SqT K H b ys) (YPair (fun i => xs[i]?) (fun i => ys[i]?)) := by
  subst hn
  refine ⟨fun i _ hi q => ?_, fun _ q => ⟨xs, ys, q.1, q.2, by omega⟩, fun i H v H' _ q y => ?_⟩
  · have h1 : i < xs.length := by omega
    have h2 : i < ys.length := by omega
    exact ⟨xs, ys, xs[i], ys[i], q.1, q.2, by simp [h1], by simp [h2]⟩
  · obtain ⟨T, x, z, h1, h2, h3, h4, h5⟩ := y
    exact ⟨T, x, z, h1, h2, h3, h4 xs q.1, h5 ys q.2⟩
/-- over two tuples of one length -/
theorem lcg_zipTF (T : List (Addr × Str)) {K : PySem.W.Frag} {σ : L2.St} {H : Hp} {Q : VK} {g : TG} {te : TE} {vs : List Nat} {a b : Addr} {xs ys : List V} (h1 : SqT K H a xs) (h2 : SqT K H b ys) (hl : xs.length = ys.length) (hs : xs.length < sizeLine) (f : Nat → V)
    (step : ∀ (i : Nat) (x y : V) (t : Addr), xs[i]? = some x → ys[i]? = some y → ∀ H', Ext T [] H H' → H' t = some (.tup [x, y]) → ∀ R : VK, (∀ H2, Ext T [] H' H2 → R (f i) H2) → g (.ref t) (wipe σ vs) H' fun σ2 H2 => wipe σ2 vs = wipe σ vs ∧ tYes σ2 H2 fun b H3 => if b = true then te σ2 H3 R else True)
    (q : ∀ D H2, Nw H D → Ext T [] H H2 → H2 D = some (.lst ((List.range xs.length).map f)) → Q (.ref D) H2) : LcG (RZ.ItzT K a b) g tYes te vs σ H Q := fun D hD => by
  refine lc_it (walk_zipT (n := xs.length) (by rw [← hl, Nat.min_self]) (xs := xs) (ys := ys)) (fun i H2 => Ext T [] H H2 ∧ H2 D = some (.lst ((List.range i).map f))) ⟨.new hD, upd_same⟩ (fun i H2 _ h => ⟨h.1.seqT (by simp) h1, h.1.seqT (by simp) h2⟩) (fun i x H1 H' hi h y => ?_) (fun H1 h => ?_)
  · obtain ⟨t, u, v, rfl, nt, rfl, hu, hv⟩ := y
    obtain ⟨e1, e2⟩ := h
    obtain ⟨nt2, e3, ht⟩ := alT (T := T) nt [u, v]
    generalize upd H1 t _ = H' at e3 ht ⊢
    have h3 := step i u v t hu hv H' (e1.trans e3) ht
    have hD2 := lst.x e2 e3
    have h4 := h3 (fun y H4 => ∃ acc, H4 D = some (.lst acc) ∧ acc.length < sizeLine ∧ (Ext T [] H (upd H4 D (.lst (acc ++ [y]))) ∧ (upd H4 D (.lst (acc ++ [y]))) D = some (.lst ((List.range (i + 1)).map f)))) (fun H2 e4 => by
      have hD3 := lst.x hD2 e4
      refine ⟨_, hD3, ?_, ((e1.trans e3).trans e4).own (.of hD) hD3, ?_⟩
      · rw [List.length_map, List.length_range]
        omega
      · rw [upd_same, List.range_succ, List.map_append]
        rfl)
    exact h4
  · exact q D H1 (.of hD) h.1 h.2
theorem bd_get {H : Hp} {xs : List V} {bs : List Bd} {i : Nat} {x : V} (h : ImAll H xs (bs.map bdD)) (hx : xs[i]? = some x) : ∃ b a, bs[i]? = some b ∧ x = .ref a ∧ SqP H a [.int b.1, .int b.2] ∧ Im H x (bdD b) := by
  obtain ⟨d, h1, h2⟩ := h.get' hx
  rw [List.getElem?_map] at h1
  obtain ⟨b, h3, rfl⟩ := Option.map_eq_some_iff.mp h1
  obtain ⟨a, u, v, rfl, h4, h5, h6⟩ := Im.pair' h2
  refine ⟨b, a, h3, rfl, ?_, h2⟩
  rw [h5.int', h6.int'] at h4
  exact h4
theorem getD_of {α : Type} {l : List α} {i : Nat} {x d : α} (h : l[i]? = some x) : l.getD i d = x := by
  rw [List.getD_eq_getElem?_getD, h]
  rfl
theorem areD_len {bs : List Bd} {ds : List Int} (h : areD bs ds = true) : ds.length = bs.length := by
  unfold areD at h
  rw [Bool.and_eq_true] at h
  exact of_decide_eq_true h.1
open PySem PySem.Spec PyProof.Rows L2
def DIn (bs : List Bd) (ds : List Int) : Prop := ∀ j, j < ds.length → (bs.getD j (0, 0)).1 ≤ ds.getD j 0 ∧ ds.getD j 0 ≤ (bs.getD j (0, 0)).2
theorem areD_iff {bs : List Bd} {ds : List Int} : areD bs ds = true ↔ ds.length = bs.length ∧ DIn bs ds := by
  unfold areD DIn
  rw [Bool.and_eq_true, decide_eq_true_eq, List.all_eq_true]
  constructor
  · rintro ⟨h1, h2⟩
    refine ⟨h1, fun j hj => ?_⟩
    have := h2 j (List.mem_range.mpr hj)
    rw [Bool.and_eq_true, decide_eq_true_eq, decide_eq_true_eq] at this
    exact this
  · rintro ⟨h1, h2⟩
    refine ⟨h1, fun j hj => ?_⟩
    rw [Bool.and_eq_true, decide_eq_true_eq, decide_eq_true_eq]
    exact h2 j (List.mem_range.mp hj)
theorem getD_app_lt {α : Type} {l : List α} {x d : α} {j : Nat} (h : j < l.length) : (l ++ [x]).getD j d = l.getD j d := by
  rw [List.getD_eq_getElem?_getD, List.getD_eq_getElem?_getD, List.getElem?_append_left h]
theorem getD_app_eq {α : Type} {l : List α} {x d : α} : (l ++ [x]).getD l.length d = x := by
  rw [List.getD_eq_getElem?_getD, List.getElem?_append_right (Nat.le_refl _)]
  simp
theorem DIn.snoc {bs : List Bd} {ds : List Int} {d : Int} (h : DIn bs ds) (h1 : (bs.getD ds.length (0, 0)).1 ≤ d) (h2 : d ≤ (bs.getD ds.length (0, 0)).2) : DIn bs (ds ++ [d]) := by
  intro j hj
  rw [List.length_append] at hj
  by_cases c : j < ds.length
  · rw [getD_app_lt c]
    exact h j c
  · have e : j = ds.length := by
      have : [d].length = 1 := rfl
      omega
    rw [e, getD_app_eq]
    exact ⟨h1, h2⟩
open PySem PySem.Spec PyProof.Rows L2
theorem rd_listK2 {K : PySem.W.Frag} {kd : Bool} {H : Hp} {Q : VK} {p : Addr} {ys : List V} (h : SqK K kd H p ys) (q : ∀ l, H l = none → Q (.ref l) (upd H l (.lst ys))) : rListOf K [.ref p] H Q := by
  cases kd with
  | true => exact rd_listL h q
  | false => exact rd_listT h q
open PySem PySem.Spec PyProof.Rows L2
theorem rd_rng2 {σ : L2.St} {H : Hp} {ta : TA} {R : It → Hp → Prop} (q : ta σ H fun vs H1 => ∃ i j : Int, vs = [.int i, .int j] ∧ (-(2 ^ 62) ≤ i ∧ i < 2 ^ 62 ∧ -(2 ^ 62) ≤ j ∧ j < 2 ^ 62) ∧ R (Itr i (j - i).toNat) H1) : iRng2 ta σ H R := q
open PySem PySem.Spec PyProof.Rows L2
section
variable {K : PySem.W.Frag} {H : Hp} {Q : VK}
theorem rd_catAny (T : List (Addr × Str)) {a b : Addr} {xs ys : List V} (h1 : H a = some (.tup xs)) (h2 : H b = some (.tup ys)) (c : xs.length + ys.length ≤ 1000) (q : ∀ p H', Ext T [] H H' → H' p = some (.tup (xs ++ ys)) → Q (.ref p) H') : rPlus K (.ref a) (.ref b) H Q := by
  by_cases e1 : xs = []
  · subst e1
    exact rd_catT0 (SqT.of h1) (SqT.of h2) (q b H .refl h2)
  · refine .inr (.inr (.inr (.inl ⟨a, b, xs, ys, rfl, rfl, SqT.of h1, SqT.of h2, e1, Nat.le_trans c (by decide), fun e => ?_, fun _ p np => q p _ (.new np) upd_same⟩)))
    refine q a H .refl ?_
    rw [e, List.append_nil]
    exact h1
theorem rd_slAny (T : List (Addr × Str)) {a : Addr} {xs : List V} {lo hi : Option Int} (h : H a = some (.tup xs)) (q : ∀ p H', Ext T [] H H' → H' p = some (.tup (cutV xs lo hi)) → Q (.ref p) H') : rSlU2 K (.ref a) lo hi H Q := by
  by_cases w : HT.sIx xs.length 0 lo = 0 ∧ HT.sIx xs.length xs.length hi = xs.length
  · refine rd_slW (SqT.of h) w.1 w.2 (q a H .refl ?_)
    unfold cutV
    rw [w.1, w.2, List.drop_zero, Nat.sub_zero, List.take_length]
    exact h
  · exact rd_slT2 (SqT.of h) w fun p np => q p _ (.new np) upd_same
end
theorem cutV_neg (xs : List V) : cutV xs none (some (-1)) = xs.dropLast := by
  unfold cutV
  rw [HT.sIx_none]
  have e : HT.sIx xs.length xs.length (some (-1)) = xs.length - 1 := by
    unfold HT.sIx
    simp only []
    split <;> omega
  rw [e, List.drop_zero, Nat.sub_zero, List.dropLast_eq_take]
theorem cutV_last (xs : List V) : cutV xs (some (-1)) none = xs.drop (xs.length - 1) := by
  unfold cutV
  rw [HT.sIx_none]
  have e : HT.sIx xs.length 0 (some (-1)) = xs.length - 1 := by
    unfold HT.sIx
    simp only []
    split <;> omega
  rw [e, List.take_of_length_le (by rw [List.length_drop]; omega)]
theorem areD_no_len {bs : List Bd} {ds : List Int} (h : ds.length ≠ bs.length) : areD bs ds = false := by
  cases e : areD bs ds with
  | false => rfl
  | true => exact absurd (areD_iff.mp e).1 h
theorem areD_no_at {bs : List Bd} {ds : List Int} {j : Nat} (hj : j < ds.length) (h : ¬ ((bs.getD j (0, 0)).1 ≤ ds.getD j 0 ∧ ds.getD j 0 ≤ (bs.getD j (0, 0)).2)) : areD bs ds = false := by
  cases e : areD bs ds with
  | false => rfl
  | true => exact absurd ((areD_iff.mp e).2 j hj) h
theorem dep_rw2 (r : Rw) : (rwD r).depth ≤ 1 := by show 0 + 1 ≤ 1; omega
theorem dep_ints2 : ∀ t : List Int, PyData.depthAll (t.map PyData.int) = 0
  | [] => rfl
  | z :: zs => by
    show max (PyData.depth (.int z)) (PyData.depthAll (zs.map PyData.int)) = 0
    rw [dep_ints2 zs]
    rfl
theorem dep_run (r : List Int × List Int) : (runD r).depth ≤ 64 := by
  show max (PyData.depthAll (r.1.map PyData.int) + 1) (max (PyData.depthAll (r.2.map PyData.int) + 1) 0) + 1 ≤ 64
  rw [dep_ints2, dep_ints2]
  decide
def spRefused (T : List (Addr × Str)) : Sp := fun vs H Q _ => ∃ (va vb vd : V) (tb : List Rw) (bs : List Bd) (ds : List Int), vs = [va, vb, vd] ∧ Im H va (.tuple (tb.map rwD)) ∧ Im H vb (.tuple (bs.map bdD)) ∧ Im H vd (.tuple (ds.map .int)) ∧ TbLt tb ∧ tb.length ≤ 100 ∧ bs.length ≤ 50 ∧ ds.length ≤ 50 ∧
  areD bs ds = false ∧ ∀ H', Ext T [] H H' → Q (.bl true) H'
/-- what is more known of the classes of errors -/
structure ErrIs (K : PySem.W.Frag) (mg : Str → Option Value) (C CN CB : Addr) : Prop where
  gN : mg "NeverdarkError" = some (.ref CN)
  gB : mg "BadText" = some (.ref CB)
  kN : PySem.W.kitOne K (.ref C) (.ref CN) = some true
  kB : PySem.W.kitOne K (.ref C) (.ref CB) = some false
open PySem PySem.Spec PyProof.Rows L2
theorem pe_cls {X : Cx} {x : Str} {C : Addr} {pos : Pos} (hg : Gl X x) (hm : X.mg x = some (.ref C)) (hd : (x == ("__debug__" : Str)) = false := by decide) : PE X (.Name x pos) (tC (.ref C)) := pe_glob hg hm (show RelV (.ref C) (.ref C) from rfl) hd
open PySem PySem.Spec PyProof.Rows L2
theorem rd_callS {sp : Sp} {E : L2.St → XK} {t : TA} {σ : L2.St} {H : Hp} {Q : VK} (q : t σ H fun vs H1 => sp vs H1 Q (E σ)) : tCallS sp E t σ H Q := q
theorem rd_xf {a : Addr} {cls : Value} {d : Option Addr} {C : Addr} {f : Str} {te : TE} {σ : L2.St} {H : Hp} {Q : VK} (q : te σ H fun x H1 => x = .ref a ∧ cls = .ref C ∧ ∃ (dd : Addr) (fs : List (Str × V)) (v : V), d = some dd ∧ H1 dd = some (.xd fs) ∧ fs.lookup f = some v ∧ Q v H1) : tXf a cls d C f te σ H Q := q

open PySem PySem.Spec PyProof.Rows L2
open PySem.W (EachIs dataLe dataLt sort_maps AllAlike Sortable)
/-! ### tables out of rows: the numbers -/
abbrev Kj := Nat × Nat
def kj (k : Kj) : List L2.Key := [.inl (k.1 : Int), .inl (k.2 : Int)]
theorem kj_inj {a b : Kj} (h : kj a = kj b) : a = b := by
  unfold kj at h
  injection h with h1 h
  injection h with h2 _
  injection h1 with h1
  injection h2 with h2
  exact Prod.ext (Int.ofNat.inj h1) (Int.ofNat.inj h2)
def putG (acc : List (Kj × Int)) (k : Kj) (v : Int) : List (Kj × Int) := if (acc.any fun kv => decide (kv.1 = k)) = true then acc.map (fun kv => if kv.1 = k then (kv.1, v) else kv) else acc ++ [(k, v)]
def getG (acc : List (Kj × Int)) (k : Kj) : Option Int := (acc.find? fun kv => decide (kv.1 = k)).map (·.2)
def kvG (acc : List (Kj × Int)) : List (List L2.Key × V) := acc.map fun p => (kj p.1, V.int p.2)
theorem dec_kj (a b : Kj) : decide (kj a = kj b) = decide (a = b) := by
  by_cases h : a = b
  · simp [h]
  · rw [decide_eq_false h, decide_eq_false fun e => h (kj_inj e)]
theorem putK_kvG (acc : List (Kj × Int)) (k : Kj) (v : Int) : putK (kvG acc) (kj k) (.int v) = kvG (putG acc k v) := by
  unfold putK putG kvG
  have e : (acc.map fun p => (kj p.1, V.int p.2)).any (fun kv => decide (kv.1 = kj k)) = acc.any fun kv => decide (kv.1 = k) := by
    rw [List.any_map]
    congr 1
    funext p
    exact dec_kj p.1 k
  rw [e]
  split
  · rw [List.map_map, List.map_map]
    refine List.map_congr_left fun p _ => ?_
    show (if kj p.1 = kj k then (kj p.1, V.int v) else (kj p.1, V.int p.2)) = _
    by_cases h : p.1 = k
    · simp [h]
    · rw [if_neg fun e => h (kj_inj e)]
      simp [h]
  · rw [List.map_append]
    rfl
theorem valV_kvG (acc : List (Kj × Int)) (k : Kj) : valV (kvG acc) (kj k) = (getG acc k).map V.int := by
  unfold valV getG kvG
  rw [List.find?_map]
  have e : ((fun kv : List L2.Key × V => decide (kv.1 = kj k)) ∘ fun p : Kj × Int => (kj p.1, V.int p.2)) = fun kv => decide (kv.1 = k) := by
    funext p
    exact dec_kj p.1 k
  rw [e]
  cases acc.find? fun kv => decide (kv.1 = k) <;> rfl
def gwStep (acc : List (Kj × Int)) (r : Rw) : List (Kj × Int) := putG acc (r.1, r.2.1) (if (getG acc (r.1, r.2.1)).getD r.2.2 > r.2.2 then (getG acc (r.1, r.2.1)).getD r.2.2 else r.2.2)
def gw (rs : List Rw) : List (Kj × Int) := rs.foldl gwStep []
/-- what the dict says of the rows -/
structure GwOk (rs : List Rw) (acc : List (Kj × Int)) : Prop where
  nd : (acc.map (·.1)).Nodup
  is : ∀ p ∈ acc, (∃ r ∈ rs, (r.1, r.2.1) = p.1 ∧ r.2.2 = p.2) ∧ ∀ r ∈ rs, (r.1, r.2.1) = p.1 → r.2.2 ≤ p.2
  all : ∀ r ∈ rs, ∃ p ∈ acc, p.1 = (r.1, r.2.1)
  len : acc.length ≤ rs.length
theorem getG_mem {acc : List (Kj × Int)} (hn : (acc.map (·.1)).Nodup) {k : Kj} {v : Int} (h : (k, v) ∈ acc) : getG acc k = some v := by
  induction acc with
  | nil => cases h
  | cons p acc ih =>
    rw [List.map_cons, List.nodup_cons] at hn
    unfold getG
    rcases List.mem_cons.mp h with e | h
    · rw [← e]
      simp
    · have hne : ¬ p.1 = k := fun e => hn.1 (by rw [e]; exact List.mem_map.mpr ⟨_, h, rfl⟩)
      rw [List.find?_cons_of_neg (by simpa using hne)]
      exact ih hn.2 h
theorem getG_none {acc : List (Kj × Int)} {k : Kj} (h : ∀ p ∈ acc, p.1 ≠ k) : getG acc k = none := by
  unfold getG
  rw [List.find?_eq_none.mpr fun p hp => by simpa using h p hp]
  rfl
theorem gw_step {rs : List Rw} {acc : List (Kj × Int)} {r : Rw} (G : GwOk rs acc) : GwOk (rs ++ [r]) (gwStep acc r) := by
  unfold gwStep putG
  by_cases hin : ∃ v, ((r.1, r.2.1), v) ∈ acc
  · obtain ⟨v, hv⟩ := hin
    have hg := getG_mem G.nd hv
    rw [hg]
    show GwOk _ (if _ then acc.map (fun kv : Kj × Int => if kv.1 = (r.1, r.2.1) then (kv.1, if v > r.2.2 then v else r.2.2) else kv) else _)
    have ha : (acc.any fun kv => decide (kv.1 = (r.1, r.2.1))) = true := List.any_eq_true.mpr ⟨_, hv, by simp⟩
    rw [if_pos ha]
    have hk : (acc.map (fun kv => if kv.1 = (r.1, r.2.1) then (kv.1, if v > r.2.2 then v else r.2.2) else kv)).map (·.1) = acc.map (·.1) := by
      rw [List.map_map]
      refine List.map_congr_left fun p _ => ?_
      show (if p.1 = (r.1, r.2.1) then (p.1, if v > r.2.2 then v else r.2.2) else p).1 = p.1
      split <;> rfl
    refine ⟨by rw [hk]; exact G.nd, fun p hp => ?_, fun r2 hr2 => ?_, ?_⟩
    · obtain ⟨y, hy, e⟩ := List.mem_map.mp hp
      by_cases c : y.1 = (r.1, r.2.1)
      · rw [if_pos c] at e
        have hyv : y.2 = v := by
          have h2 := getG_mem G.nd (show (y.1, y.2) ∈ acc from hy)
          rw [c, hg] at h2
          exact (Option.some.inj h2).symm
        obtain ⟨⟨r0, h1, h2, h3⟩, h4⟩ := G.is y hy
        rw [← e]
        refine ⟨?_, fun r2 hr2 he => ?_⟩
        · by_cases c2 : v > r.2.2
          · exact ⟨r0, List.mem_append_left _ h1, h2, by show r0.2.2 = if v > r.2.2 then v else r.2.2; rw [if_pos c2, h3, hyv]⟩
          · exact ⟨r, List.mem_append_right _ (List.mem_singleton.mpr rfl), c.symm, by show r.2.2 = if v > r.2.2 then v else r.2.2; rw [if_neg c2]⟩
        · show r2.2.2 ≤ if v > r.2.2 then v else r.2.2
          rcases List.mem_append.mp hr2 with hr2 | hr2
          · have := h4 r2 hr2 he
            split <;> omega
          · rw [List.mem_singleton.mp hr2]
            split <;> omega
      · rw [if_neg c] at e
        rw [← e]
        obtain ⟨⟨r0, h1, h2⟩, h4⟩ := G.is y hy
        refine ⟨⟨r0, List.mem_append_left _ h1, h2⟩, fun r2 hr2 he => ?_⟩
        rcases List.mem_append.mp hr2 with hr2 | hr2
        · exact h4 r2 hr2 he
        · rw [List.mem_singleton.mp hr2] at he
          exact absurd he.symm c
    · have key : ∃ p ∈ acc, p.1 = (r2.1, r2.2.1) := by
        rcases List.mem_append.mp hr2 with hr2 | hr2
        · exact G.all r2 hr2
        · rw [List.mem_singleton.mp hr2]
          exact ⟨_, hv, rfl⟩
      obtain ⟨p, hp, e⟩ := key
      refine ⟨_, List.mem_map_of_mem hp, ?_⟩
      rw [← e]
      split <;> rfl
    · rw [List.length_map, List.length_append]
      have := G.len
      omega
  · have hno : ∀ p ∈ acc, p.1 ≠ (r.1, r.2.1) := fun p hp e => hin ⟨p.2, by rw [← e]; exact hp⟩
    rw [getG_none hno]
    have ha : ¬ (acc.any fun kv => decide (kv.1 = (r.1, r.2.1))) = true := fun h => by
      obtain ⟨p, hp, e⟩ := List.any_eq_true.mp h
      exact hno p hp (of_decide_eq_true e)
    rw [if_neg ha]
    have ev : (if (none : Option Int).getD r.2.2 > r.2.2 then (none : Option Int).getD r.2.2 else r.2.2) = r.2.2 := by
      show (if r.2.2 > r.2.2 then r.2.2 else r.2.2) = r.2.2
      split <;> rfl
    rw [ev]
    refine ⟨?_, fun p hp => ?_, fun r2 hr2 => ?_, ?_⟩
    · rw [List.map_append]
      refine nodup_snoc G.nd fun h => ?_
      obtain ⟨p, hp, e⟩ := List.mem_map.mp h
      exact hno p hp e
    · rcases List.mem_append.mp hp with hp | hp
      · obtain ⟨⟨r0, h1, h2⟩, h4⟩ := G.is p hp
        refine ⟨⟨r0, List.mem_append_left _ h1, h2⟩, fun r2 hr2 he => ?_⟩
        rcases List.mem_append.mp hr2 with hr2 | hr2
        · exact h4 r2 hr2 he
        · rw [List.mem_singleton.mp hr2] at he
          exact absurd he.symm (hno p hp)
      · rw [List.mem_singleton.mp hp]
        refine ⟨⟨r, List.mem_append_right _ (List.mem_singleton.mpr rfl), rfl, rfl⟩, fun r2 hr2 he => ?_⟩
        rcases List.mem_append.mp hr2 with hr2 | hr2
        · obtain ⟨p2, hp2, e2⟩ := G.all r2 hr2
          exact absurd (e2.trans he) (hno p2 hp2)
        · rw [List.mem_singleton.mp hr2]
          exact Int.le_refl _
    · rcases List.mem_append.mp hr2 with hr2 | hr2
      · obtain ⟨p, hp, e⟩ := G.all r2 hr2
        exact ⟨p, List.mem_append_left _ hp, e⟩
      · rw [List.mem_singleton.mp hr2]
        exact ⟨_, List.mem_append_right _ (List.mem_singleton.mpr rfl), rfl⟩
    · rw [List.length_append, List.length_append]
      have := G.len
      show _ + 1 ≤ _ + 1
      omega
theorem gw_ok (rs : List Rw) : ∀ i, i ≤ rs.length → GwOk (rs.take i) ((rs.take i).foldl gwStep [])
  | 0, _ => ⟨by simp, by simp, by simp, by simp⟩
  | i + 1, h => by
    have hi : i < rs.length := h
    rw [List.take_add_one, List.getElem?_eq_getElem hi]
    show GwOk (rs.take i ++ [rs[i]]) ((rs.take i ++ [rs[i]]).foldl gwStep [])
    rw [List.foldl_append]
    exact gw_step (gw_ok rs i (by omega))
theorem gw_all (rs : List Rw) : GwOk rs (gw rs) := by
  have h := gw_ok rs rs.length (Nat.le_refl _)
  rw [List.take_length] at h
  exact h
/-! ### the two lists of waits -/
def aOf (bs : List Bd) (k : Nat) : Int := (bs.getD (k - 1) (0, 0)).1
def thr (k j : Nat) : Int := if j = k - 1 then 2 else 1
def plOf (bs : List Bd) (p : Kj × Int) : Option Rw := if p.1.2 < p.1.1 ∧ p.2 - aOf bs p.1.1 ≥ thr p.1.1 p.1.2 then some (p.1.1, p.1.2, p.2 - aOf bs p.1.1) else none
def plL (rs : List Rw) (bs : List Bd) : List Rw := (gw rs).filterMap (plOf bs)
def waitsL (rs : List Rw) (bs : List Bd) (k j : Nat) : List Int := (rs.filter fun r => decide (r.1 = k) && decide (r.2.1 = j)).map fun r => r.2.2 - aOf bs k
def IsMax (m : Int) (l : List Int) : Prop := m ∈ l ∧ ∀ y ∈ l, y ≤ m
theorem max_ex : ∀ l : List Int, ∃ m, IsMax m (0 :: l)
  | [] => ⟨0, by simp [IsMax]⟩
  | x :: l => by
    obtain ⟨m, h1, h2⟩ := max_ex l
    by_cases c : x ≤ m
    · refine ⟨m, ?_, fun y hy => ?_⟩
      · rcases List.mem_cons.mp h1 with h | h
        · rw [h]; exact List.mem_cons_self
        · exact List.mem_cons_of_mem _ (List.mem_cons_of_mem _ h)
      · rcases List.mem_cons.mp hy with h | h
        · exact h2 y (by rw [h]; exact List.mem_cons_self)
        rcases List.mem_cons.mp h with h | h
        · rw [h]; exact c
        · exact h2 y (List.mem_cons_of_mem _ h)
    · refine ⟨x, by simp, fun y hy => ?_⟩
      rcases List.mem_cons.mp hy with h | h
      · have := h2 0 List.mem_cons_self
        omega
      rcases List.mem_cons.mp h with h | h
      · omega
      · have := h2 y (List.mem_cons_of_mem _ h)
        omega
noncomputable def tw (rs : List Rw) (bs : List Bd) (k j : Nat) : Int := (max_ex (waitsL rs bs k j)).choose
theorem tw_is (rs : List Rw) (bs : List Bd) (k j : Nat) : IsMax (tw rs bs k j) (0 :: waitsL rs bs k j) := (max_ex (waitsL rs bs k j)).choose_spec
theorem max_uniq {l : List Int} {a b : Int} (h1 : IsMax a l) (h2 : IsMax b l) : a = b := by
  have := h1.2 b h2.1
  have := h2.2 a h1.1
  omega
noncomputable def llOf (rs : List Rw) (bs : List Bd) (k j : Nat) : Option Rw := if tw rs bs k j > 1 ∨ (tw rs bs k j = 1 ∧ j < k - 1) then some (k, j, tw rs bs k j) else none
noncomputable def llRow (rs : List Rw) (bs : List Bd) (k : Nat) : List Rw := (List.range k).filterMap (llOf rs bs k)
noncomputable def llL (rs : List Rw) (bs : List Bd) (n : Nat) : List Rw := (List.range n).flatMap fun i => llRow rs bs (i + 1)
theorem ll_mem {rs : List Rw} {bs : List Bd} {n : Nat} {x : Rw} : x ∈ llL rs bs n ↔ 1 ≤ x.1 ∧ x.1 ≤ n ∧ x.2.1 < x.1 ∧ x.2.2 = tw rs bs x.1 x.2.1 ∧ x.2.2 ≥ thr x.1 x.2.1 := by
  unfold llL llRow
  rw [List.mem_flatMap]
  constructor
  · rintro ⟨i, hi, h⟩
    obtain ⟨j, hj, e⟩ := List.mem_filterMap.mp h
    rw [List.mem_range] at hi hj
    unfold llOf at e
    split at e
    · rename_i c
      have e := Option.some.inj e
      subst e
      refine ⟨by show 1 ≤ i + 1; omega, by show i + 1 ≤ n; omega, by show j < i + 1; omega, rfl, ?_⟩
      show tw rs bs (i + 1) j ≥ thr (i + 1) j
      unfold thr
      split <;> omega
    · cases e
  · rintro ⟨h1, h2, h3, h4, h5⟩
    refine ⟨x.1 - 1, List.mem_range.mpr (by omega), List.mem_filterMap.mpr ⟨x.2.1, List.mem_range.mpr (by omega), ?_⟩⟩
    have e : x.1 - 1 + 1 = x.1 := by omega
    rw [e]
    unfold llOf
    rw [if_pos]
    · rw [← h4]
    · unfold thr at h5
      rw [← h4]
      split at h5 <;> omega
theorem pl_mem {rs : List Rw} {bs : List Bd} {x : Rw} : x ∈ plL rs bs ↔ x.2.1 < x.1 ∧ (∃ r ∈ rs, r.1 = x.1 ∧ r.2.1 = x.2.1 ∧ r.2.2 - aOf bs x.1 = x.2.2) ∧ (∀ r ∈ rs, r.1 = x.1 → r.2.1 = x.2.1 → r.2.2 - aOf bs x.1 ≤ x.2.2) ∧ x.2.2 ≥ thr x.1 x.2.1 := by
  have G := gw_all rs
  unfold plL
  rw [List.mem_filterMap]
  constructor
  · rintro ⟨p, hp, e⟩
    unfold plOf at e
    split at e
    · rename_i c
      have e := Option.some.inj e
      subst e
      obtain ⟨⟨r, h1, h2, h3⟩, h4⟩ := G.is p hp
      refine ⟨c.1, ⟨r, h1, show r.1 = p.1.1 from congrArg Prod.fst h2, show r.2.1 = p.1.2 from congrArg Prod.snd h2, by show r.2.2 - _ = p.2 - _; rw [h3]⟩, fun r2 hr2 e1 e2 => ?_, c.2⟩
      have := h4 r2 hr2 (Prod.ext e1 e2)
      show r2.2.2 - aOf bs p.1.1 ≤ p.2 - aOf bs p.1.1
      omega
    · cases e
  · rintro ⟨h1, ⟨r, h2, h3, h4, h5⟩, h6, h7⟩
    obtain ⟨p, hp, e⟩ := G.all r h2
    obtain ⟨⟨r0, g1, g2, g3⟩, g4⟩ := G.is p hp
    have e1 : p.1.1 = x.1 := by rw [e]; exact h3
    have e2 : p.1.2 = x.2.1 := by rw [e]; exact h4
    have hle := g4 r h2 e.symm
    have hge := h6 r0 g1 ((congrArg Prod.fst g2).trans e1) ((congrArg Prod.snd g2).trans e2)
    have ev : p.2 - aOf bs x.1 = x.2.2 := by omega
    refine ⟨p, hp, ?_⟩
    unfold plOf
    rw [e1, e2, ev, if_pos ⟨h1, h7⟩]
theorem pl_ll {rs : List Rw} {bs : List Bd} {n : Nat} (hn : ∀ r ∈ rs, r.1 ≤ n) (x : Rw) : x ∈ plL rs bs ↔ x ∈ llL rs bs n := by
  rw [pl_mem, ll_mem]
  have tpos : 1 ≤ thr x.1 x.2.1 := by
    unfold thr
    split <;> decide
  have wm : ∀ y, y ∈ waitsL rs bs x.1 x.2.1 ↔ ∃ r ∈ rs, r.1 = x.1 ∧ r.2.1 = x.2.1 ∧ r.2.2 - aOf bs x.1 = y := fun y => by
    unfold waitsL
    rw [List.mem_map]
    constructor
    · rintro ⟨r, hr, e⟩
      obtain ⟨h1, h2⟩ := List.mem_filter.mp hr
      rw [Bool.and_eq_true, decide_eq_true_eq, decide_eq_true_eq] at h2
      exact ⟨r, h1, h2.1, h2.2, e⟩
    · rintro ⟨r, h1, h2, h3, h4⟩
      exact ⟨r, List.mem_filter.mpr ⟨h1, by rw [Bool.and_eq_true, decide_eq_true_eq, decide_eq_true_eq]; exact ⟨h2, h3⟩⟩, h4⟩
  have T := tw_is rs bs x.1 x.2.1
  constructor
  · rintro ⟨h1, ⟨r, h2, h3, h4, h5⟩, h6, h7⟩
    refine ⟨by omega, by have := hn r h2; omega, h1, max_uniq ⟨List.mem_cons_of_mem _ ((wm _).mpr ⟨r, h2, h3, h4, h5⟩), fun y hy => ?_⟩ T, h7⟩
    rcases List.mem_cons.mp hy with e | hy
    · omega
    · obtain ⟨r2, g1, g2, g3, g4⟩ := (wm y).mp hy
      rw [← g4]
      exact h6 r2 g1 g2 g3
  · rintro ⟨h1, h2, h3, h4, h5⟩
    rw [← h4] at T
    have hin : x.2.2 ∈ waitsL rs bs x.1 x.2.1 := by
      rcases List.mem_cons.mp T.1 with e | e
      · omega
      · exact e
    exact ⟨h3, (wm _).mp hin, fun r g1 g2 g3 => T.2 _ (List.mem_cons_of_mem _ ((wm _).mpr ⟨r, g1, g2, g3, rfl⟩)), h5⟩
/-! ### both in order -/
def kjLt (a b : Rw) : Prop := a.1 < b.1 ∨ (a.1 = b.1 ∧ a.2.1 < b.2.1)
theorem eq_of_strict {α : Type} {R : α → α → Prop} (ha : ∀ a b, R a b → ¬ R b a) : ∀ {l m : List α}, l.Pairwise R → m.Pairwise R → (∀ x, x ∈ l ↔ x ∈ m) → l = m
  | [], m, _, _, h => by
    cases m with
    | nil => rfl
    | cons b m => exact absurd ((h b).mpr List.mem_cons_self) (by simp)
  | a :: l, [], _, _, h => absurd ((h a).mp List.mem_cons_self) (by simp)
  | a :: l, b :: m, hl, hm, h => by
    rw [List.pairwise_cons] at hl hm
    have e : a = b := by
      rcases List.mem_cons.mp ((h a).mp List.mem_cons_self) with e | h1
      · exact e
      rcases List.mem_cons.mp ((h b).mpr List.mem_cons_self) with e | h2
      · exact e.symm
      exact absurd (hl.1 b h2) (ha _ _ (hm.1 a h1))
    subst e
    rw [eq_of_strict ha hl.2 hm.2 fun x => ?_]
    constructor
    · intro hx
      rcases List.mem_cons.mp ((h x).mp (List.mem_cons_of_mem _ hx)) with e | h1
      · rw [e] at hx
        exact absurd (hl.1 a hx) (ha _ _ (hl.1 a hx))
      · exact h1
    · intro hx
      rcases List.mem_cons.mp ((h x).mpr (List.mem_cons_of_mem _ hx)) with e | h1
      · rw [e] at hx
        exact absurd (hm.1 a hx) (ha _ _ (hm.1 a hx))
      · exact h1
theorem kjLt_asym (a b : Rw) (h : kjLt a b) : ¬ kjLt b a := by
  unfold kjLt at *
  omega
theorem ll_sorted (rs : List Rw) (bs : List Bd) (n : Nat) : (llL rs bs n).Pairwise kjLt := by
  unfold llL
  rw [List.pairwise_flatMap]
  refine ⟨fun i hi => ?_, List.Pairwise.imp_of_mem (fun {a b} ha hb hab x hx y hy => ?_) (List.pairwise_lt_range)⟩
  · unfold llRow
    rw [List.pairwise_filterMap]
    refine List.Pairwise.imp (fun {a b} hab x hx y hy => ?_) (List.pairwise_lt_range)
    unfold llOf at hx hy
    split at hx
    · split at hy
      · have hx := Option.some.inj hx
        have hy := Option.some.inj hy
        subst hx hy
        exact .inr ⟨rfl, hab⟩
      · cases hy
    · cases hx
  · unfold llRow at hx hy
    obtain ⟨j, _, e1⟩ := List.mem_filterMap.mp hx
    obtain ⟨j2, _, e2⟩ := List.mem_filterMap.mp hy
    unfold llOf at e1 e2
    split at e1
    · split at e2
      · have e1 := Option.some.inj e1
        have e2 := Option.some.inj e2
        subst e1 e2
        exact .inl (by show a + 1 < b + 1; omega)
      · cases e2
    · cases e1
def rwL (r : Rw) : List Int := [(r.1 : Int), (r.2.1 : Int), r.2.2]
def rwLe (a b : Rw) : Bool := !decide (rwL b < rwL a)
theorem rwLe_data (a b : Rw) : rwLe a b = dataLe false id (rwD a) (rwD b) := by
  rw [PySem.W.dataLe_eq]
  show _ = !dataLt (rwD b) (rwD a)
  unfold rwLe
  rw [← PySem.W.dataLt_ints]
  rfl
theorem rwL_lt (a b : Rw) : rwL a < rwL b ↔ ((a.1 : Int) < b.1 ∨ ((a.1 : Int) = b.1 ∧ ((a.2.1 : Int) < b.2.1 ∨ ((a.2.1 : Int) = b.2.1 ∧ a.2.2 < b.2.2)))) := by
  unfold rwL
  rw [List.cons_lt_cons_iff, List.cons_lt_cons_iff, List.cons_lt_cons_iff]
  simp
def srtRw (l : List Rw) : List Rw := l.mergeSort rwLe
theorem srtRw_eq (l : List Rw) : srtD (l.map rwD) = (srtRw l).map rwD := (sort_maps rwD fun a _ b _ => rwLe_data a b).symm
theorem rwLe_iff (a b : Rw) : rwLe a b = true ↔ ¬ rwL b < rwL a := by
  unfold rwLe
  simp
theorem srt_sorted (l : List Rw) : (srtRw l).Pairwise fun a b => rwLe a b = true := by
  refine List.pairwise_mergeSort (fun a b c h1 h2 => ?_) (fun a b => ?_) l
  · rw [rwLe_iff, rwL_lt] at *
    omega
  · rw [Bool.or_eq_true, rwLe_iff, rwLe_iff, rwL_lt, rwL_lt]
    omega
theorem pl_nodup (rs : List Rw) (bs : List Bd) : (plL rs bs).Pairwise fun a b => (a.1, a.2.1) ≠ (b.1, b.2.1) := by
  unfold plL
  rw [List.pairwise_filterMap]
  have h := (gw_all rs).nd
  rw [List.Nodup, List.pairwise_map] at h
  refine List.Pairwise.imp (fun {a b} hab x hx y hy => ?_) h
  unfold plOf at hx hy
  split at hx
  · split at hy
    · have hx := Option.some.inj hx
      have hy := Option.some.inj hy
      subst hx hy
      exact fun e => hab e
    · cases hy
  · cases hx
theorem srt_pl {rs : List Rw} {bs : List Bd} {n : Nat} (hn : ∀ r ∈ rs, r.1 ≤ n) : srtRw (plL rs bs) = llL rs bs n := by
  have hp : (srtRw (plL rs bs)).Perm (plL rs bs) := List.mergeSort_perm _ _
  refine eq_of_strict kjLt_asym ?_ (ll_sorted rs bs n) fun x => hp.mem_iff.trans (pl_ll hn x)
  have h1 := srt_sorted (plL rs bs)
  have h2 : (srtRw (plL rs bs)).Pairwise fun a b => (a.1, a.2.1) ≠ (b.1, b.2.1) := (hp.pairwise_iff fun {a b} h e => h e.symm).mpr (pl_nodup rs bs)
  refine (List.pairwise_and_iff.mpr ⟨h1, h2⟩).imp fun {a b} h => ?_
  obtain ⟨h3, h4⟩ := h
  rw [rwLe_iff, rwL_lt] at h3
  have h4 : ¬ (a.1 = b.1 ∧ a.2.1 = b.2.1) := fun e => h4 (Prod.ext e.1 e.2)
  unfold kjLt
  omega
open PySem PySem.Spec PyProof.Rows L2
open PySem.W (EachIs AllAlike Sortable)
/-- an own new dict is changed -/
theorem Ext.ownT {T : List (Addr × Str)} {ms : List Addr} {H H1 : Hp} {p : Addr} {kvs : List (List L2.Key × V)} {u : HO} (e : Ext T ms H H1) (hn : Nw H p) (h : H1 p = some (.dT kvs)) : Ext T ms H (upd H1 p u) := ⟨fun b x hb hx q => by
  rw [upd_ne (hn.ne q hx)]
  exact e.keep b x hb hx q, fun t => by
  intro q hq
  obtain ⟨ps, h1, h2, h3⟩ := e.tabs t q hq
  refine ⟨ps, ?_, h2, fun pos cv hc => ?_⟩
  · rw [upd_ne]
    · exact h1
    · intro z
      rw [z, h] at h1
      cases h1
  · obtain ⟨c, e1, e2⟩ := h3 pos cv hc
    refine ⟨c, e1, ?_⟩
    rw [upd_ne]
    · exact e2
    · intro z
      rw [z, h] at e2
      unfold LamX.CodeO at e2
      cases e2⟩
theorem dT.x {T : List (Addr × Str)} {H H' : Hp} {a : Addr} {kvs : List (List L2.Key × V)} (h : H a = some (.dT kvs)) (e : Ext T [] H H') : H' a = some (.dT kvs) := e.keep a _ (by simp) (fun _ z => by cases z) h
section
variable {K : PySem.W.Frag} {σ : L2.St} {H : Hp} {Q : VK} {td ty tv tx te : TE} {nx bk ct : L2.St → Hp → Prop} {rt : VK}
theorem rd_dput (q : tv σ H fun v H1 => td σ H1 fun x H2 => ty σ H2 fun y H3 => ∃ a H4, x = .ref a ∧ DPut H3 a y v H4 ∧ nx σ H4) : sDPut td ty tv ⟨nx, rt, bk, ct⟩ σ H := q
theorem rd_dget2 (q : td σ H fun x H1 => ∃ a, x = .ref a ∧ IsD H1 a ∧ ty σ H1 fun y H2 => tx σ H2 fun z H3 => ∃ o, DGet H3 a y o ∧ Q (o.getD z) H3) : tDGet2 td ty tx σ H Q := q
theorem rd_dnewT (q : ∀ p, H p = none → Q (.ref p) (upd H p (.dT []))) : tDNewT σ H Q := q
theorem rd_itemsT {R : It → Hp → Prop} (q : te σ H fun x H1 => ∃ (d : Addr) (kvs : List (List L2.Key × V)), x = .ref d ∧ H1 d = some (.dT kvs) ∧ ∀ o, R (ItiT d o kvs) (upd H1 d (.frz o (.dT kvs)))) : iItemsT te σ H R := q
end
def impB (r : Rw) : Bool := (decide (r.1 = r.2.1) && decide (r.2.2 > 0)) || (decide (0 < r.1) && decide (r.1 < r.2.1) && decide (r.2.2 > (r.1 : Int) - (r.2.1 : Int)))
noncomputable def torF (rs : List Rw) (bs : List Bd) (n : Nat) : Option (List Rw) :=
  if (rs.any impB) = true then none else if (rs.all fun r => !(decide (r.1 = 0) && decide (0 < r.2.1) && decide ((runF (llL rs bs n) [] [] (bs.map (·.2))).2.getD (r.2.1 - 1) 0 > 0 - r.2.2))) = true then some (llL rs bs n) else none
def opT : Option (List Rw) → PyData
  | none => .none
  | some t => .tuple (t.map rwD)
section
variable (T : List (Addr × Str)) (K : PySem.W.Frag)
def spGreat : Sp := fun vs H Q _ => ∃ (a : Addr) (kd : Bool) (rs : List Rw), vs = [.ref a] ∧ DsK K kd H a (rs.map rwD) ∧ rs.length ≤ 100 ∧ ∀ p H', Nw H p → Ext T [] H H' → H' p = some (.dT (kvG (gw rs))) → Q (.ref p) H'
def spImp : Sp := fun vs H Q _ => ∃ (v : V) (r : Rw), vs = [v] ∧ Im H v (rwD r) ∧ Q (.bl (impB r)) H
def spWaits : Sp := fun vs H Q _ => ∃ (a : Addr) (kd : Bool) (vb : V) (rs : List Rw) (bs : List Bd), vs = [.ref a, vb] ∧ DsK K kd H a (rs.map rwD) ∧ Im H vb (.tuple (bs.map bdD)) ∧ RwIn bs.length rs ∧ rs.length ≤ 100 ∧
  ∀ v H', Ext T [] H H' → Im H' v (.tuple ((llL rs bs bs.length).map rwD)) → Q v H'
def spMost : Sp := fun vs H Q _ => ∃ (vb : V) (bs : List Bd), vs = [vb] ∧ Im H vb (.tuple (bs.map bdD)) ∧ bs.length ≤ 100 ∧ ∀ v H', Ext T [] H H' → Im H' v (.tuple ((bs.map (·.2)).map .int)) → Q v H'
def spTor : Sp := fun vs H Q _ => ∃ (a : Addr) (kd : Bool) (vb : V) (rs : List Rw) (bs : List Bd), vs = [.ref a, vb] ∧ DsK K kd H a (rs.map rwD) ∧ Im H vb (.tuple (bs.map bdD)) ∧ RwIn bs.length rs ∧ rs.length ≤ 100 ∧ BdOk bs ∧ bs.length ≤ 6 ∧
  ∀ v H', Ext T [] H H' → Im H' v (opT (torF rs bs bs.length)) → Q v H'
def keepsB2 (rs : List Rw) (ms : List Int) : Bool := rs.all fun r => decide (fn (0 :: ms) r.1 - fn (0 :: ms) r.2.1 ≥ r.2.2)
def spKeeps2 : Sp := fun vs H Q _ => ∃ (a b : Addr) (k1 k2 : Bool) (rs : List Rw) (ms : List Int), vs = [.ref a, .ref b] ∧ DsK K k1 H a (rs.map rwD) ∧ SqK K k2 H b (ms.map V.int) ∧ RwIn ms.length rs ∧ ms.length ≤ 12 ∧ rs.length ≤ 100 ∧
  ∀ H', Ext T [] H H' → Q (.bl (keepsB2 rs ms)) H'
end
theorem bls_of2 {H : Hp} {g : Rw → Bool} : ∀ {ys xs : List V} {rs : List Rw}, EachIs (fun y x => ∃ r, Im H x (rwD r) ∧ y = V.bl (g r)) ys xs → ImAll H xs (rs.map rwD) → ys = (rs.map g).map V.bl
  | _, _, [], h1, h2 => by
    cases h2
    cases h1
    rfl
  | _, _, r :: rs, h1, h2 => by
    cases h2 with
    | cons a b =>
      cases h1 with
      | cons c d =>
        obtain ⟨r', c1, c2⟩ := c
        have e := rwD_inj (Im.inj _ _ _ a c1)
        rw [bls_of2 d b, c2, ← e]
        rfl
theorem alike_rw (l : List Rw) : AllAlike (l.map rwD) := fun d hd e he => by
  obtain ⟨y, _, rfl⟩ := List.mem_map.mp hd
  obtain ⟨z, _, rfl⟩ := List.mem_map.mp he
  rfl
theorem sortable_rw (l : List Rw) : Sortable (l.map rwD) := .inl fun d hd => by
  obtain ⟨y, _, rfl⟩ := List.mem_map.mp hd
  exact ⟨_, _, rfl⟩
theorem depth_rws (l : List Rw) : ∀ d ∈ l.map rwD, d.depth ≤ 60 := fun d hd => by
  obtain ⟨y, _, rfl⟩ := List.mem_map.mp hd
  show 0 + 1 ≤ 60
  omega
open PySem PySem.Spec PyProof.Rows L2
open PySem.W (EachIs AllAlike Sortable)
theorem eachs_of {α : Type} {f : α → PyData} (hf : ∀ a b, f a = f b → a = b) {H : Hp} {g : α → V} : ∀ {ys xs : List V} {as : List α}, EachIs (fun y x => ∃ r, Im H x (f r) ∧ y = g r) ys xs → ImAll H xs (as.map f) → ys = as.map g
  | _, _, [], h1, h2 => by
    cases h2
    cases h1
    rfl
  | _, _, r :: rs, h1, h2 => by
    cases h2 with
    | cons a b =>
      cases h1 with
      | cons c d =>
        obtain ⟨r', c1, c2⟩ := c
        have e := hf _ _ (Im.inj _ _ _ a c1)
        rw [eachs_of hf d b, c2, ← e]
        rfl
theorem bdD_inj (a b : Bd) (h : bdD a = bdD b) : a = b := by
  unfold bdD at h
  injection h with h
  injection h with h1 h
  injection h with h2 _
  injection h1 with h1
  injection h2 with h2
  exact Prod.ext h1 h2
theorem rd_any {K : PySem.W.Frag} {H : Hp} {Q : VK} {a : Addr} {bs : List Bool} (h : SqL K H a (bs.map V.bl)) (q : Q (.bl (bs.any id)) H) : rAny K [.ref a] H Q := ⟨a, bs, rfl, h, q⟩
theorem runF_len {tb : List Rw} : ∀ (ds as dn : List Int), (runF tb as dn ds).2.length = dn.length + ds.length
  | [], as, dn => rfl
  | d :: ds, as, dn => by
    show (runF tb (as ++ [askF tb dn]) (dn ++ [askF tb dn + d]) ds).2.length = _
    rw [runF_len ds]
    simp only [List.length_append, List.length_cons, List.length_nil]
    omega
theorem areD_most {bs : List Bd} (h : BdOk bs) : areD bs (bs.map (·.2)) = true := by
  refine areD_iff.mpr ⟨by rw [List.length_map], fun j hj => ?_⟩
  rw [List.length_map] at hj
  have hb := h bs[j] (List.getElem_mem hj)
  have e1 : bs.getD j (0, 0) = bs[j] := getD_of (List.getElem?_eq_getElem hj)
  have e2 : (bs.map (·.2)).getD j 0 = bs[j].2 := getD_of (by rw [List.getElem?_map, List.getElem?_eq_getElem hj]; rfl)
  rw [e1, e2]
  omega
theorem fn_cons {done : List Int} {j : Nat} (h : 0 < j) : fn (0 :: done) j = done.getD (j - 1) 0 := by
  unfold fn
  obtain ⟨i, rfl⟩ : ∃ i, j = i + 1 := ⟨j - 1, by omega⟩
  rfl
theorem tor_keeps {rs : List Rw} {done : List Int} (h : rs.any impB = false) :
    keepsB2 (rs.filter fun r => decide (r.1 = 0)) done = rs.all fun r => !(decide (r.1 = 0) && decide (0 < r.2.1) && decide (done.getD (r.2.1 - 1) 0 > 0 - r.2.2)) := by
  unfold keepsB2
  rw [List.all_filter]
  have all_c : ∀ {f g : Rw → Bool}, (∀ r ∈ rs, f r = g r) → rs.all f = rs.all g := by
    intro f g h
    rw [Bool.eq_iff_iff, List.all_eq_true, List.all_eq_true]
    exact ⟨fun h2 r hr => by rw [← h r hr]; exact h2 r hr, fun h2 r hr => by rw [h r hr]; exact h2 r hr⟩
  refine all_c fun r hr => ?_
  have hi : impB r = false := by
    cases e : impB r with
    | false => rfl
    | true => exact absurd (List.any_eq_true.mpr ⟨r, hr, e⟩) (by rw [h]; decide)
  by_cases c0 : r.1 = 0
  · have f0 : fn (0 :: done) r.1 = 0 := by rw [c0]; rfl
    rw [f0, decide_eq_true c0]
    by_cases c1 : 0 < r.2.1
    · rw [fn_cons c1, decide_eq_true c1]
      by_cases c2 : done.getD (r.2.1 - 1) 0 > 0 - r.2.2
      · rw [decide_eq_true c2, decide_eq_false (show ¬ 0 - done.getD (r.2.1 - 1) 0 ≥ r.2.2 by omega)]
        rfl
      · rw [decide_eq_false c2, decide_eq_true (show 0 - done.getD (r.2.1 - 1) 0 ≥ r.2.2 by omega)]
        rfl
    · have c1' : r.2.1 = 0 := by omega
      rw [decide_eq_false c1]
      have f1 : fn (0 :: done) r.2.1 = 0 := by rw [c1']; rfl
      rw [f1]
      have hl : r.2.2 ≤ 0 := by
        unfold impB at hi
        rw [Bool.or_eq_false_iff] at hi
        have h2 := hi.1
        rw [decide_eq_true (show r.1 = r.2.1 by omega), Bool.true_and] at h2
        have := of_decide_eq_false h2
        omega
      rw [decide_eq_true (show (0 : Int) - 0 ≥ r.2.2 by omega)]
      rfl
  · rw [decide_eq_false c0]
    rfl
theorem opT_dep (o : Option (List Rw)) : (opT o).depth ≤ 64 := by
  cases o with
  | none => show 0 ≤ 64; decide
  | some t =>
    show PyData.depthAll (t.map rwD) + 1 ≤ 64
    have := dep_map dep_rw2 t
    omega
open PySem PySem.Spec PyProof.Rows L2
theorem rd_cutT {c : TT} {σ : L2.St} {H : Hp} {Q : Bool → Hp → Prop} (Mid : Bool → Hp → Prop) (h1 : ∀ Q' : Bool → Hp → Prop, (∀ b H', Mid b H' → Q' b H') → c σ H Q') (h2 : ∀ b H', Mid b H' → Q b H') : c σ H Q := h1 Q h2
theorem rd_isnN {x : V} {H : Hp} {Q : VK} (q : Q (.bl (!decide (x = .non))) H) : rIsNU x .non H Q := .inr ⟨rfl, q⟩
theorem rd_neLs2 {K : PySem.W.Frag} {H : Hp} {Q : VK} {a b : Addr} {ds : List PyData} (ha : Ls H a ds) (hb : Ls H b ds) (hd : PyData.depth (.list ds) ≤ 64) (q : Q (.bl false) H) : rNeU K (.ref a) (.ref b) H Q := by
  have hs : SeqAt.shaped (.list ds) = true := by
    obtain ⟨xs, _, e2⟩ := ha
    unfold SeqAt.shaped
    rw [show PyData.canLay0 (.list ds) = true from ImAll.lay ds _ e2, decide_eq_true hd]
    rfl
  refine .inr ⟨_, _, ha.dp, hb.dp, hs, hs, ?_⟩
  have he : PyData.eqv (.list ds) (.list ds) = true := by
    obtain ⟨xs, _, e2⟩ := ha
    exact (ImAll.eqv ds ds _ _ e2 e2).mpr rfl
  rw [he]
  exact q
theorem dep_rws2 (rs : List Rw) : PyData.depth (.list (rs.map rwD)) ≤ 64 := by
  have h := dep_map (f := rwD) dep_rw2 rs
  show PyData.depthAll (rs.map rwD) + 1 ≤ 64
  omega
def spRows2 (T : List (Addr × Str)) : Sp := fun vs H Q _ => ∃ (l t : Addr) (n : Nat), vs = [.ref t, .int (n : Int)] ∧ 1 ≤ n ∧ n ≤ 6 ∧ Tape l H t ∧
  ∀ p H' rs, Nw H p → Ext T [t] H H' → Tape l H' t → Ls H' p (rs.map rwD) → RwIn n rs → rs.length ≤ 30 → Q (.ref p) H'

open PySem PySem.Spec PyProof.Rows L2
open PySem.W (ksFn ks_superIn)
theorem exm_selfE {K : PySem.W.Frag} {S : Addr} (h1 : PySem.W.subIn K (.ref S) (.type "BaseException") = some true) (h2 : PySem.W.hasDictIn K S = true) (h3 : PySem.W.typeIn K (.ref S) = some (.type "type")) (h4 : PySem.W.subIn K (.ref S) (.ref S) = some true) :
    PySem.W.exmOne K (.ref S) (.ref S) = some true := PySem.W.exm_ref h1 h2 h3 h4
/-- what the head has written of the code of a def of a class -/
structure InitIn (P : Program) (K : PySem.W.Frag) (fld : Str) (C fI : Addr) (parts : List Expr) (ps : List Pos) (p1 p2 q1 q2 q3 q4 : Pos) (qual : Str) : Prop where
  ex : ∃ (oc : Value) (od : Option Addr) (doc pm kV : Value) (an : Option Addr) (cda cc : Addr) (ct : Value) (osl : Array (Option Value)),
    K.lookup fI = some ⟨oc, od, .func (ksFn "__init__" qual (supA fld p1 p2) (supB fld parts ps q1 q2 q3 q4) (supS fld) .none kV doc pm an (.ref cda) ct cc), osl⟩ ∧ PySem.W.codeIn K (.ref cda) qual = true ∧
    (∃ ccl cdd vs ccs file tf, K.lookup cda = some ⟨ccl, cdd, .fields vs, ccs⟩ ∧ vs[2]? = some (.str file tf) ∧ ((P.main.file : Str) == file) = true) ∧
    (∃ cl cld csl, K.lookup cc = some ⟨cl, cld, .cell (some (.ref C)), csl⟩)
theorem InitIn.of {P : Program} {K : PySem.W.Frag} {fld : Str} {C fI : Addr} {parts : List Expr} {ps : List Pos} {p1 p2 q1 q2 q3 q4 : Pos} {qual : Str} {oc : Value} {od : Option Addr} {doc pm kV : Value} {an : Option Addr} {cda cc : Addr} {ct : Value} {osl : Array (Option Value)} {ccl : Value} {cdd : Option Addr} {vs : Array Value} {ccs : Array (Option Value)} {file : Str} {tf : Tok} {cl : Value} {cld : Option Addr} {csl : Array (Option Value)}
    (h1 : K.lookup fI = some ⟨oc, od, .func (ksFn "__init__" qual (supA fld p1 p2) (supB fld parts ps q1 q2 q3 q4) (supS fld) .none kV doc pm an (.ref cda) ct cc), osl⟩) (h2 : PySem.W.codeIn K (.ref cda) qual = true)
    (h3 : K.lookup cda = some ⟨ccl, cdd, .fields vs, ccs⟩) (h4 : vs[2]? = some (.str file tf)) (h5 : ((P.main.file : Str) == file) = true) (h6 : K.lookup cc = some ⟨cl, cld, .cell (some (.ref C)), csl⟩) : InitIn P K fld C fI parts ps p1 p2 q1 q2 q3 q4 qual :=
  ⟨oc, od, doc, pm, kV, an, cda, cc, ct, osl, h1, h2, ⟨ccl, cdd, vs, ccs, file, tf, h3, h4, h5⟩, ⟨cl, cld, csl, h6⟩⟩
structure ClsIn (P : Program) (K : PySem.W.Frag) (nm fld : Str) (C fI CN : Addr) : Prop where
  aC : PySem.W.nsIn K mainGlobals nm = some (some (.ref C))
  cls : ∃ nm q N bs sn sub ab col dd k0 k1 k2 k3 k5, K.lookup C = some (excClassObj nm q C N bs [.ref CN, .type "ValueError", .type "Exception", .type "BaseException", .type "object"] true sn sub ab col dd k0 k1 k2 k3 k5 "ValueError.__new__")
  sa : PySem.W.findIn K (.ref C) "__setattr__" = some (some (.builtin "object.__setattr__"))
  ga : PySem.W.findIn K (.ref C) "__getattribute__" = some (some (.builtin "BaseException.__getattribute__"))
  gg : PySem.W.findIn K (.ref C) "__getattr__" = some none
  noN : PySem.W.findIn K (.ref C) fld = some none
  iC : PySem.W.findIn K (.ref C) "__init__" = some (some (.ref fI))
  tC : PySem.W.typeIn K (.ref fI) = some (.type "function")
  kC : PySem.W.keepIn K (.ref C) = true
  exC : PySem.W.subIn K (.ref C) (.type "BaseException") = some true
  tyC : PySem.W.typeIn K (.ref C) = some (.type "type")
  hdC : PySem.W.hasDictIn K C = true
  sC : PySem.W.subIn K (.ref C) (.ref C) = some true
  sup : ks_superIn K C C "__init__" = some (some (.builtin "ValueError.__init__"))
  subV : PySem.W.subIn K (.ref C) (.type "ValueError") = some true
  selfC : PySem.W.mroIn K C (.ref C) = some true
  gsup : PySem.W.nsIn K mainGlobals "super" = some none
  opq : PySem.W.nsIn K cStatics "thirdparty.any" = some none
  ha : PySem.W.findIn K (.ref C) "__class__" = some (some (.builtin "object.__class__"))
  hn : PySem.W.specialIn K (.builtin "object.__class__") "__get__" = some (some (.builtin "getset_descriptor.__get__"))
  ht : PySem.W.takesIn K (.builtin "object.__class__") = some true
  hm : PySem.W.mroIn K C (.type "object") = some true
theorem ClsIn.of {P : Program} {K : PySem.W.Frag} {nm fld : Str} {C fI CN : Addr} {nm' q : Str} {N : Addr} {bs : List Value} {sn : List Str} {sub : List Value} {ab : Bool} {col : Option Bool} {dd : Option Addr} {k0 k1 k2 k3 k5 : Option Value}
    (aC : PySem.W.nsIn K mainGlobals nm = some (some (.ref C)))
    (cls : K.lookup C = some (excClassObj nm' q C N bs [.ref CN, .type "ValueError", .type "Exception", .type "BaseException", .type "object"] true sn sub ab col dd k0 k1 k2 k3 k5 "ValueError.__new__"))
    (sa : PySem.W.findIn K (.ref C) "__setattr__" = some (some (.builtin "object.__setattr__")))
    (ga : PySem.W.findIn K (.ref C) "__getattribute__" = some (some (.builtin "BaseException.__getattribute__")))
    (gg : PySem.W.findIn K (.ref C) "__getattr__" = some none)
    (noN : PySem.W.findIn K (.ref C) fld = some none)
    (iC : PySem.W.findIn K (.ref C) "__init__" = some (some (.ref fI)))
    (tC : PySem.W.typeIn K (.ref fI) = some (.type "function"))
    (kC : PySem.W.keepIn K (.ref C) = true)
    (exC : PySem.W.subIn K (.ref C) (.type "BaseException") = some true)
    (tyC : PySem.W.typeIn K (.ref C) = some (.type "type"))
    (hdC : PySem.W.hasDictIn K C = true)
    (sC : PySem.W.subIn K (.ref C) (.ref C) = some true)
    (sup : ks_superIn K C C "__init__" = some (some (.builtin "ValueError.__init__")))
    (subV : PySem.W.subIn K (.ref C) (.type "ValueError") = some true)
    (selfC : PySem.W.mroIn K C (.ref C) = some true)
    (gsup : PySem.W.nsIn K mainGlobals "super" = some none)
    (opq : PySem.W.nsIn K cStatics "thirdparty.any" = some none)
    (ha : PySem.W.findIn K (.ref C) "__class__" = some (some (.builtin "object.__class__")))
    (hn : PySem.W.specialIn K (.builtin "object.__class__") "__get__" = some (some (.builtin "getset_descriptor.__get__")))
    (ht : PySem.W.takesIn K (.builtin "object.__class__") = some true)
    (hm : PySem.W.mroIn K C (.type "object") = some true) : ClsIn P K nm fld C fI CN :=
  ⟨aC, ⟨nm', q, N, bs, sn, sub, ab, col, dd, k0, k1, k2, k3, k5, cls⟩, sa, ga, gg, noN, iC, tC, kC, exC, tyC, hdC, sC, sup, subV, selfC, gsup, opq, ha, hn, ht, hm⟩
theorem ExcT.of {P : Program} {K : PySem.W.Frag} {h : Heap} {mg : Str → Option Value} {nm fld : Str} {C fI CN : Addr} {parts : List Expr} {ps : List Pos} {p1 p2 q1 q2 q3 q4 : Pos} {qual : Str} (X : K.In h) (G : h.Ns mainGlobals mg) (c : ClsIn P K nm fld C fI CN) (i : InitIn P K fld C fI parts ps p1 p2 q1 q2 q3 q4 qual)
    (htop : (P.main.scope.names.lookup ("super" : Str)).isSome = false) (hp : PartsOk fld parts (pz ps 3)) (hc : CallOk fld parts ps) : ExcT P K mg nm fld C fI where
  gC := PySem.W.mg_of X G c.aC
  cls := by
    obtain ⟨nm, q, N, bs, sn, sub, ab, col, dd, k0, k1, k2, k3, k5, e⟩ := c.cls
    exact ⟨nm, q, N, bs, _, sn, sub, ab, col, dd, k0, k1, k2, k3, k5, e, rfl⟩
  sa := c.sa
  ga := c.ga
  gg := c.gg
  noN := c.noN
  iC := c.iC
  tC := c.tC
  kC := c.kC
  exC := c.exC
  tyC := c.tyC
  hdC := c.hdC
  te := exm_selfE c.exC c.hdC c.tyC c.sC
  sup := c.sup
  subV := c.subV
  selfC := c.selfC
  gsup := c.gsup
  opq := c.opq
  htop := htop
  fn := by
    obtain ⟨oc, od, doc, pm, kV, an, cda, cc, ct, osl, h1, h2, h3, h4⟩ := i.ex
    exact ⟨oc, od, doc, pm, kV, an, cda, cc, ct, osl, p1, p2, q1, q2, q3, q4, ps, parts, qual, h1, h2, h3, h4, hp, hc⟩
  ec := ⟨c.ga, c.gg, c.exC, c.hdC, c.ha, c.hn, c.ht, c.hm⟩
theorem parts2 {fld c1 : Str} {k1 : Nat} {p1 p2 p3 jp : Pos} (FO : FldOk fld) (hc : c1.length ≤ 100) : PartsOk fld [.Constant (.str c1) k1 p1, .FormattedValue (.Name fld p2) (-1) none p3] jp :=
  fun _ _ _ _ _ _ _ _ _ _ _ _ _ hn hv hs h => join2 hn hv hs FO.fl FO.db hc h
theorem parts3 {fld c1 c2 : Str} {k1 k2 : Nat} {p1 p2 p3 p4 jp : Pos} (FO : FldOk fld) (hc : c1.length ≤ 100) (hc2 : c2.length ≤ 100) : PartsOk fld [.Constant (.str c1) k1 p1, .FormattedValue (.Name fld p2) (-1) none p3, .Constant (.str c2) k2 p4] jp :=
  fun _ _ _ _ _ _ _ _ _ _ _ _ _ hn hv hs h => join3 hn hv hs FO.fl FO.db hc hc2 h

open PySem PySem.Spec PyProof.Rows L2
/-! enumerate(list, start=1) -/
def Ite1 (K : PySem.W.Frag) (a : Addr) : It :=
  ⟨fun i H => ∃ (xs : List V) (x : V), SqL K H a xs ∧ xs[i]? = some x, fun i H v H' => ∃ T x, v = .ref T ∧ H T = none ∧ H' = upd H T (.tup [.int ((i : Nat) + 1), x]) ∧ ∀ xs, SqL K H a xs → xs[i]? = some x, fun i H => ∃ xs : List V, SqL K H a xs ∧ xs.length = i⟩
theorem ne_iter {h : Heap} {it a : Addr} {i : Nat} {its : Array Value} (h1 : h.IsListIter it a i) (h2 : h.IsList a its) : a ≠ it := fun z => by
  subst z
  obtain ⟨o, q1, q2, _⟩ := h1
  obtain ⟨o2, q3, q4, _⟩ := h2
  rw [q1] at q3
  cases q3
  rw [q2] at q4
  injection q4 with q5
  exact absurd q5 (by decide)
theorem ne_enum {h : Heap} {e it a : Addr} {k : Int} {old : Value} {its : Array Value} (h1 : IsEnum h e it k old) (h2 : h.IsList a its) : e ≠ a := fun z => by
  subst z
  obtain ⟨o2, q3, q4, _⟩ := h2
  have h1 : h.get? e = some _ := h1
  rw [h1] at q3
  cases q3
  injection q4 with q5
  exact absurd q5 (by decide)
theorem turn_enum1 {P : Program} {w : World} {K : PySem.W.Frag} {elts : List Expr} {kk : Nat} {tpos : Pos} (a e it : Addr) :
    Turn P w K (.Tuple elts kk tpos) (Ite1 K a) [e, it] e (fun i h => (∃ old, IsEnum h e it ((i : Nat) + 1 : Int) old) ∧ h.IsListIter it a i ∧ e ≠ it) where
  mem := by simp
  obj := fun i h st b hb => by
    obtain ⟨⟨old, he⟩, ⟨o, ho, hc, hd⟩, _⟩ := st
    have e' : b = e ∨ b = it := by simpa using hb
    rcases e' with z | z
    · rw [z]; exact ⟨_, he, fun v q => nomatch q⟩
    · rw [z]; exact ⟨o, ho, fun v q => by rw [hd] at q; cases q⟩
  keep := fun i h h' st k => let ⟨⟨old, he⟩, hi, hne⟩ := st; ⟨⟨old, k e (by simp) _ he⟩, hi.at fun o q => k it (by simp) o q, hne⟩
  item := by
    intro X hP hw hK hc i pins s σ H E I hf st hg
    subst hP hw hK
    obtain ⟨⟨old, he⟩, hit, hne⟩ := st
    obtain ⟨xs, x, hq, hx⟩ := hg
    obtain ⟨its, rv, p, hz⟩ := I.list hq
    obtain ⟨u, hu, ru⟩ := rv.get hx
    have hel : e < s.heap.objs.size := Heap.lt_size he
    have hil : it < s.heap.objs.size := by obtain ⟨_, q, _⟩ := hit; exact Heap.lt_size q
    have hu0 : its.toArray[i]? = some u := by simpa using hu
    have hx2 : i < its.toArray.size := (Array.getElem?_eq_some_iff.mp hu0).1
    have hae : a ≠ it := ne_iter hit p.isList
    have hea : e ≠ a := ne_enum he p.isList
    refine wpAny_pyNext_enum_itemC (Draws.list (A := X.A.in1) (I.ok.hd hc) it a hae its.toArray) he ⟨hit, p.isList⟩ hx2 hne (by simp [hne, hea]) fun u' h' tk hu' ho hit' hT hsz hk => ?_
    have eu : u' = u := by
      have := hu'.symm.trans hu0
      exact Option.some.inj this
    subst eu
    refine ⟨_, rfl, wpAny_letOwnedTupleGo_enum (s := { s with heap := h', toks := tk + 1 }) ho fun h'' he' sb => ?_⟩
    have hT2 : h''.get? s.heap.objs.size = some { cls := .type "tuple", data := .seq #[.int ((i : Nat) + 1) tk, u'] } := (sb.2 _ (Nat.ne_of_gt hel)).trans hT
    have new : ObjOk X.prog X.w (upd H s.heap.objs.size (.tup [.int ((i : Nat) + 1), x])) h'' s.heap.objs.size (.tup [.int ((i : Nat) + 1), x]) :=
      ⟨by show 2 ≤ sizeLine; decide, [.int ((i : Nat) + 1) tk, u'], .cons ⟨_, rfl⟩ (.cons ru .nil), ⟨_, hT2, rfl, _, rfl⟩⟩
    have I1 : Inv X pins σ (upd H s.heap.objs.size (.tup [.int ((i : Nat) + 1), x])) { s with heap := h'', toks := tk + 1 } :=
      I.turnedNew (ch := [e, it]) (fun b ob hb q => (sb.2 b (fun z => hb (by simp [z]))).trans (hk b ob (fun z => hb (by simp [z])) (fun z => hb (by simp [z])) q)) hf (Nat.le_refl _) new
    refine ⟨.ref s.heap.objs.size, _, I1, rfl, ⟨_, x, rfl, I.hok.fresh (Nat.le_refl _), rfl, fun ys hy => by rw [I.list_inj hy hq]; exact hx⟩, ⟨⟨u', ?_⟩, hit'.1.at fun o q => (sb.2 it (Ne.symm hne)).trans q, hne⟩, fun b hb => ?_⟩
    · have e1 : ((i + 1 : Nat) : Int) + 1 = (i : Int) + 1 + 1 := by omega
      rw [e1]; exact he'
    · have hb' : b < s.heap.objs.size := by
        have e' : b = e ∨ b = it := by simpa using hb
        rcases e' with z | z
        · rw [z]; exact hel
        · rw [z]; exact hil
      rw [upd_ne (Nat.ne_of_lt hb')]
      exact (hf b hb).1
  done := by
    intro X hP hw hK hc i pins s σ H E I hf st hg
    subst hP hw hK
    obtain ⟨⟨old, he⟩, hit, hne⟩ := st
    obtain ⟨xs, hq, hx⟩ := hg
    obtain ⟨its, rv, p, hz⟩ := I.list hq
    obtain ⟨f0, f1, f2, f3, f4, f5⟩ := hf it (by simp)
    have hl := rv.length
    have hae : a ≠ it := ne_iter hit p.isList
    refine wpAny_pyNext_enum_endD (Draws.list (A := X.A.in1) (I.ok.hd hc) it a hae its.toArray) he ⟨?_, p.isList⟩ fun h' eb => ⟨rfl, I.turned (t' := s.toks) (fun b o hb q => eb b o hb q) f0 f1 f3 f4 f5⟩
    have e : its.toArray.size = i := by simp; omega
    rw [e]
    exact hit
  self := fun A i s Q E st h => let ⟨⟨_, he⟩, _⟩ := st; wpAny_pyIter_enum he h
def iEnum1 (K : PySem.W.Frag) (ta : TA) : TI := fun σ H R => ta σ H fun vs H1 => ∃ a xs, vs = [.ref a] ∧ SqL K H1 a xs ∧ R (Ite1 K a) H1
theorem pi_enum1 {X : Cx} {e : Expr} {ta : TA} {p pos tpos kp kpos : Pos} {elts : List Expr} {kk kc : Nat} (hg : Gl X "enumerate") (hm : X.mg "enumerate" = none) (ha : PA X [e] ta) (hs : starEach [e] X.env = [(false, eval e X.env)] := by rfl)
    (hall : (backToKw pos (keywordEach [⟨some "start", .Constant (.int 1) kc kp, kpos⟩] X.env)).all (·.1.isSome) = true := by rfl)
    (hkw : (backToKw pos (keywordEach [⟨some "start", .Constant (.int 1) kc kp, kpos⟩] X.env)).any (·.1.isNone) = false := by rfl) :
    PI X (.Tuple elts kk tpos) (.Call (.Name "enumerate" p) [e] [⟨some "start", .Constant (.int 1) kc kp, kpos⟩] pos) (iEnum1 X.K ta) := by
  refine ⟨fun pins s σ H R I h => ?_⟩
  refine wpAny_Call_Name_kw (ld_blt I hg hm boot_enumerate ?_)
  have hpl : ((backTo pos (starEach [e] X.env)).any (·.1) || (backToKw pos (keywordEach [⟨some "start", .Constant (.int 1) kc kp, kpos⟩] X.env)).any (·.1.isNone)) = false := by
    rw [hkw, hs]
    rfl
  refine PySem.W.callWith_of (P := fun _ => True) hpl (fun h _ => ⟨.machine, .inr (.inl rfl), PySem.W.Looks.of_pure rfl⟩) (evalArgs_kw2 hall (thn (ha.run pos pins s σ H _ I h) fun us s1 ⟨vs, H1, I1, r1, q1⟩ => ?_) hs)
  obtain ⟨a, xs, ex, hq, q⟩ := q1
  subst ex
  cases r1 with
  | cons r rr =>
    cases rr
    cases r
    show wpAny _ _ (evalAll [do let v ← eval (.Constant (.int 1) kc kp) X.env; standAt pos; pure v]) _ _ s1
    refine wpAny_evalAll_cons (wpAny_bind ?_)
    obtain ⟨its, rv, p', hz⟩ := I1.list hq
    refine wpAny_Constant_int ?_
    refine wpAny_bind (wpAny_standAt (wpAny_pure (wpAny_evalAll_nil ?_)))
    refine ⟨trivial, ?_⟩
    refine enum_begins_start (begins_list a its.toArray) p'.isList (by decide) (by decide) fun h' he hit hsz hk => wpAny_pyIter_enum he ?_
    have I2 : Inv X pins σ H1 { s1 with heap := h', toks := s1.toks + 1 } := I1.kept (t' := s1.toks + 1) hk
    refine ⟨s1.heap.objs.size + 1, [s1.heap.objs.size + 1, s1.heap.objs.size], _, _, H1, rfl, I2, turn_enum1 a (s1.heap.objs.size + 1) s1.heap.objs.size, ⟨⟨.none, ?_⟩, ⟨_, hit, rfl, rfl⟩, Nat.succ_ne_self _⟩, fun b hb => ?_, q⟩
    · exact he
    have e' : b = s1.heap.objs.size + 1 ∨ b = s1.heap.objs.size := by simpa using hb
    have hle : s1.heap.objs.size ≤ b := by
      rcases e' with z | z
      · rw [z]; exact Nat.le_add_right _ _
      · rw [z]; exact Nat.le_refl _
    exact I1.fpOk hle (I1.hok.fresh hle)
/-- enumerate(xs, start=1), turn by turn -/
theorem walk_enum1 {K : PySem.W.Frag} {a : Addr} {xs : List V} : Walk (Ite1 K a) xs.length (fun H => SqL K H a xs) (YPair (fun i => some (.int ((i : Nat) + 1))) (fun i => xs[i]?)) := by
  refine ⟨fun i _ hi q => ⟨xs, xs[i], q, by simp [hi]⟩, fun _ q => ⟨xs, q, rfl⟩, fun i H v H' _ q y => ?_⟩
  obtain ⟨T, x, h1, h2, h3, h4⟩ := y
  exact ⟨T, .int ((i : Nat) + 1), x, h1, h2, h3, rfl, h4 xs q⟩

open PySem PySem.Spec PyProof.Rows L2
abbrev S (l : List Nat) : Str := ⟨l.toArray⟩
theorem S_sg (x : Str) : S (sg x) = x := TL.mk_tl x
theorem sg_S (l : List Nat) : sg (S l) = l := rfl
/-! the text of a book: lines of entries -/
abbrev Ent := Str × Nat × Nat
def entD (e : Ent) : PyData := .tuple [.str e.1, .int (e.2.1 : Int), .int (e.2.2 : Int)]
def askedS : Str := "asked"
def doneS : Str := "done"
def digB (c : Nat) : Bool := decide (48 ≤ c) && decide (c ≤ 57)
def numBL (b : List Nat) : Bool := (decide (1 ≤ b.length) && (decide (b.length ≤ 5) && b.all digB)) && (decide (b = [48]) || !decide (b.head? = some 48))
def lastM (es : List Ent) : Nat := match es.getLast? with | none => 0 | some e => e.2.2
def lastK (es : List Ent) : Nat := match es.getLast? with | none => 0 | some e => e.2.1
def isEntV (es : List Ent) (e : Ent) : Bool :=
  if es.length % 2 = 0 then decide (e.1 = askedS) && (decide (lastM es < e.2.2) && decide (e.2.1 = es.length / 2 + 1))
  else decide (e.1 = doneS) && (decide (lastM es ≤ e.2.2) && decide (e.2.1 = lastK es))
def entL : List (List Nat) → Option Ent
  | [a, b, c] => if numBL b && numBL c then some (S a, NumText.digitsVal b, NumText.digitsVal c) else none
  | _ => none
def isEntL (es : List Ent) (ps : List (List Nat)) : Bool := match entL ps with | some e => isEntV es e | none => false
def wordsL (l : List Nat) : List (List Nat) := TL.spl [32] 0 [] l
def rdL : List (List Nat) → List Ent → Nat → Except Nat (List Ent)
  | [], es, _ => .ok es
  | l :: ls, es, k => match entL (wordsL l) with
    | some e => if isEntV es e = true then rdL ls (es ++ [e]) (k + 1) else .error k
    | none => .error k
def linesL (z : List Nat) : List (List Nat) := (TL.spl [10] 0 [] z).dropLast
def lineP (e : Ent) : List (List Nat) := [sg e.1, TL.numL e.2.1, TL.numL e.2.2]
def lineL (e : Ent) : List Nat := TL.joinL [32] (lineP e)
def nls (ls : List (List Nat)) : List Nat := (ls.map (· ++ [10])).flatten
theorem nls_cons (l : List Nat) (r : List (List Nat)) : nls (l :: r) = l ++ (10 :: nls r) := by
  unfold nls
  simp
theorem nls_app (a b : List (List Nat)) : nls (a ++ b) = nls a ++ nls b := by
  unfold nls
  simp
theorem spl_nls : ∀ (ls : List (List Nat)) (t : List Nat), (∀ l ∈ ls, 10 ∉ l) → 10 ∉ t → TL.spl [10] 0 [] (nls ls ++ t) = ls ++ [t]
  | [], t, _, ht => by
    have := TL.spl_last1 (s := 10) (S := []) (acc := []) ht
    exact this
  | l :: r, t, h, ht => by
    have h1 := TL.spl_part1 (s := 10) (S := []) (acc := []) (rest := nls r ++ t) (h l List.mem_cons_self)
    rw [nls_cons]
    have e : l ++ 10 :: nls r ++ t = l ++ ([10] ++ (nls r ++ t)) := by simp
    rw [e]
    refine h1.trans ?_
    rw [spl_nls r t (fun x hx => h x (List.mem_cons_of_mem _ hx)) ht]
    rfl
theorem lines_nls {ls : List (List Nat)} {t : List Nat} (h : ∀ l ∈ ls, 10 ∉ l) (ht : 10 ∉ t) : linesL (nls ls ++ t) = ls := by
  unfold linesL
  rw [spl_nls ls t h ht, List.dropLast_concat]
theorem take_nls : ∀ (ls : List (List Nat)) (m : Nat), (∀ l ∈ ls, 10 ∉ l) → ∃ w t, w ≤ ls.length ∧ 10 ∉ t ∧ (nls ls).take m = nls (ls.take w) ++ t
  | [], m, _ => ⟨0, [], Nat.le_refl _, by simp, by unfold nls; simp⟩
  | l :: r, m, h => by
    by_cases hm : m ≤ l.length
    · refine ⟨0, l.take m, Nat.zero_le _, fun hx => h l List.mem_cons_self (List.mem_of_mem_take hx), ?_⟩
      rw [nls_cons, List.take_append_of_le_length hm]
      rfl
    · obtain ⟨w, t, h1, h2, h3⟩ := take_nls r (m - (l.length + 1)) fun x hx => h x (List.mem_cons_of_mem _ hx)
      refine ⟨w + 1, t, by simpa using h1, h2, ?_⟩
      obtain ⟨d, rfl⟩ : ∃ d, m = l.length + (d + 1) := ⟨m - l.length - 1, by omega⟩
      have ed : l.length + (d + 1) - (l.length + 1) = d := by omega
      rw [ed] at h3
      rw [nls_cons, List.take_length_add_append, List.take_succ_cons, h3, List.take_succ_cons, nls_cons]
      simp
/-! numbers -/
theorem num_dig (n : Nat) : (TL.numL n).all digB = true := by
  have h := TL.numL_digits n
  rw [List.all_eq_true]
  intro c hc
  have := h c hc
  unfold digB
  rw [Bool.and_eq_true, decide_eq_true_eq, decide_eq_true_eq]
  exact this
theorem num_head : ∀ (n : Nat), 0 < n → (TL.numL n).head? ≠ some 48
  | n, h => by
    by_cases h1 : n < 10
    · rw [TL.numL_lt h1]
      intro e
      have e := Option.some.inj e
      omega
    · rw [TL.numL_step (by omega)]
      have ih := num_head (n / 10) (by omega)
      have hne := TL.numL_ne (n / 10)
      cases hl : TL.numL (n / 10) with
      | nil => exact absurd hl hne
      | cons a r =>
        rw [hl] at ih
        exact ih
theorem num_ok {n : Nat} (h : n < 100000) : numBL (TL.numL n) = true := by
  unfold numBL
  have h1 : 1 ≤ (TL.numL n).length := by
    have := TL.numL_ne n
    have := List.length_pos_iff.mpr this
    omega
  have h2 : (TL.numL n).length ≤ 5 := TL.numL_len (by decide) (by simpa using h)
  rw [decide_eq_true h1, decide_eq_true h2, num_dig]
  by_cases h0 : n = 0
  · subst h0
    rfl
  · rw [decide_eq_false (num_head n (by omega))]
    simp
theorem num_free {n s : Nat} (h : s < 48 ∨ 57 < s) : s ∉ TL.numL n := TL.numL_free h
/-! an entry's line -/
def freeP (ps : List (List Nat)) : Prop := ∀ p ∈ ps, 32 ∉ p ∧ 10 ∉ p
theorem words_join {ps : List (List Nat)} (hne : ps ≠ []) (h : freeP ps) : wordsL (TL.joinL [32] ps) = ps := TL.spl_join hne fun p hp => (h p hp).1
theorem join_free : ∀ {ps : List (List Nat)}, freeP ps → 10 ∉ TL.joinL [32] ps
  | [], _ => by simp [TL.joinL]
  | [p], h => (h p List.mem_cons_self).2
  | p :: q :: r, h => by
    show 10 ∉ p ++ ([32] ++ TL.joinL [32] (q :: r))
    have ih := join_free (ps := q :: r) fun x hx => h x (List.mem_cons_of_mem _ hx)
    intro hx
    rcases List.mem_append.mp hx with hx | hx
    · exact (h p List.mem_cons_self).2 hx
    · rcases List.mem_append.mp hx with hx | hx
      · simp at hx
      · exact ih hx
def EntOk (e : Ent) : Prop := (e.1 = askedS ∨ e.1 = doneS) ∧ e.2.1 < 100000 ∧ e.2.2 < 100000
theorem word_free {a : Str} (h : a = askedS ∨ a = doneS) : 32 ∉ sg a ∧ 10 ∉ sg a := by
  rcases h with rfl | rfl <;> decide +kernel
theorem line_free {e : Ent} (h : EntOk e) : freeP (lineP e) := fun p hp => by
  rcases List.mem_cons.mp hp with rfl | hp
  · exact word_free h.1
  rcases List.mem_cons.mp hp with rfl | hp
  · exact ⟨num_free (.inl (by decide)), num_free (.inl (by decide))⟩
  rw [List.mem_singleton.mp hp]
  exact ⟨num_free (.inl (by decide)), num_free (.inl (by decide))⟩
theorem line_words {e : Ent} (h : EntOk e) : entL (wordsL (lineL e)) = some e := by
  unfold lineL
  rw [words_join (by unfold lineP; simp) (line_free h)]
  show (if (numBL (TL.numL e.2.1) && numBL (TL.numL e.2.2)) = true then some (S (sg e.1), NumText.digitsVal (TL.numL e.2.1), NumText.digitsVal (TL.numL e.2.2)) else none) = some e
  rw [num_ok h.2.1, num_ok h.2.2, if_pos (show (true && true) = true from rfl)]
  rw [TL.numL_val, TL.numL_val, S_sg]
/-- a history that a book may hold -/
def Good (es : List Ent) : Prop := ∀ i e, es[i]? = some e → EntOk e ∧ isEntV (es.take i) e = true
theorem Good.take {es : List Ent} (h : Good es) (n : Nat) : Good (es.take n) := fun i e hi => by
  have hl : i < (es.take n).length := (List.getElem?_eq_some_iff.mp hi).1
  rw [List.length_take] at hl
  rw [List.getElem?_take_of_lt (by omega)] at hi
  have := h i e hi
  rw [List.take_take, Nat.min_eq_left (by omega)]
  exact this
theorem rdL_good {es : List Ent} (h : Good es) (rest : List (List Nat)) : ∀ (n : Nat), n ≤ es.length → ∀ k, rdL ((es.drop (es.length - n)).map lineL ++ rest) (es.take (es.length - n)) k = rdL rest es (k + n)
  | 0, _, k => by
    rw [Nat.sub_zero, List.drop_length, List.take_length]
    rfl
  | n + 1, hn, k => by
    have hi : es.length - (n + 1) < es.length := by omega
    have e1 : es.length - (n + 1) + 1 = es.length - n := by omega
    have hd := List.drop_eq_getElem_cons hi
    obtain ⟨g1, g2⟩ := h _ _ (List.getElem?_eq_getElem hi)
    rw [hd]
    show (match entL (wordsL (lineL es[es.length - (n + 1)])) with
      | some e => if isEntV (es.take (es.length - (n + 1))) e = true then rdL ((es.drop (es.length - (n + 1) + 1)).map lineL ++ rest) (es.take (es.length - (n + 1)) ++ [e]) (k + 1) else .error k
      | none => .error k) = _
    rw [line_words g1]
    show (if isEntV (es.take (es.length - (n + 1))) es[es.length - (n + 1)] = true then _ else _) = _
    rw [if_pos g2, List.take_append_getElem hi, e1, rdL_good h rest n (by omega) (k + 1)]
    congr 1
    omega
theorem rdL_all {es : List Ent} (h : Good es) (rest : List (List Nat)) : rdL (es.map lineL ++ rest) [] 1 = rdL rest es (es.length + 1) := by
  have := rdL_good h rest es.length (Nat.le_refl _) 1
  rw [Nat.sub_self] at this
  rw [Nat.add_comm]
  exact this
theorem rdL_one {es : List Ent} (h : Good es) : rdL (es.map lineL) [] 1 = .ok es := by
  have := rdL_all h []
  rw [List.append_nil] at this
  exact this
theorem Good.free {es : List Ent} (h : Good es) : ∀ l ∈ es.map lineL, 10 ∉ l := fun l hl => by
  obtain ⟨e, he, rfl⟩ := List.mem_map.mp hl
  obtain ⟨i, hi⟩ := List.getElem?_of_mem he
  exact join_free (line_free (h i e hi).1)
/-! lines that are no entry -/
theorem last_take {es : List Ent} {j : Nat} {e : Ent} (h : es[j]? = some e) : (es.take (j + 1)).getLast? = some e := by
  have hj := (List.getElem?_eq_some_iff.mp h).1
  rw [List.getLast?_eq_getElem?, List.length_take, Nat.min_eq_left (by omega), Nat.add_sub_cancel, List.getElem?_take_of_lt (by omega)]
  exact h
theorem lastM_take {es : List Ent} {j : Nat} {e : Ent} (h : es[j]? = some e) : lastM (es.take (j + 1)) = e.2.2 := by
  unfold lastM
  rw [last_take h]
theorem lastK_take {es : List Ent} {j : Nat} {e : Ent} (h : es[j]? = some e) : lastK (es.take (j + 1)) = e.2.1 := by
  unfold lastK
  rw [last_take h]
theorem entV_even {es : List Ent} {e : Ent} (h : es.length % 2 = 0) : isEntV es e = true ↔ e.1 = askedS ∧ lastM es < e.2.2 ∧ e.2.1 = es.length / 2 + 1 := by
  unfold isEntV
  rw [if_pos h, Bool.and_eq_true, Bool.and_eq_true, decide_eq_true_eq, decide_eq_true_eq, decide_eq_true_eq]
theorem entV_odd {es : List Ent} {e : Ent} (h : ¬ es.length % 2 = 0) : isEntV es e = true ↔ e.1 = doneS ∧ lastM es ≤ e.2.2 ∧ e.2.1 = lastK es := by
  unfold isEntV
  rw [if_neg h, Bool.and_eq_true, Bool.and_eq_true, decide_eq_true_eq, decide_eq_true_eq, decide_eq_true_eq]
theorem take_len {es : List Ent} {i : Nat} {e : Ent} (h : es[i]? = some e) : (es.take i).length = i := by
  have := (List.getElem?_eq_some_iff.mp h).1
  rw [List.length_take]
  omega
theorem good_pos {es : List Ent} (h : Good es) : ∀ (i : Nat) (e : Ent), es[i]? = some e → 1 ≤ e.2.1 ∧ 1 ≤ e.2.2 := by
  have even : ∀ (i : Nat) (e : Ent), i % 2 = 0 → es[i]? = some e → 1 ≤ e.2.1 ∧ 1 ≤ e.2.2 := fun i e hi he => by
    obtain ⟨_, g⟩ := h i e he
    rw [entV_even (by rw [take_len he]; exact hi)] at g
    omega
  intro i e he
  by_cases hi : i % 2 = 0
  · exact even i e hi he
  · obtain ⟨_, g⟩ := h i e he
    rw [entV_odd (by rw [take_len he]; exact hi)] at g
    obtain ⟨j, rfl⟩ : ∃ j, i = j + 1 := ⟨i - 1, by omega⟩
    have hj := (List.getElem?_eq_some_iff.mp he).1
    have hp : es[j]? = some es[j] := List.getElem?_eq_getElem (by omega)
    have g2 := even j _ (by omega) hp
    rw [lastM_take hp, lastK_take hp] at g
    omega
def otherS (a : Str) : Str := if a = askedS then doneS else askedS
def earlyN (pre : List Ent) (a : Str) : Nat := if a = doneS then lastM pre - 1 else lastM pre
def badP (pre : List Ent) (e : Ent) : List (List (List Nat)) :=
  let a := sg e.1
  let k := TL.numL e.2.1
  let m := TL.numL e.2.2
  [[sg (otherS e.1), k, m], [a, TL.numL (e.2.1 + 1), m], [a, k], [a, k, m, []], [[]], [a, 48 :: k, m], [a, [], k, m], [a, k, m ++ [120]], [a, k, 48 :: m],
   [a, k, TL.numL (earlyN pre e.1)], [a, TL.numL (e.2.1 - 1), m], [a, k, TL.numL 100000], [(sg e.1).map PyProof.Rows.up1]]
theorem num_zero {l : List Nat} (h : l ≠ []) : numBL (48 :: l) = false := by
  unfold numBL
  have e : (48 :: l = [48]) = False := by simpa using h
  rw [show decide (48 :: l = [48]) = false from decide_eq_false (by simpa using h), show decide ((48 :: l).head? = some 48) = true from decide_eq_true rfl]
  simp
theorem num_x (l : List Nat) : numBL (l ++ [120]) = false := by
  unfold numBL
  rw [List.all_append, show [120].all digB = false from by decide, Bool.and_false, Bool.and_false, Bool.and_false, Bool.false_and]
theorem entL3 {a b c : List Nat} (h : (numBL b && numBL c) = false) (pre : List Ent) : isEntL pre [a, b, c] = false := by
  unfold isEntL
  show (match (if (numBL b && numBL c) = true then some (S a, NumText.digitsVal b, NumText.digitsVal c) else none) with | some e => isEntV pre e | none => false) = false
  rw [h]
  rfl
theorem entL3t {a : Str} {k m : Nat} (hk : k < 100000) (hm : m < 100000) {pre : List Ent} (h : isEntV pre (a, k, m) = false) : isEntL pre [sg a, TL.numL k, TL.numL m] = false := by
  unfold isEntL
  show (match (if (numBL (TL.numL k) && numBL (TL.numL m)) = true then some (S (sg a), NumText.digitsVal (TL.numL k), NumText.digitsVal (TL.numL m)) else none) with | some e => isEntV pre e | none => false) = false
  rw [num_ok hk, num_ok hm, TL.numL_val, TL.numL_val, S_sg]
  exact h
theorem bad_not {es : List Ent} (h : Good es) {i : Nat} {e : Ent} (he : es[i]? = some e) : ∀ ps ∈ badP (es.take i) e, isEntL (es.take i) ps = false := by
  obtain ⟨⟨hw, hk, hm⟩, g⟩ := h i e he
  obtain ⟨p1, p2⟩ := good_pos h i e he
  have hlen := take_len he
  have key : (i % 2 = 0 ∧ e.1 = askedS ∧ lastM (es.take i) < e.2.2 ∧ e.2.1 = i / 2 + 1) ∨ (¬ i % 2 = 0 ∧ e.1 = doneS ∧ lastM (es.take i) ≤ e.2.2 ∧ e.2.1 = lastK (es.take i) ∧ 1 ≤ lastM (es.take i)) := by
    by_cases hi : i % 2 = 0
    · rw [entV_even (by rw [hlen]; exact hi), hlen] at g
      exact .inl ⟨hi, g⟩
    · rw [entV_odd (by rw [hlen]; exact hi)] at g
      refine .inr ⟨hi, g.1, g.2.1, g.2.2, ?_⟩
      obtain ⟨j, rfl⟩ : ∃ j, i = j + 1 := ⟨i - 1, by omega⟩
      have hj := (List.getElem?_eq_some_iff.mp he).1
      have hp : es[j]? = some es[j] := List.getElem?_eq_getElem (by omega)
      rw [lastM_take hp]
      exact (good_pos h j _ hp).2
  have had : ¬ askedS = doneS := by decide
  have hda : ¬ doneS = askedS := by decide
  have no : ∀ {a : Str} {k m : Nat}, (i % 2 = 0 → ¬ (a = askedS ∧ lastM (es.take i) < m ∧ k = i / 2 + 1)) → (¬ i % 2 = 0 → ¬ (a = doneS ∧ lastM (es.take i) ≤ m ∧ k = lastK (es.take i))) → isEntV (es.take i) (a, k, m) = false := by
    intro a k m h1 h2
    cases hv : isEntV (es.take i) (a, k, m) with
    | false => rfl
    | true =>
      by_cases hi : i % 2 = 0
      · rw [entV_even (by rw [hlen]; exact hi), hlen] at hv
        exact absurd hv (h1 hi)
      · rw [entV_odd (by rw [hlen]; exact hi)] at hv
        exact absurd hv (h2 hi)
  intro ps hps
  unfold badP at hps
  rcases List.mem_cons.mp hps with rfl | hps
  · refine entL3t hk hm (no (fun hi => ?_) (fun hi => ?_))
    · rcases key with ⟨_, ka, _⟩ | ⟨kn, _⟩
      · rw [ka]
        unfold otherS
        rw [if_pos rfl]
        exact fun x => hda x.1
      · exact absurd hi kn
    · rcases key with ⟨kn, _⟩ | ⟨_, ka, _⟩
      · exact absurd kn hi
      · rw [ka]
        unfold otherS
        rw [if_neg hda]
        exact fun x => had x.1
  rcases List.mem_cons.mp hps with rfl | hps
  · by_cases hk2 : e.2.1 + 1 < 100000
    · refine entL3t hk2 hm (no (fun hi => ?_) (fun hi => ?_))
      · rcases key with ⟨_, _, _, kk⟩ | ⟨kn, _⟩
        · omega
        · exact absurd hi kn
      · rcases key with ⟨kn, _⟩ | ⟨_, _, _, kk, _⟩
        · exact absurd kn hi
        · omega
    · have e1 : e.2.1 + 1 = 100000 := by omega
      rw [e1]
      exact entL3 (by rw [show numBL (TL.numL 100000) = false from by decide +kernel]; rfl) _
  rcases List.mem_cons.mp hps with rfl | hps
  · rfl
  rcases List.mem_cons.mp hps with rfl | hps
  · rfl
  rcases List.mem_cons.mp hps with rfl | hps
  · rfl
  rcases List.mem_cons.mp hps with rfl | hps
  · exact entL3 (by rw [num_zero (TL.numL_ne _)]; rfl) _
  rcases List.mem_cons.mp hps with rfl | hps
  · rfl
  rcases List.mem_cons.mp hps with rfl | hps
  · exact entL3 (by rw [num_x, Bool.and_false]) _
  rcases List.mem_cons.mp hps with rfl | hps
  · exact entL3 (by rw [num_zero (TL.numL_ne _), Bool.and_false]) _
  rcases List.mem_cons.mp hps with rfl | hps
  · refine entL3t hk (by unfold earlyN; split <;> omega) (no (fun hi => ?_) (fun hi => ?_))
    · rcases key with ⟨_, ka, _⟩ | ⟨kn, _⟩
      · rw [ka]
        unfold earlyN
        rw [if_neg had]
        omega
      · exact absurd hi kn
    · rcases key with ⟨kn, _⟩ | ⟨_, ka, _, _, kp⟩
      · exact absurd kn hi
      · rw [ka]
        unfold earlyN
        rw [if_pos rfl]
        omega
  rcases List.mem_cons.mp hps with rfl | hps
  · refine entL3t (by omega) hm (no (fun hi => ?_) (fun hi => ?_))
    · rcases key with ⟨_, _, _, kk⟩ | ⟨kn, _⟩
      · omega
      · exact absurd hi kn
    · rcases key with ⟨kn, _⟩ | ⟨_, _, _, kk, _⟩
      · exact absurd kn hi
      · omega
  rcases List.mem_cons.mp hps with rfl | hps
  · exact entL3 (by rw [show numBL (TL.numL 100000) = false from by decide +kernel, Bool.and_false]) _
  rw [List.mem_singleton.mp hps]
  rfl
theorem bad_free {es : List Ent} (h : Good es) {i : Nat} {e : Ent} (he : es[i]? = some e) : ∀ ps ∈ badP (es.take i) e, freeP ps ∧ ps ≠ [] := by
  obtain ⟨⟨hw, hk, hm⟩, g⟩ := h i e he
  have fn : ∀ n, 32 ∉ TL.numL n ∧ 10 ∉ TL.numL n := fun n => ⟨num_free (.inl (by decide)), num_free (.inl (by decide))⟩
  have fw := word_free hw
  have fo : 32 ∉ sg (otherS e.1) ∧ 10 ∉ sg (otherS e.1) := word_free (by unfold otherS; split <;> simp)
  have f0 : 32 ∉ ([] : List Nat) ∧ 10 ∉ ([] : List Nat) := by simp
  have fz : ∀ n, 32 ∉ 48 :: TL.numL n ∧ 10 ∉ 48 :: TL.numL n := fun n => by
    have := fn n
    simp [this.1, this.2]
  have fx : 32 ∉ TL.numL e.2.2 ++ [120] ∧ 10 ∉ TL.numL e.2.2 ++ [120] := by
    have := fn e.2.2
    simp [this.1, this.2]
  have fu : 32 ∉ (sg e.1).map PyProof.Rows.up1 ∧ 10 ∉ (sg e.1).map PyProof.Rows.up1 := by
    rcases hw with h | h <;> rw [h] <;> decide +kernel
  intro ps hps
  unfold badP at hps
  simp only [List.mem_cons, List.not_mem_nil, or_false] at hps
  rcases hps with rfl | rfl | rfl | rfl | rfl | rfl | rfl | rfl | rfl | rfl | rfl | rfl | rfl <;> refine ⟨?_, by simp⟩ <;> intro p hp <;> simp only [List.mem_cons, List.not_mem_nil, or_false] at hp
  · rcases hp with rfl | rfl | rfl
    · exact fo
    · exact fn _
    · exact fn _
  · rcases hp with rfl | rfl | rfl
    · exact fw
    · exact fn _
    · exact fn _
  · rcases hp with rfl | rfl
    · exact fw
    · exact fn _
  · rcases hp with rfl | rfl | rfl | rfl
    · exact fw
    · exact fn _
    · exact fn _
    · exact f0
  · rw [hp]
    exact f0
  · rcases hp with rfl | rfl | rfl
    · exact fw
    · exact fz _
    · exact fn _
  · rcases hp with rfl | rfl | rfl | rfl
    · exact fw
    · exact f0
    · exact fn _
    · exact fn _
  · rcases hp with rfl | rfl | rfl
    · exact fw
    · exact fn _
    · exact fx
  · rcases hp with rfl | rfl | rfl
    · exact fw
    · exact fn _
    · exact fz _
  · rcases hp with rfl | rfl | rfl
    · exact fw
    · exact fn _
    · exact fn _
  · rcases hp with rfl | rfl | rfl
    · exact fw
    · exact fn _
    · exact fn _
  · rcases hp with rfl | rfl | rfl
    · exact fw
    · exact fn _
    · exact fn _
  · rw [hp]
    exact fu
open PySem PySem.Spec PyProof.Rows L2
section
variable (T : List (Addr × Str)) (K : PySem.W.Frag)
def spEntLine : Sp := fun vs H Q _ => ∃ (v : V) (e : Ent), vs = [v] ∧ Im H v (entD e) ∧ EntOk e ∧ Q (.str (S (lineL e ++ [10]))) H
def spIsEnt : Sp := fun vs H Q _ => ∃ (a b : Addr) (es : List Ent) (ws : List (List Nat)), vs = [.ref a, .ref b] ∧ Ls H a (es.map entD) ∧ H b = some (.lst ((ws.map S).map V.str)) ∧ es.length ≤ 1000 ∧ ws.length ≤ 1001 ∧ (∀ x ∈ ws, x.length ≤ 1000) ∧
  ∀ H', Ext T [] H H' → Q (.bl (isEntL es ws)) H'
def lineS : Str := "line"
def spRead (C : Addr) : Sp := fun vs H Q E => ∃ z : Str, vs = [.str z] ∧ z.length ≤ 1000 ∧
  (∀ es, rdL (linesL (sg z)) [] 1 = .ok es → ∀ p H', Nw H p → Ext T [] H H' → Ls H' p (es.map entD) → Q (.ref p) H') ∧
  (∀ k, rdL (linesL (sg z)) [] 1 = .error k → ∀ d H', Ext T [] H H' → H' d = none → E (.ref C) (some d) (upd H' d (.xd [(lineS, .int (k : Int))])))
end
theorem Im.ent' {H : Hp} {v : V} {e : Ent} (h : Im H v (entD e)) : ∃ a, v = .ref a ∧ SqP H a [.str e.1, .int (e.2.1 : Int), .int (e.2.2 : Int)] := by
  obtain ⟨a, xs, rfl, h1, h2⟩ := h.tup'
  cases h2 with
  | cons a1 h2 =>
    cases h2 with
    | cons a2 h2 =>
      cases h2 with
      | cons a3 h2 =>
        cases h2
        cases a1
        cases a2
        cases a3
        exact ⟨a, rfl, h1⟩
theorem app_len2 (a b : Str) : (a ++ b).length = a.length + b.length := by rw [← sg_len, sg_app, List.length_append, sg_len, sg_len]
theorem num_len {n : Nat} (h : n < 100000) : (Str.ofString (toString ((n : Nat) : Int))).length ≤ 5 := by
  rw [← sg_len]
  show (TL.tl _).length ≤ 5
  rw [TL.tl_num]
  exact TL.numL_len (by decide) (by simpa using h)
theorem word_len {a : Str} (h : a = askedS ∨ a = doneS) : a.length ≤ 5 := by
  rcases h with rfl | rfl <;> decide +kernel
theorem sg_num (n : Nat) : sg (Str.ofString (toString ((n : Nat) : Int))) = TL.numL n := TL.tl_num n
theorem sg_sp : sg (Str.ofString " ") = [32] := by decide +kernel
theorem sg_nl : sg (Str.ofString "\n") = [10] := by decide +kernel
theorem sg_em : sg Str.empty = [] := rfl
open PySem PySem.Spec PyProof.Rows L2
/-! texts made of parts -/
theorem fs_s {y : Str} {C : Prop} {P : Str → Prop} (h : y.length ≤ sizeLine) (q : P y) : (∃ z : Str, V.str y = .str z ∧ z.length ≤ sizeLine ∧ P z) ∨ C := .inl ⟨y, rfl, h, q⟩
theorem fs_i {n : Nat} {C : Prop} {P : Int → Prop} (h : n < 2 ^ 64) (q : P (n : Int)) : C ∨ ∃ i : Int, V.int (n : Int) = .int i ∧ i.natAbs.log2 < 1920 ∧ P i := .inr ⟨_, rfl, by
  show n.log2 < 1920
  by_cases h0 : n = 0
  · subst h0; decide
  · exact Nat.lt_of_lt_of_le ((Nat.log2_lt h0).mpr h) (by decide), q⟩
theorem fs_y {y : Str} {P : Str → Prop} (q : P y) : ∃ z : Str, V.str y = .str z ∧ P z := ⟨y, rfl, q⟩
theorem sp_len : (Str.ofString " ").length = 1 := by decide +kernel
theorem nl_len : (Str.ofString "\n").length = 1 := by decide +kernel
theorem em_len : Str.empty.length = 0 := by decide +kernel
open PySem PySem.Spec PyProof.Rows L2
theorem rd_iteN {p A B : Prop} [Decidable p] (h1 : ¬ p → A) (h2 : p → B) : if (!decide p) = true then A else B := by
  by_cases h : p
  · rw [decide_eq_true h, if_neg (by decide)]
    exact h2 h
  · rw [decide_eq_false h, if_pos (by decide)]
    exact h1 h
theorem lastM_of {es : List Ent} {e : Ent} (h : es.getLast? = some e) : lastM es = e.2.2 := by
  unfold lastM
  rw [h]
theorem lastK_of {es : List Ent} {e : Ent} (h : es.getLast? = some e) : lastK es = e.2.1 := by
  unfold lastK
  rw [h]
theorem ent_last {H : Hp} {xs : List V} {es : List Ent} (h : ImAll H xs (es.map entD)) (hne : es ≠ []) : ∃ e a, es.getLast? = some e ∧ atI xs (-1) = some (.ref a) ∧ SqP H a [.str e.1, .int (e.2.1 : Int), .int (e.2.2 : Int)] := by
  have hl : es.length - 1 < es.length := by have := List.length_pos_iff.mpr hne; omega
  have e1 : (es.map entD)[es.length - 1]? = some (entD es[es.length - 1]) := by rw [List.getElem?_map, List.getElem?_eq_getElem hl]; rfl
  obtain ⟨u, h1, h2⟩ := h.get e1
  obtain ⟨a, rfl, h3⟩ := h2.ent'
  refine ⟨_, a, ?_, at_last ?_, h3⟩
  · rw [List.getLast?_eq_getElem?, List.getElem?_eq_getElem hl]
  · rw [List.getLast?_eq_getElem?, h.len, List.length_map]
    exact h1
theorem rd_iteNB {b : Bool} {A B : Prop} (h1 : b = false → A) (h2 : b = true → B) : if (!b) = true then A else B := by
  cases b with
  | true =>
    rw [if_neg (by decide)]
    exact h2 rfl
  | false =>
    rw [if_pos (by decide)]
    exact h1 rfl
theorem rd_iteB {b : Bool} {A B : Prop} (h1 : b = true → A) (h2 : b = false → B) : if b = true then A else B := by
  cases b with
  | true =>
    rw [if_pos rfl]
    exact h1 rfl
  | false =>
    rw [if_neg (by decide)]
    exact h2 rfl
open PySem PySem.Spec PyProof.Rows L2
theorem spl_hit1 {s : Nat} (acc r : List Nat) : TL.spl [s] 0 acc (s :: r) = acc :: TL.spl [s] 0 [] r := by
  have h := TL.spl_part1 (s := s) (S := []) (p := []) (acc := acc) (rest := r) (by simp)
  rw [List.append_nil] at h
  exact h
theorem spl_miss1 {s c : Nat} (h : c ≠ s) (acc r : List Nat) : TL.spl [s] 0 acc (c :: r) = TL.spl [s] 0 (acc ++ [c]) r := TL.spl_miss (TL.pre_of_head [] r h)
theorem spl_size (s : Nat) : ∀ (l acc : List Nat), (TL.spl [s] 0 acc l).length ≤ l.length + 1
  | [], acc => by rw [TL.spl_nil]; simp
  | c :: r, acc => by
    by_cases h : c = s
    · subst h
      rw [spl_hit1, List.length_cons, List.length_cons]
      have := spl_size c r []
      omega
    · rw [spl_miss1 h, List.length_cons]
      have := spl_size s r (acc ++ [c])
      omega
theorem spl_each (s : Nat) : ∀ (l acc : List Nat) (x : List Nat), x ∈ TL.spl [s] 0 acc l → x.length ≤ acc.length + l.length
  | [], acc, x, h => by
    rw [TL.spl_nil, List.mem_singleton] at h
    rw [h]
    simp
  | c :: r, acc, x, h => by
    by_cases hc : c = s
    · subst hc
      rw [spl_hit1] at h
      rcases List.mem_cons.mp h with h | h
      · rw [h]
        omega
      · have := spl_each c r [] x h
        simp only [List.length_nil, List.length_cons] at this ⊢
        omega
    · rw [spl_miss1 hc] at h
      have := spl_each s r _ x h
      simp only [List.length_append, List.length_cons, List.length_nil] at this ⊢
      omega
theorem map_S_sg : ∀ l : List Str, (l.map sg).map S = l
  | [] => rfl
  | a :: r => by
    rw [List.map_cons, List.map_cons, S_sg, map_S_sg r]
theorem split_nl (z : Str) : Txt.split z (Str.ofString "\n") = (TL.spl [10] 0 [] (sg z)).map S := by
  have h := TL.split_spl z (Str.ofString "\n") (by rw [show TL.tl (Str.ofString "\n") = [10] from sg_nl]; simp) (TL.kind_ok (by decide +kernel))
  rw [show TL.tl (Str.ofString "\n") = [10] from sg_nl] at h
  rw [← map_S_sg (Txt.split z (Str.ofString "\n"))]
  exact congrArg (List.map S) h
theorem split_sp (l : List Nat) : Txt.split (S l) (Str.ofString " ") = (wordsL l).map S := by
  have h := TL.split_spl (S l) (Str.ofString " ") (by rw [show TL.tl (Str.ofString " ") = [32] from sg_sp]; simp) (TL.kind_ok (by decide +kernel))
  rw [show TL.tl (Str.ofString " ") = [32] from sg_sp] at h
  rw [← map_S_sg (Txt.split (S l) (Str.ofString " "))]
  exact congrArg (List.map S) h
theorem lines_len (z : List Nat) : (linesL z).length ≤ z.length := by
  unfold linesL
  rw [List.length_dropLast]
  have := spl_size 10 z []
  omega
theorem lines_each {z x : List Nat} (h : x ∈ linesL z) : x.length ≤ z.length := by
  have := spl_each 10 z [] x ((List.dropLast_sublist _).mem h)
  simpa using this
theorem words_len (l : List Nat) : (wordsL l).length ≤ l.length + 1 := spl_size 32 l []
theorem words_each {l x : List Nat} (h : x ∈ wordsL l) : x.length ≤ l.length := by
  have := spl_each 32 l [] x h
  simpa using this
theorem entL_cases {ps : List (List Nat)} {e : Ent} (h : entL ps = some e) : ∃ a b c, ps = [a, b, c] ∧ numBL b = true ∧ numBL c = true ∧ e = (S a, NumText.digitsVal b, NumText.digitsVal c) := by
  unfold entL at h
  split at h
  · rename_i a b c
    split at h
    · rename_i hb
      rw [Bool.and_eq_true] at hb
      exact ⟨a, b, c, rfl, hb.1, hb.2, (Option.some.inj h).symm⟩
    · cases h
  · cases h
theorem ent_new {H : Hp} {e : Ent} {a : Addr} (h : H a = some (.tup [.str e.1, .int (e.2.1 : Int), .int (e.2.2 : Int)])) (hs : PyData.strOk e.1 = true) : Im H (.ref a) (entD e) := .new3 (.str _ hs) (.int _) (.int _) h
open PySem L2
theorem rd_enum1 {K : PySem.W.Frag} {ta : TA} {σ : L2.St} {H : Hp} {R : It → Hp → Prop} (q : ta σ H fun vs H1 => ∃ a xs, vs = [.ref a] ∧ SqL K H1 a xs ∧ R (Ite1 K a) H1) : iEnum1 K ta σ H R := q

open PySem PySem.Spec PyProof.Rows L2
/-! own classes: methods that may raise, called under a try -/
section
def MeX (P : Program) (w : World) (K : PySem.W.Frag) (mg : Str → Option Value) (base : Heap) (k : Nat) (C : Addr) (m : Str) (ps : List Str) (sp : Sp) : Prop :=
  ∃ (f : Addr) (fd : FuncData), (Cls K C ∧ Meth K C m f) ∧ FnOk P w K mg base (L2.CX P w) k f fd ps sp ∧ Binds K fd ps []
/-- such a method called with exceptions going to E -/
def tMethS (C : Addr) (m : Str) (sp : Sp) (E : L2.St → XK) (ta : TE) (t : TA) : TE := fun σ H Q => ta σ H fun x H1 => ∃ (a dx : Addr) (fs : List (Str × V)), x = .ref a ∧ H1 a = some (.ins C dx fs) ∧ fs.lookup m = none ∧ t σ H1 fun vs H2 => sp (.ref a :: vs) H2 Q (E σ)
variable {X : Cx} {C : Addr} {m : Str} {k : Nat} {ps : List Str} {sp : Sp} {W : WX}
theorem pe_methX {pos apos : Pos} {e o : Expr} {es : List Expr} {ta : TE} {t : TA} {pl : Sem Bool} (h : MeX X.prog X.w X.K X.mg X.base k C m ps sp) (hr : Room k X.A) (tk : Takes X W) (ho : PE X o ta) (ha : PA X (e :: es) t)
    (hs : starEach (e :: es) X.env = (false, eval e X.env) :: starEach es X.env := by rfl) (hp : (backTo pos (starEach es X.env)).any (·.1) = false := by rfl)
    (hev : eval ((o.Attribute m apos).Call (e :: es) [] pos) X.env = (do
      let ov ← eval o X.env
      standAt apos.atName
      let y ← holding [ov] (getMethod ov m pl)
      match y with
        | (f, first) => callWith pos f first (backTo pos (starEach (e :: es) X.env)) (backToKw pos (keywordEach [] X.env))) := by rfl) :
    PE X ((o.Attribute m apos).Call (e :: es) [] pos) (tMethS C m sp (WE W) ta t) := by
  obtain ⟨f, fd, ⟨c, M⟩, F, hb⟩ := h
  constructor
  intro pins s σ H Q I q0
  refine PySem.W.methodCall_KW (pl := pl) (thn (ho.run pins s σ H _ I q0) fun u s1 h1 => ?_) hev
  obtain ⟨x, H1, I1, rx, a, dx, fs, ex, ea, lk, q⟩ := h1
  subst ex
  cases rx
  refine getmeth_ok I1 ea c M lk (PySem.W.callWith_K (h₀ := X.base) I.ok.mod.kin M.kp (thn (ha.run pos pins s1 σ H1 _ I1 q) fun us s2 h2 => ?_) hs hp)
  obtain ⟨vs, H2, I2, r, q2⟩ := h2
  exact ⟨I2.kIn, run_fnS (us := .ref a :: us) (vs := .ref a :: vs) F hr hb (passAt tk σ) I2 (.cons rfl r) q2⟩
end
section
variable {K : PySem.W.Frag} {σ : L2.St} {H : Hp} {Q : VK} {ta : TE}
theorem rd_methS {C : Addr} {m : Str} {sp : Sp} {E : L2.St → XK} {t : TA} (q : ta σ H fun x H1 => ∃ (a dx : Addr) (fs : List (Str × V)), x = V.ref a ∧ H1 a = some (HO.ins C dx fs) ∧ fs.lookup m = none ∧ t σ H1 fun vs H2 => sp (.ref a :: vs) H2 Q (E σ)) : tMethS C m sp E ta t σ H Q := q
end
/-! ### an own class: made, its fields, its methods -/
section
variable {P : Program} {w : World} {K : PySem.W.Frag} {mg : Str → Option Value} {base : Heap}
def MkO (P : Program) (w : World) (K : PySem.W.Frag) (mg : Str → Option Value) (base : Heap) (k : Nat) (x : Str) (C : Addr) (ps : List Str) (sp : Sp) : Prop :=
  ∃ (f : Addr) (fd : FuncData), Mk K C f ∧ FnOk P w K mg base CX0 k f fd ps sp ∧ mg x = some (.ref C) ∧ Binds K fd ps []
def MeO (P : Program) (w : World) (K : PySem.W.Frag) (mg : Str → Option Value) (base : Heap) (k : Nat) (C : Addr) (m : Str) (ps : List Str) (sp : Sp) : Prop :=
  ∃ (f : Addr) (fd : FuncData), Cls K C ∧ Meth K C m f ∧ FnOk P w K mg base CX0 k f fd ps sp ∧ Binds K fd ps []
variable {X : Cx}
theorem pe_makeO {k : Nat} {C : Addr} {ps : List Str} {sp : Sp} {x : Str} {p pos : Pos} {e : Expr} {es : List Expr} {t : TA} (h : MkO X.prog X.w X.K X.mg X.base k x C ps sp) (hr : Room (k + 1) X.A) (hg : Gl X x) (ha : PA X (e :: es) t)
    (hdb : (x == ("__debug__" : Str)) = false := by decide) (he : starEach (e :: es) X.env = (false, eval e X.env) :: starEach es X.env := by rfl) (hpl : (backTo pos (starEach es X.env)).any (·.1) = false := by rfl) :
    PE X (.Call (.Name x p) (e :: es) [] pos) (tMake C sp [] E0 t) := by
  obtain ⟨f, fd, M, F, hm, hb⟩ := h
  exact pe_make M F hr hg hm hb .nil pass0 ha hdb he hpl
theorem pe_methO0 {k : Nat} {C : Addr} {ps : List Str} {sp : Sp} {m : Str} {pos apos : Pos} {o : Expr} {ta : TE} {pl : Sem Bool} (h : MeO X.prog X.w X.K X.mg X.base k C m ps sp) (hr : Room k X.A) (ho : PE X o ta)
    (hev : eval ((o.Attribute m apos).Call [] [] pos) X.env = (do
      let ov ← eval o X.env
      standAt apos.atName
      let y ← holding [ov] (getMethod ov m pl)
      match y with
        | (f, first) => callWith pos f first (backTo pos (starEach [] X.env)) (backToKw pos (keywordEach [] X.env))) := by rfl) :
    PE X ((o.Attribute m apos).Call [] [] pos) (tMeth C m sp [] E0 ta tNil) := by
  obtain ⟨f, fd, c, M, F, hb⟩ := h
  exact pe_meth0 ho c M F hr hb .nil pass0 hev
theorem pe_methO {k : Nat} {C : Addr} {ps : List Str} {sp : Sp} {m : Str} {pos apos : Pos} {e o : Expr} {es : List Expr} {ta : TE} {t : TA} {pl : Sem Bool} (h : MeO X.prog X.w X.K X.mg X.base k C m ps sp) (hr : Room k X.A) (ho : PE X o ta) (ha : PA X (e :: es) t)
    (he : starEach (e :: es) X.env = (false, eval e X.env) :: starEach es X.env := by rfl) (hpl : (backTo pos (starEach es X.env)).any (·.1) = false := by rfl)
    (hev : eval ((o.Attribute m apos).Call (e :: es) [] pos) X.env = (do
      let ov ← eval o X.env
      standAt apos.atName
      let __x ← holding [ov] (getMethod ov m pl)
      match __x with
        | (f, first) => callWith pos f first (backTo pos (starEach (e :: es) X.env)) (backToKw pos (keywordEach [] X.env))) := by rfl) :
    PE X ((o.Attribute m apos).Call (e :: es) [] pos) (tMeth C m sp [] E0 ta t) := by
  obtain ⟨f, fd, c, M, F, hb⟩ := h
  exact pe_meth ho c M F hr hb .nil pass0 ha he hpl hev
end
section
variable {K : PySem.W.Frag} {σ : L2.St} {H : Hp} {Q : VK} {ta : TE}
theorem rd_fld {f : Str} (q : ta σ H fun x H1 => ∃ a C dx fs v, x = V.ref a ∧ H1 a = some (HO.ins C dx fs) ∧ Cls K C ∧ NoAttr K C f ∧ fs.lookup f = some v ∧ Q v H1) : tFld K ta f σ H Q := q
theorem rd_meth {C : Addr} {m : Str} {sp : Sp} {E : XK} {t : TA} (q : ta σ H fun x H1 => ∃ a dx fs, x = V.ref a ∧ H1 a = some (HO.ins C dx fs) ∧ fs.lookup m = none ∧ t σ H1 fun vs H2 => sp (x :: (vs ++ [])) H2 Q E) : tMeth C m sp [] E ta t σ H Q := q
theorem rd_make {C : Addr} {sp : Sp} {E : XK} {t : TA} (q : t σ H fun vs H1 => ∀ x dx, H1 x = none → H1 dx = none → dx ≠ x → sp (.ref x :: (vs ++ [])) (upd (upd H1 dx (.own x)) x (.ins C dx [])) (fun v H2 => v = .non ∧ Q (.ref x) H2) E) : tMake C sp [] E t σ H Q := q
end

open PySem PySem.Spec PyProof.Rows L2
/-! own classes: made under a try; methods where nothing is raised -/
section
def MkX (P : Program) (w : World) (K : PySem.W.Frag) (mg : Str → Option Value) (base : Heap) (k : Nat) (x : Str) (C : Addr) (ps : List Str) (sp : Sp) : Prop :=
  ∃ (f : Addr) (fd : FuncData), Mk K C f ∧ FnOk P w K mg base (L2.CX P w) k f fd ps sp ∧ mg x = some (.ref C) ∧ Binds K fd ps []
def tMakeS (C : Addr) (sp : Sp) (E : L2.St → XK) (t : TA) : TE := fun σ H Q => t σ H fun vs H1 => ∀ x dx, H1 x = none → H1 dx = none → dx ≠ x →
  sp (.ref x :: vs) (upd (upd H1 dx (.own x)) x (.ins C dx [])) (fun v H2 => v = .non ∧ Q (.ref x) H2) (E σ)
variable {X : Cx} {C : Addr} {k : Nat} {ps : List Str} {sp : Sp} {W : WX}
theorem runs_make {pn : List (Addr × Obj)} {σ : L2.St} {H : Hp} {sh : Shared} {Q : VK} {ws : List Value} {vs : List V} {f : Addr} {fd : FuncData} {E : XK} (M : Mk X.K C f) (F : FnOk X.prog X.w X.K X.mg X.base (L2.CX X.prog X.w) k f fd ps sp) (hr : Room (k + 1) X.A) (hb : Binds X.K fd ps [])
    (hx : PassesAt (L2.CX X.prog X.w) X σ E) (I : Inv X pn σ H sh) (r : Vals vs ws)
    (h : ∀ x dx, H x = none → H dx = none → dx ≠ x → sp (.ref x :: vs) (upd (upd H dx (.own x)) x (.ins C dx [])) (fun v H2 => v = .non ∧ Q (.ref x) H2) E) :
    wpAny (model X.prog X.w) X.A (call (.ref C) ws) (EP X pn σ Q) X.xe sh := by
  have q0 := h _ _ (I.hok.fresh (Nat.le_succ sh.heap.objs.size)) (I.hok.fresh (Nat.le_refl sh.heap.objs.size)) (Nat.ne_of_lt (Nat.lt_succ_self sh.heap.objs.size))
  have J := Inv.made (C := C) I
  have rr : Vals (V.ref (sh.heap.objs.size + 1) :: vs) (Value.ref (sh.heap.objs.size + 1) :: ws) := .cons rfl r
  have len : (Value.ref (sh.heap.objs.size + 1) :: ws ++ []).length = ps.length := by
    rw [List.append_nil, ← rr.length]
    exact F.len _ _ _ _ q0
  have b := hb _ (Value.ref (sh.heap.objs.size + 1) :: ws) J.kIn len
  rw [List.append_nil] at b
  have go := F.run _ X.stack _ _ ⟨Value.ref (sh.heap.objs.size + 1) :: ws, []⟩ _ _ _ E (hr.make C ws []) (J.env0.make C ws []) b rr q0
  refine wpAny_call (make_map (f := f) I.kIn M.makes M.init (beq_iff_eq.mp M.fn) (codeAny_mono go fun r s2 hq => ?_))
  cases r with
  | error e => exact hx pn _ _ e s2 J hq
  | ok fl =>
    cases fl with
    | ret u =>
      obtain ⟨v, H2, J2, rv, ev, q3⟩ := J.after hq
      cases ev
      exact ⟨rv, ⟨V.ref _, H2, J2, rfl, q3⟩⟩
    | next => exact hq.elim
    | brk => exact hq.elim
    | cont => exact hq.elim
theorem pe_makeX {x : Str} {p pos : Pos} {e : Expr} {es : List Expr} {t : TA} (h : MkX X.prog X.w X.K X.mg X.base k x C ps sp) (hr : Room (k + 1) X.A) (hg : Gl X x) (tk : Takes X W) (ha : PA X (e :: es) t)
    (hdb : (x == ("__debug__" : Str)) = false := by decide) (he : starEach (e :: es) X.env = (false, eval e X.env) :: starEach es X.env := by rfl) (hpl : (backTo pos (starEach es X.env)).any (·.1) = false := by rfl) :
    PE X (.Call (.Name x p) (e :: es) [] pos) (tMakeS C sp (WE W) t) := by
  obtain ⟨f, fd, M, F, hm, hb⟩ := h
  constructor
  intro pn sh σ H Q I q
  refine wpAny_Call_Name_kw (ld_glob I hg hm ?_ hdb)
  refine PySem.W.callWith_K (h₀ := X.base) I.ok.mod.kin M.kp (thn (ha.run pos pn sh σ H _ I q) fun us s1 hh => ?_) he hpl
  obtain ⟨vs, H1, I1, r, q1⟩ := hh
  exact ⟨I1.kIn, runs_make M F hr hb (passAt tk σ) I1 r q1⟩
end
section
variable {K : PySem.W.Frag} {σ : L2.St} {H : Hp} {Q : VK}
theorem rd_makeS {C : Addr} {sp : Sp} {E : L2.St → XK} {t : TA} (q : t σ H fun vs H1 => ∀ x dx, H1 x = none → H1 dx = none → dx ≠ x → sp (.ref x :: vs) (upd (upd H1 dx (.own x)) x (.ins C dx [])) (fun v H2 => v = .non ∧ Q (.ref x) H2) (E σ)) : tMakeS C sp E t σ H Q := q
end
section
variable {P : Program} {w : World} {K : PySem.W.Frag} {mg : Str → Option Value} {base : Heap}
theorem fnOk0 {k : Nat} {f : Addr} {fd : FuncData} {ps : List Str} {sp : Sp} (F : FnOk P w K mg base (L2.CX P w) k f fd ps sp) : FnOk P w K mg base CX0 k f fd ps (sp0 sp) := by
  refine ⟨fun vs H Q E h => F.len vs H Q _ h, fun A outer s H args us vs Q E hr e0 hb rv hsp => ?_⟩
  refine codeAny_mono (F.run A outer s H args us vs Q _ hr e0 hb rv hsp) fun r s2 hq => ?_
  cases r with
  | ok fl => cases fl <;> exact hq
  | error e =>
    obtain ⟨_, _, _, _, _, _, _, _, _, _, _, _, z⟩ := hq
    exact z.elim
/-- a method where nothing is raised -/
theorem MeX.me0 {k : Nat} {C : Addr} {m : Str} {ps : List Str} {sp : Sp} (h : MeX P w K mg base k C m ps sp) : MeO P w K mg base k C m ps (sp0 sp) := by
  obtain ⟨f, fd, ⟨c, M⟩, F, hb⟩ := h
  exact ⟨f, fd, c, M, fnOk0 F, hb⟩
end

open PySem PySem.Spec PyProof.Rows L2
/-! match: patterns of lists of texts -/
abbrev TP := V → Hp → (Option (List V) → Hp → Prop) → Prop
abbrev TPs := List V → Hp → (Option (List V) → Hp → Prop) → Prop
abbrev TCs := V → Ends → L2.St → Hp → Prop
def MB (ns : List Str) (r : Option (List (Str × Value))) (G : Option (List V) → Prop) : Prop := match r with
  | none => G none
  | some bs => ∃ vs, bs.map (·.1) = ns ∧ Vals vs (bs.map (·.2)) ∧ G (some vs)
structure PP (X : Cx) (p : Pattern) (ns : List Str) (t : TP) : Prop where
  run : ∀ (pins : List (Addr × Obj)) (s : Shared) (σ : L2.St) (H : Hp) (x : V) (u : Value) (Q : Option (List V) → Hp → Prop), Inv X pins σ H s → RelV x u → t x H Q → wpAny (model X.prog X.w) X.A (matchPattern p X.env u) (fun r s1 => ∃ H1, Inv X pins σ H1 s1 ∧ MB ns r fun o => Q o H1) X.xe s
structure PPs (X : Cx) (ps : List Pattern) (ns : List Str) (t : TPs) : Prop where
  run : ∀ (pins : List (Addr × Obj)) (s : Shared) (σ : L2.St) (H : Hp) (xs : List V) (us : List Value) (Q : Option (List V) → Hp → Prop), Inv X pins σ H s → Vals xs us → t xs H Q → wpAny (model X.prog X.w) X.A (matchEach ps X.env us) (fun r s1 => ∃ H1, Inv X pins σ H1 s1 ∧ MB ns r fun o => Q o H1) X.xe s
section
variable {X : Cx} {pos : Pos} {p : Pattern} {ps : List Pattern} {ns ms : List Str} {tp : TP} {ts : TPs}
def tpStr (K : PySem.W.Frag) (z : Str) : TP := fun x H Q => ∃ a, x = V.str a ∧ Q (if a = z then some [] else none) H
theorem pm_str {z : Str} {k : Nat} {pc : Pos} (K : PySem.W.Frag) (hK : X.K = K) (hu : X.A.units + 64 < cLine) : PP X (.MatchValue (.Constant (.str z) k pc) pos) [] (tpStr K z) := by
  constructor
  intro pn s σ H x u Q I r q
  obtain ⟨a, rfl, q⟩ := q
  refine wpAny_matchPattern_Value (thn ((pe_str (X := X)).run pn s σ H (fun v H1 => v = .str z ∧ H1 = H) I ⟨rfl, rfl⟩) fun v s1 ⟨y, H1, I1, r1, e1, e2⟩ => ?_)
  subst e1 e2
  refine thn (op_eqU K hK hu pn s1 σ H1 _ _ _ _ (fun v H2 => v = .bl (decide (a = z)) ∧ H2 = H1) I1 r r1 (rd_eqStr ⟨rfl, rfl⟩)) fun c s2 ⟨y2, H2, I2, r2, e3, e4⟩ => ?_
  subst e3 e4
  cases r2
  refine wpAny_truthy_bool ?_
  by_cases c : a = z
  · rw [decide_eq_true c]
    rw [if_pos c] at q
    exact ⟨H2, I2, [], rfl, .nil, q⟩
  · rw [decide_eq_false c]
    rw [if_neg c] at q
    exact ⟨H2, I2, q⟩
theorem pm_name {n : Str} : PP X (.MatchAs none (some n) pos) [n] (fun x H Q => Q (some [x]) H) := by
  constructor
  intro pn s σ H x u Q I r q
  exact wpAny_matchPattern_Capture ⟨H, I, [x], rfl, .cons r .nil, q⟩
theorem pm_any : PP X (.MatchAs none none pos) [] (fun x H Q => Q (some []) H) := by
  constructor
  intro pn s σ H x u Q I r q
  exact wpAny_matchPattern_Capture ⟨H, I, [], rfl, .nil, q⟩
theorem pms_nil : PPs X [] [] (fun xs H Q => xs = [] ∧ Q (some []) H) := by
  constructor
  intro pn s σ H xs us Q I r q
  obtain ⟨rfl, q⟩ := q
  cases r
  exact wpAny_matchEach_nil ⟨H, I, [], rfl, .nil, q⟩
def tpCons (tp : TP) (ts : TPs) : TPs := fun xs H Q => ∃ x r, xs = x :: r ∧ tp x H fun o H1 => match o with
  | none => Q none H1
  | some vs => ts r H1 fun o2 H2 => match o2 with
    | none => Q none H2
    | some ws => Q (some (vs ++ ws)) H2
theorem pms_cons (h : PP X p ns tp) (hs : PPs X ps ms ts) (hp : p.isStar = false := by rfl) : PPs X (p :: ps) (ns ++ ms) (tpCons tp ts) := by
  constructor
  intro pn s σ H xs us Q I r q
  obtain ⟨x, xr, rfl, q⟩ := q
  cases r with
  | cons rx rr =>
    refine wpAny_matchEach_cons (thn (h.run pn s σ H x _ _ I rx q) fun o s1 ⟨H1, I1, m⟩ => ?_) hp
    cases o with
    | none => exact ⟨H1, I1, m⟩
    | some bs =>
      obtain ⟨vs, e1, e2, q1⟩ := m
      refine thn (hs.run pn s1 σ H1 xr _ _ I1 rr q1) fun o2 s2 ⟨H2, I2, m2⟩ => ?_
      cases o2 with
      | none => exact ⟨H2, I2, m2⟩
      | some bs2 =>
        obtain ⟨ws, e3, e4, q2⟩ := m2
        exact ⟨H2, I2, vs ++ ws, by rw [List.map_append, e1, e3], by rw [List.map_append]; exact e2.append e4, q2⟩
def tpStar (ts : TPs) : TPs := fun xs H Q => ∃ x r, xs = x :: r ∧ ts r H fun o H1 => match o with
  | none => Q none H1
  | some ws => Q (some (x :: ws)) H1
theorem pms_star {n : Str} {sp : Pos} (hs : PPs X ps ms ts) : PPs X (.MatchStar (some n) sp :: ps) (n :: ms) (tpStar ts) := by
  constructor
  intro pn s σ H xs us Q I r q
  obtain ⟨x, xr, rfl, q⟩ := q
  cases r with
  | cons rx rr =>
    refine PySem.W.kun_each (thn (hs.run pn s σ H xr _ _ I rr q) fun o s1 ⟨H1, I1, m⟩ => ?_)
    cases o with
    | none => exact ⟨H1, I1, m⟩
    | some bs =>
      obtain ⟨vs, e1, e2, q1⟩ := m
      refine ⟨H1, I1, x :: vs, ?_, ?_, q1⟩
      · show n :: bs.map (·.1) = n :: ms
        rw [e1]
      · exact .cons rx e2
def tpSeq (K : PySem.W.Frag) (n : Nat) (ts : TPs) : TP := fun x H Q => ∃ a xs, x = V.ref a ∧ SqL K H a xs ∧ if xs.length = n then ts xs H Q else Q none H
theorem pm_seq (K : PySem.W.Frag) (hK : X.K = K) (hc : X.calm = true) (h : PPs X ps ns ts) (hs : ps.findIdx? (·.isStar) = none := by rfl) (hw : (ps.all fun p => p.isWildcard || (p.isStar && p.names.isEmpty)) = false := by rfl) : PP X (.MatchSequence ps pos) ns (tpSeq K ps.length ts) := by
  subst hK
  constructor
  intro pn s σ H x u Q I r q
  obtain ⟨a, xs, rfl, hx, q⟩ := q
  cases r
  obtain ⟨its, rv, pl, hz⟩ := I.list hx
  have hl := rv.length
  have hL : s.heap.IsList a its.toArray := by
    obtain ⟨o, m, e, c, d, z⟩ := pl
    exact ⟨o, e, c, m, z⟩
  have hsz : its.toArray.size = its.length := by simp
  have hfit : (its.toArray.size : Int) < 2 ^ 63 := by
    have : xs.length < 2 ^ 63 := Nat.lt_of_le_of_lt hz (by decide)
    omega
  refine wpAny_matchPattern_Sequence (wpAny_collectionFlag hL.typeIs flag_seq_list ?_) hs hw
  refine pyLen_list hL hfit ?_
  by_cases hn : xs.length = ps.length
  · rw [if_pos hn] at q
    rw [if_neg (by rw [hsz, ← hl, hn]; simp)]
    have hps : ps.length = its.toArray.size := by omega
    rw [hps]
    refine PySem.W.kun_itemsOf (I.ok.hd hc) hL fun h' hx' => ?_
    have I1 : Inv X pn σ H { s with heap := h', toks := s.toks + 1 + 1 } := I.kept fun b o e => hx' b o (Nat.ne_of_lt (Heap.lt_size e)) e
    exact h.run pn _ σ H xs _ Q I1 (by simpa using rv) q
  · rw [if_neg hn] at q
    rw [if_pos (by
      rw [hsz, ← hl]
      simp only [bne_iff_ne, ne_eq]
      omega)]
    exact ⟨H, I.tok _, q⟩
def tpSeqS (K : PySem.W.Frag) (n i : Nat) (ts : TPs) : TP := fun x H Q => ∃ a xs, x = V.ref a ∧ SqL K H a xs ∧ xs.length ≤ 1000 ∧ if xs.length + 1 < n then Q none H else
  ∀ D, H D = none → ts (xs.take i ++ .ref D :: (xs.drop i).drop (xs.length + 1 - n)) (upd H D (.lst ((xs.drop i).take (xs.length + 1 - n)))) Q
theorem pm_seqS {i : Nat} (K : PySem.W.Frag) (hK : X.K = K) (hc : X.calm = true) (h : PPs X ps ns ts) (hs : ps.findIdx? (·.isStar) = some i := by rfl) (hw : (ps.all fun p => p.isWildcard || (p.isStar && p.names.isEmpty)) = false := by rfl) (hname : (ps[i]?.elim [] (·.names)).isEmpty = false := by rfl) (h1 : ps.length > 1 := by decide) (hi : i < ps.length := by decide) :
    PP X (.MatchSequence ps pos) ns (tpSeqS K ps.length i ts) := by
  subst hK
  constructor
  intro pn s σ H x u Q I r q
  obtain ⟨a, xs, rfl, hx, hxl, q⟩ := q
  cases r
  obtain ⟨its, rv, pl, hz⟩ := I.list hx
  have hl := rv.length
  have hL : s.heap.IsList a its.toArray := by
    obtain ⟨o, m, e, c, d, z⟩ := pl
    exact ⟨o, e, c, m, z⟩
  have hsz : its.toArray.size = its.length := by simp
  have hfit : (its.toArray.size : Int) < 2 ^ 63 := by
    have : xs.length < 2 ^ 63 := Nat.lt_of_le_of_lt hz (by decide)
    omega
  by_cases hn : xs.length + 1 < ps.length
  · rw [if_pos hn] at q
    exact PySem.W.kun_fewL hL hfit hs h1 (by omega) ⟨H, I.tok _, q⟩
  · rw [if_neg hn] at q
    refine PySem.W.kun_seqL hL hfit hs hw hname h1 (by omega) ?_
    have I0 : Inv X pn σ H { s with toks := s.toks + 1 + 1 } := I.tok _
    have hL0 : ({ s with toks := s.toks + 1 + 1 } : Shared).heap.IsList a its.toArray := hL
    generalize ({ s with toks := s.toks + 1 + 1 } : Shared) = s0 at I0 hL0 ⊢
    have hlt : a ≠ s0.heap.objs.size := by
      obtain ⟨o, ho, _⟩ := hL0
      exact Nat.ne_of_lt (Heap.lt_size ho)
    have hd := I0.ok.hd hc
    unfold unpackItems
    refine wpAny_bind ?_
    unfold notIterableAtAll
    refine wpAny_bind (wpAny_specialOf hL0.typeIs PySem.F.slot_list_iter.lookup ?_)
    refine wpAny_pure ?_
    simp only [Bool.false_eq_true, if_false]
    refine wpAny_bind (wpAny_holding (wpAny_pyIter_list hL0 ?_))
    refine wpAny_bind (wpAny_holding (PySem.W.kun_draw hlt i 0 _ _ ⟨_, Heap.get?_push_size _ rfl, rfl, rfl⟩ (hL0.push _) (by omega) fun g1 hit1 hs1 => ?_))
    have hL1 : g1.IsList a its.toArray := (hL0.push _).extBut hs1.extBut hlt
    rw [Nat.zero_add] at hit1
    obtain ⟨oi, hoi, _⟩ := id hit1
    obtain ⟨ol, hol, _⟩ := id hL1
    rw [List.drop_zero]
    have hfl : (its.toArray.toList.take i).length = i := by
      rw [List.length_take, Array.length_toList]
      omega
    rw [if_neg (show ¬ ((its.toArray.toList.take i).length < i) by rw [hfl]; omega)]
    refine wpAny_bind (wpAny_holding (PySem.W.kun_collect (s := { s0 with heap := g1 }) (T := "list_iterator") (.inr (.inr (.inl rfl))) (Walks.list (A := X.A.in1) hd s0.heap.objs.size a hlt its.toArray) (fun j u st => st.1.typeIs) (k := i) (by omega) ⟨hit1, hL1⟩ (Heap.lt_size hoi) (Heap.lt_size hol) (fun g2 tk hk => ?_) (by
      have : its.toArray.size ≤ 1000 := by omega
      exact Nat.le_trans (by omega) (show 1000 ≤ sizeLine by decide))))
    have hrl : (its.toArray.toList.drop i).length = its.toArray.size - i := by rw [List.length_drop, Array.length_toList]
    have hmid : (its.toArray.toList.drop i).length - (ps.length - 1 - i) = xs.length + 1 - ps.length := by
      rw [hrl]
      omega
    show wpAny _ _ (if (its.toArray.toList.drop i).length < ps.length - 1 - i then _ else _) _ _ _
    rw [if_neg (by rw [hrl]; omega)]
    show wpAny _ _ (newList ((its.toArray.toList.drop i).take ((its.toArray.toList.drop i).length - (ps.length - 1 - i))) >>= fun d => pure (its.toArray.toList.take i ++ [d] ++ (its.toArray.toList.drop i).drop ((its.toArray.toList.drop i).length - (ps.length - 1 - i)))) _ _ _
    rw [hmid]
    have he : ∀ b o, s0.heap.get? b = some o → g2.get? b = some o := fun b o e => hk b o (Nat.ne_of_lt (Heap.lt_size e)) (hs1.extBut b o (Nat.ne_of_lt (Heap.lt_size e)) (Heap.get?_push_of_some _ e))
    have I2 : Inv X pn σ H { s0 with heap := g2, toks := tk } := I0.kept he
    have hf : H g2.objs.size = none := I2.hok.fresh (Nat.le_refl _)
    have rm : Vals ((xs.drop i).take (xs.length + 1 - ps.length)) ((its.toArray.toList.drop i).take (xs.length + 1 - ps.length)) := by simpa using (rv.drop i).take (xs.length + 1 - ps.length)
    have rl : Vals ((xs.drop i).drop (xs.length + 1 - ps.length)) ((its.toArray.toList.drop i).drop (xs.length + 1 - ps.length)) := by simpa using (rv.drop i).drop (xs.length + 1 - ps.length)
    have rf : Vals (xs.take i) (its.toArray.toList.take i) := by simpa using rv.take i
    have zl : ((xs.drop i).take (xs.length + 1 - ps.length)).length ≤ sizeLine := Nat.le_trans (List.length_take_le _ _) (Nat.le_trans (show xs.length + 1 - ps.length ≤ 1000 by omega) (by decide))
    refine wpAny_bind (wpAny_newList (s := { s0 with heap := g2, toks := tk }) (wpAny_pure ?_) (by rw [← rm.length]; exact zl))
    have new : ObjOk X.prog X.w (upd H g2.objs.size (.lst ((xs.drop i).take (xs.length + 1 - ps.length)))) (g2.push ({ cls := .type "list", data := .seq ((its.toArray.toList.drop i).take (xs.length + 1 - ps.length)).toArray } : Obj)) g2.objs.size (.lst ((xs.drop i).take (xs.length + 1 - ps.length))) := ⟨zl, _, 0, rm, Heap.get?_push_size _ rfl⟩
    have I3 := I2.laid (t' := tk) (fun b u e => Heap.get?_push_of_some _ e) (Nat.le_refl _) new
    refine h.run pn _ σ _ _ _ Q I3 ?_ (q _ hf)
    have := (rf.append (.cons (show RelV (.ref g2.objs.size) (.ref g2.objs.size) from rfl) rl))
    simpa using this
end
/-! ### the cases -/
def setL : L2.St → List Nat → List V → L2.St
  | σ, i :: is, v :: vs => setL (σ.set i (some v)) is vs
  | σ, _, _ => σ
inductive SlN (X : Cx) : List Str → List Nat → Prop
  | nil : SlN X [] []
  | cons {n : Str} {i : Nat} {ns : List Str} {is : List Nat} (hi : X.N[i]? = some n) (hx : Loc X.env.scope n) (hf : X.fn n = true ∨ X.env.scope.names.lookup n = some .local) (r : SlN X ns is) : SlN X (n :: ns) (i :: is)
structure PC (X : Cx) (cs : List MatchCase) (t : TCs) : Prop where
  run : ∀ (pins : List (Addr × Obj)) (s : Shared) (σ : L2.St) (H : Hp) (x : V) (u : Value) (D : Ends) (first : Bool), Inv X pins σ H s → RelV x u → t x D σ H → wpAny (model X.prog X.w) X.A (matchCases cs X.env u first) (SP X pins D) X.xe s
section
variable {X : Cx} {pos : Pos} {p : Pattern} {ns : List Str} {tp : TP} {is : List Nat} {body : List Stmt} {tb : TS} {rest : List MatchCase} {tr : TCs}
theorem binds_run {M : Model} {A : Around} {E : Value → Shared → Prop} {G : Unit → Shared → Prop} {pn : List (Addr × Obj)} (hN : X.N.Nodup) : ∀ {ns : List Str} {is : List Nat} {vs : List V} {bs : List (Str × Value)} {σ : L2.St} {H : Hp} {s : Shared}, SlN X ns is → bs.map (·.1) = ns → Vals vs (bs.map (·.2)) → Inv X pn σ H s →
    (∀ s', Inv X pn (setL σ is vs) H s' → G () s') → wpAny M A (assignInOrder (bs.map fun (n, _) => bindName X.env n) (bs.map (·.2))) G E s
  | _, _, vs, [], σ, H, s, hs, e, r, I, q => by
    cases r
    subst e
    cases hs
    exact wpAny_assignInOrder_none (q s I)
  | _, _, vs, (n, u) :: bs, σ, H, s, hs, e, r, I, q => by
    cases r with
    | cons r1 r2 =>
      subst e
      cases hs with
      | cons hi hx hf hr =>
        refine wpAny_assignInOrder_more (wpAny_bindName (store_ok I hN hi hx r1 (fun s1 I1 => ?_) hf))
        exact binds_run hN hr rfl r2 I1 q
def tcNil : TCs := fun _ D σ H => D.nx σ H
theorem pc_nil : PC X [] tcNil := ⟨fun pn s σ H x u D first I r q => wpAny_matchCases_nil ⟨σ, H, I, q⟩⟩
def tcCons (tp : TP) (is : List Nat) (tb : TS) (tr : TCs) : TCs := fun x D σ H => tp x H fun o H1 => match o with
  | none => tr x D σ H1
  | some vs => tb D (setL σ is vs) H1
theorem pc_cons (h : PP X p ns tp) (hN : X.N.Nodup) (hs : SlN X ns is) (hb : PSs X body tb) (hr : PC X rest tr) : PC X (⟨p, none, body⟩ :: rest) (tcCons tp is tb tr) := by
  constructor
  intro pn s σ H x u D first I r q
  refine wpAny_matchCases_cons (thn (h.run pn s σ H x u _ I r q) fun o s1 ⟨H1, I1, m⟩ => ?_)
  cases o with
  | none => exact hr.run pn s1 σ H1 x u D false I1 r m
  | some bs =>
    obtain ⟨vs, e1, e2, q1⟩ := m
    exact binds_run hN hs e1 e2 I1 fun s2 I2 => hb.run pn s2 _ H1 D I2 q1
def tMatch (te : TE) (tc : TCs) : TS := fun D σ H => te σ H fun x H1 => tc x D σ H1
theorem ps_match {e : Expr} {cs : List MatchCase} {te : TE} {tc : TCs} (he : PE X e te) (hc : PC X cs tc) : PS X (.Match e cs pos) (tMatch te tc) := by
  constructor
  intro pn s σ H D I q
  exact wpAny_Match (thn (he.run pn s σ H _ I q) fun u s1 ⟨x, H1, I1, r1, q1⟩ => hc.run pn s1 σ H1 x u D true I1 r1 q1)
end
open PySem PySem.Spec PyProof.Rows L2
theorem pe_glF {X : Cx} {x : Str} {f : Addr} {pos : Pos} (hg : Gl X x) (hm : X.mg x = some (.ref f)) (hd : (x == ("__debug__" : Str)) = false := by decide) : PE X (.Name x pos) (tC (.ref f)) := pe_glob hg hm rfl hd
section
variable {K : PySem.W.Frag} {σ : L2.St} {H : Hp} {D : Ends} {te : TE} {tc : TCs}
theorem rd_match (q : te σ H fun x H1 => tc x D σ H1) : tMatch te tc D σ H := q
theorem rd_callA {i : Nat} {S : Addr → Option Sp} {t : TA} {Q : VK} {f : Addr} {sp : Sp} (h1 : σ[i]? = some (some (.ref f))) (h2 : S f = some sp) (q : t σ H fun vs H1 => sp vs H1 Q (fun _ _ _ => False)) : tCallA i S t σ H Q := ⟨f, sp, h1, h2, q⟩
end
open PySem PySem.Spec PyProof.Rows L2
section
variable {K : PySem.W.Frag} {H : Hp} {Q : Option (List V) → Hp → Prop} {ts : TPs} {x : V} {r : List V} {z a : Str}
theorem mt_nm (q : ts r H fun o H1 => match o with | none => Q none H1 | some ws => Q (some (x :: ws)) H1) : tpCons (fun x H Q => Q (some [x]) H) ts (x :: r) H Q := ⟨x, r, rfl, q⟩
theorem mt_eq (q : ts r H fun o H1 => match o with | none => Q none H1 | some ws => Q (some ws) H1) : tpCons (tpStr K z) ts (.str z :: r) H Q := ⟨_, r, rfl, z, rfl, by
  rw [if_pos rfl]
  exact q⟩
theorem mt_no (h : a ≠ z) (q : Q none H) : tpCons (tpStr K z) ts (.str a :: r) H Q := ⟨_, r, rfl, a, rfl, by
  rw [if_neg h]
  exact q⟩
theorem mt_nil (q : Q (some []) H) : (fun (xs : List V) (H : Hp) (Q : Option (List V) → Hp → Prop) => xs = [] ∧ Q (some []) H) [] H Q := ⟨rfl, q⟩
theorem mt_star (q : ts r H fun o H1 => match o with | none => Q none H1 | some ws => Q (some (x :: ws)) H1) : tpStar ts (x :: r) H Q := ⟨x, r, rfl, q⟩
theorem mt_seq {n : Nat} {a : Addr} {xs : List V} (ha : SqL K H a xs) (hn : xs.length = n) (q : ts xs H Q) : tpSeq K n ts (.ref a) H Q := ⟨a, xs, rfl, ha, by
  rw [if_pos hn]
  exact q⟩
theorem mt_off {n : Nat} {a : Addr} {xs : List V} (ha : SqL K H a xs) (hn : ¬ xs.length = n) (q : Q none H) : tpSeq K n ts (.ref a) H Q := ⟨a, xs, rfl, ha, by
  rw [if_neg hn]
  exact q⟩
theorem mt_seqS {n i : Nat} {a : Addr} {xs : List V} (ha : SqL K H a xs) (hl : xs.length ≤ 1000) (hn : ¬ xs.length + 1 < n) (q : ∀ D, H D = none → ts (xs.take i ++ .ref D :: (xs.drop i).drop (xs.length + 1 - n)) (upd H D (.lst ((xs.drop i).take (xs.length + 1 - n)))) Q) : tpSeqS K n i ts (.ref a) H Q := ⟨a, xs, rfl, ha, hl, by
  rw [if_neg hn]
  exact q⟩
theorem mt_few {n i : Nat} {a : Addr} {xs : List V} (ha : SqL K H a xs) (hl : xs.length ≤ 1000) (hn : xs.length + 1 < n) (q : Q none H) : tpSeqS K n i ts (.ref a) H Q := ⟨a, xs, rfl, ha, hl, by
  rw [if_pos hn]
  exact q⟩
theorem mt_case {tp : TP} {is : List Nat} {tb : TS} {tr : TCs} {D : Ends} {σ : L2.St} (q : tp x H fun o H1 => match o with | none => tr x D σ H1 | some vs => tb D (setL σ is vs) H1) : tcCons tp is tb tr x D σ H := q
end
open PySem PySem.Spec PyProof.Rows L2
section
variable {K : PySem.W.Frag} {H : Hp} {Q : Option (List V) → Hp → Prop} {ts : TPs} {x y z : V} {r : List V} {a : Addr}
theorem mt_star1 (ha : H a = some (.lst (x :: r))) (hl : r.length ≤ 900) (q : ∀ D, H D = none → ts [x, .ref D] (upd H D (.lst r)) Q) : tpSeqS K 2 1 ts (.ref a) H Q := by
  refine mt_seqS (SqL.of ha) (by rw [List.length_cons]; omega) (by rw [List.length_cons]; omega) fun D nD => ?_
  have e1 : (x :: r).length + 1 - 2 = r.length := by rw [List.length_cons]; omega
  rw [e1]
  show ts ([x] ++ .ref D :: r.drop r.length) (upd H D (.lst (r.take r.length))) Q
  rw [List.drop_length, List.take_length]
  exact q D nD
theorem mt_star3 (ha : H a = some (.lst (x :: y :: z :: r))) (hl : r.length ≤ 900) (q : ∀ D, H D = none → ts [x, y, z, .ref D] (upd H D (.lst r)) Q) : tpSeqS K 4 3 ts (.ref a) H Q := by
  refine mt_seqS (SqL.of ha) (by simp only [List.length_cons]; omega) (by simp only [List.length_cons]; omega) fun D nD => ?_
  have e1 : (x :: y :: z :: r).length + 1 - 4 = r.length := by simp only [List.length_cons]; omega
  rw [e1]
  show ts ([x, y, z] ++ .ref D :: r.drop r.length) (upd H D (.lst (r.take r.length))) Q
  rw [List.drop_length, List.take_length]
  exact q D nD
end

open PySem PySem.Spec PyProof.Rows L2
/-! texts of words: numbers, lists of ids, slots, items, events -/
def numS (n : Nat) : Str := Str.ofString (toString ((n : Nat) : Int))
def jn (c : Nat) (ws : List Str) : Str := S (TL.joinL [c] (ws.map sg))
def idsS (cs : List Str) : Str := if cs = [] then "-" else jn 44 cs
theorem sg_jn (c : Nat) (ws : List Str) : sg (jn c ws) = TL.joinL [c] (ws.map sg) := rfl
theorem numS_S (n : Nat) : numS n = S (TL.numL n) := by
  have := sg_num n
  rw [← this, S_sg]
  rfl
theorem numS_num {n : Nat} (h : n < 100000) : numBL (sg (numS n)) = true := by
  rw [show sg (numS n) = TL.numL n from sg_num n]
  exact num_ok h
theorem numS_len {n : Nat} (h : n < 100000) : (numS n).length ≤ 5 := num_len h
/-- what a word may not hold -/
def Fr (c : Nat) (z : Str) : Prop := c ∉ sg z
theorem num_fr {n c : Nat} (h : c < 48 ∨ 57 < c) : Fr c (numS n) := by
  unfold Fr
  rw [show sg (numS n) = TL.numL n from sg_num n]
  exact TL.numL_free h
theorem letters_fr {c : Nat} (h : c ∉ sg lettersS) {z : Str} {m : Int} (hz : wordB z lettersS m = true) : Fr c z := fun hm => by
  unfold wordB at hz
  rw [Bool.and_eq_true, Bool.and_eq_true, List.all_eq_true] at hz
  exact h (of_decide_eq_true (hz.2.2 c hm))
theorem id_fr {c : Nat} (h : c ∉ sg lettersS) {z : Str} (hz : idB z = true) : Fr c z := letters_fr h hz
theorem joinL_mem {s : Nat} : ∀ {ps : List (List Nat)} {c : Nat}, c ∈ TL.joinL [s] ps → c = s ∨ ∃ p ∈ ps, c ∈ p
  | [], _, h => by simp [TL.joinL] at h
  | [p], _, h => .inr ⟨p, by simp, by simpa [TL.joinL] using h⟩
  | p :: q :: r, c, h => by
    have h : c ∈ p ++ ([s] ++ TL.joinL [s] (q :: r)) := h
    rcases List.mem_append.mp h with h | h
    · exact .inr ⟨p, List.mem_cons_self, h⟩
    · rcases List.mem_append.mp h with h | h
      · exact .inl (List.mem_singleton.mp h)
      · rcases joinL_mem (ps := q :: r) h with h | ⟨p', hp, hc⟩
        · exact .inl h
        · exact .inr ⟨p', List.mem_cons_of_mem _ hp, hc⟩
theorem jn_fr {c s : Nat} {ws : List Str} (hs : c ≠ s) (h : ∀ w ∈ ws, Fr c w) : Fr c (jn s ws) := fun hm => by
  rw [sg_jn] at hm
  rcases joinL_mem hm with e | ⟨p, hp, hc⟩
  · exact hs e
  · obtain ⟨w, hw, rfl⟩ := List.mem_map.mp hp
    exact h w hw hc
theorem ids_fr {c : Nat} (h : c ∉ sg lettersS) (hd : c ≠ 45) (hc : c ≠ 44) {cs : List Str} (hcs : ∀ x ∈ cs, idB x = true) : Fr c (idsS cs) := by
  unfold idsS
  split
  · intro hm
    have : sg ("-" : Str) = [45] := by decide +kernel
    rw [this] at hm
    exact hd (List.mem_singleton.mp hm)
  · exact jn_fr hc fun w hw => id_fr h (hcs w hw)
theorem name_fr {c : Nat} (h : c ∉ sg lettersS) (hd : c ≠ 46) {z : Str} (hz : nameB z = true) : Fr c z := fun hm => by
  rcases name_parts hz with e | ⟨_, hp⟩
  · rw [e, show sg dotS = [46] from by decide +kernel] at hm
    exact hd (List.mem_singleton.mp hm)
  · rcases spl_cover (sg z) [] c hm with e | ⟨p, hp', hcp⟩
    · exact hd e
    · rw [← parts_sg] at hp'
      obtain ⟨y, hy, rfl⟩ := List.mem_map.mp hp'
      exact h (label_mem (hp y hy) hcp)
theorem split_jn {s : Nat} {d : Str} (hd : sg d = [s]) (hk : d.cps.all (· < 256) = true) {ws : List Str} (hne : ws ≠ []) (h : ∀ w ∈ ws, Fr s w) : Txt.split (jn s ws) d = ws := by
  have h1 := TL.split_spl (jn s ws) d (by rw [show TL.tl d = [s] from hd]; simp) (TL.kind_ok hk)
  rw [show TL.tl d = [s] from hd, show TL.tl (jn s ws) = TL.joinL [s] (ws.map sg) from rfl, TL.spl_join (by simpa using hne) (fun p hp => by
    obtain ⟨w, hw, rfl⟩ := List.mem_map.mp hp
    exact h w hw)] at h1
  have h2 := congrArg (List.map S) h1
  rw [map_S_sg] at h2
  rw [map_S_sg] at h2
  exact h2
theorem join_jn {s : Nat} {d : Str} (hd : sg d = [s]) (ws : List Str) : Txt.join d ws = jn s ws := sg_inj (by
  rw [sg_jn, ← hd, TL.join_eq]
  exact TL.tl_join d ws)
theorem jn_cons (s : Nat) (w : Str) {ws : List Str} (h : ws ≠ []) : jn s (w :: ws) = w ++ (S [s] ++ jn s ws) := sg_inj (by
  rw [sg_jn, sg_app, sg_app, sg_S, sg_jn]
  cases ws with
  | nil => exact absurd rfl h
  | cons a r => rfl)
theorem jn_one (s : Nat) (w : Str) : jn s [w] = w := sg_inj rfl
theorem jn_app (s : Nat) : ∀ {a b : List Str}, a ≠ [] → b ≠ [] → jn s (a ++ b) = jn s a ++ (S [s] ++ jn s b)
  | [], _, h, _ => absurd rfl h
  | [w], b, _, hb => by rw [jn_one]; exact jn_cons s w hb
  | w :: v :: r, b, _, hb => by
    have ih := jn_app s (a := v :: r) (b := b) (by simp) hb
    show jn s (w :: ((v :: r) ++ b)) = _
    rw [jn_cons s w (by simp), ih, jn_cons s w (by simp)]
    exact sg_inj (by simp only [sg_app, List.append_assoc])
theorem jn_len (s : Nat) (ws : List Str) : (jn s ws).length ≤ (ws.map (·.length)).sum + ws.length := by
  rw [← sg_len, sg_jn]
  have h := joinL_len [s] (ws.map sg)
  rw [List.map_map, List.length_map] at h
  have e : ws.map (List.length ∘ sg) = ws.map (·.length) := List.map_congr_left fun w _ => sg_len w
  rw [e] at h
  simpa using h
/-! ### slots, items, events -/
def slW : Sl → List Str
  | .k z => ["keys", z]
  | .l z => ["link", z]
  | .h z => ["hosts", z]
  | .s n k => ["set", n, k]
def SlOk : Sl → Prop
  | .k z => nameB z = true
  | .l z => nameB z = true
  | .h z => nameB z = true
  | .s n k => nameB n = true ∧ idB k = true
/-- an item of a text: its numbers are natural ones -/
structure Itx where
  c : List Str
  li : Nat
  g : List Str
  a : Nat
  b : Nat
def itD2 (i : Itx) : PyData := .tuple [.tuple (i.c.map .str), .int i.li, .tuple (i.g.map .str), .int i.a, .int i.b]
def isH : Sl → Bool
  | .h _ => true
  | _ => false
def itW (s : Sl) (i : Itx) : List Str := if isH s = true then [idsS i.c, "life", numS i.li] else [idsS i.c, "life", numS i.li, "by", idsS i.g, "from", numS i.a, "to", numS i.b]
structure ItOk2 (s : Sl) (i : Itx) : Prop where
  c : ∀ x ∈ i.c, idB x = true
  cl : i.c.length ≤ 6
  g : ∀ x ∈ i.g, idB x = true
  gl : i.g.length ≤ 6
  li : i.li < 100000
  a : i.a < 100000
  b : i.b < 100000
  h : isH s = true → i.g = [] ∧ i.a = 0 ∧ i.b = 10000
inductive Ev where
  | go (m : Nat) | fill (s : Sl) (ps : List Nat) | ask (n k : Str) (ps : List Nat) | drop (s : Sl) | plant (s : Sl) (i : Itx) | lose (z k : Str)
def psD (ps : List Nat) : PyData := .tuple (ps.map fun p => .int ((p : Nat) : Int))
def evD : Ev → PyData
  | .go m => .tuple [.str "go", .int m]
  | .fill s ps => .tuple [.str "fill", slD s, psD ps]
  | .ask n k ps => .tuple [.str "ask", .str n, .str k, psD ps]
  | .drop s => .tuple [.str "drop", slD s]
  | .plant s i => .tuple [.str "plant", slD s, itD2 i]
  | .lose z k => .tuple [.str "lose", .str z, .str k]
def evW : Ev → List Str
  | .go m => ["go", numS m]
  | .fill s ps => "fill" :: (slW s ++ ps.map numS)
  | .ask n k ps => "ask" :: n :: k :: ps.map numS
  | .drop s => "drop" :: slW s
  | .plant s i => "plant" :: (slW s ++ ("=" : Str) :: itW s i)
  | .lose z k => ["lose", z, k]
def PsOk2 (ps : List Nat) : Prop := (∀ p ∈ ps, p < 100000) ∧ ps.length ≤ 6
def EvOk : Ev → Prop
  | .go m => m < 100000
  | .fill s ps => SlOk s ∧ PsOk2 ps
  | .ask n k ps => nameB n = true ∧ idB k = true ∧ PsOk2 ps
  | .drop s => SlOk s
  | .plant s i => SlOk s ∧ ItOk2 s i
  | .lose z k => nameB z = true ∧ idB k = true
theorem slW_fr {s : Sl} (h : SlOk s) {c : Nat} (hc : c = 32 ∨ c = 10) : ∀ w ∈ slW s, Fr c w := by
  have hl : c ∉ sg lettersS := by rcases hc with rfl | rfl <;> decide +kernel
  have h46 : c ≠ 46 := by omega
  have k1 : ∀ z ∈ ([("keys" : Str), "link", "hosts", "set"] : List Str), Fr c z := by
    rcases hc with rfl | rfl <;> (intro z hz; simp only [List.mem_cons, List.not_mem_nil, or_false] at hz; rcases hz with rfl | rfl | rfl | rfl <;> (unfold Fr; decide +kernel))
  intro w hw
  cases s with
  | k z =>
    rcases List.mem_cons.mp hw with rfl | hw
    · exact k1 _ (by simp)
    · rw [List.mem_singleton.mp hw]
      exact name_fr hl h46 h
  | l z =>
    rcases List.mem_cons.mp hw with rfl | hw
    · exact k1 _ (by simp)
    · rw [List.mem_singleton.mp hw]
      exact name_fr hl h46 h
  | h z =>
    rcases List.mem_cons.mp hw with rfl | hw
    · exact k1 _ (by simp)
    · rw [List.mem_singleton.mp hw]
      exact name_fr hl h46 h
  | s n k =>
    rcases List.mem_cons.mp hw with rfl | hw
    · exact k1 _ (by simp)
    · rcases List.mem_cons.mp hw with rfl | hw
      · exact name_fr hl h46 h.1
      · rw [List.mem_singleton.mp hw]
        exact id_fr hl h.2
/-- two words, or a set -/
theorem sl_cases {sl : Sl} (h : SlOk sl) : (∃ wd z : Str, slW sl = [wd, z] ∧ nameB z = true ∧ slD sl = .tuple [.str wd, .str z] ∧ wd ∈ [Str.ofString "keys", Str.ofString "link", Str.ofString "hosts"] ∧ (isH sl = true ↔ wd = Str.ofString "hosts")) ∨ ∃ n k, sl = .s n k := by
  cases sl with
  | k z => exact .inl ⟨"keys", z, rfl, h, rfl, by decide, by show (false = true ↔ Str.ofString "keys" = Str.ofString "hosts"); decide +kernel⟩
  | l z => exact .inl ⟨"link", z, rfl, h, rfl, by decide, by show (false = true ↔ Str.ofString "link" = Str.ofString "hosts"); decide +kernel⟩
  | h z => exact .inl ⟨"hosts", z, rfl, h, rfl, by decide, by show (true = true ↔ Str.ofString "hosts" = Str.ofString "hosts"); decide +kernel⟩
  | s n k => exact .inr ⟨n, k, rfl⟩
theorem word_okS {wd : Str} (h : wd ∈ [Str.ofString "keys", Str.ofString "link", Str.ofString "hosts"]) : PyData.strOk wd = true ∧ wd ≠ Str.ofString "set" := by
  simp only [List.mem_cons, List.not_mem_nil, or_false] at h
  rcases h with rfl | rfl | rfl <;> decide +kernel
/-- a comprehension whose values keep what is said of them while the heap grows -/
theorem lcg_gen (T : List (Addr × Str)) {J : It} {n : Nat} {Gd : Hp → Prop} {Y : Nat → Hp → V → Hp → Prop} {g : TG} {te : TE} {vs : List Nat} {σ : L2.St} {H : Hp} {Q : VK} (w : Walk J n Gd Y) (hG : ∀ H', Ext T [] H H' → Gd H') (hs : n < sizeLine) (R : Nat → Addr → Hp → V → Prop) (hm : ∀ i D H1 H2 y xs, Ext T [D] H1 H2 → H1 D = some (.lst xs) → R i D H1 y → R i D H2 y)
    (step : ∀ i x D H1 H', i < n → Ext T [] H H1 → Nw H D → (∃ ys, H1 D = some (.lst ys)) → Y i H1 x H' → ∀ F : VK, (∀ y H2, R i D H2 y → Ext T [] H1 H2 → F y H2) → g x (wipe σ vs) H' fun σ2 H2 => wipe σ2 vs = wipe σ vs ∧ tYes σ2 H2 fun b H3 => if b = true then te σ2 H3 F else True)
    (q : ∀ D ys H2, Nw H D → Ext T [] H H2 → H2 D = some (.lst ys) → ys.length = n → (∀ i y, ys[i]? = some y → R i D H2 y) → Q (.ref D) H2) : LcG J g tYes te vs σ H Q := fun D hD => by
  refine lc_it w (fun i H2 => Ext T [] H H2 ∧ ∃ ys, H2 D = some (.lst ys) ∧ ys.length = i ∧ ∀ j y, ys[j]? = some y → R j D H2 y) ⟨.new hD, [], upd_same, rfl, fun j y h => by simp at h⟩ (fun i H2 _ h => hG _ h.1) (fun i x H1 H' hi h y => ?_) (fun H1 h => ?_)
  · obtain ⟨e1, ys, hy, hl, hr⟩ := h
    have h4 := step i x D H1 H' hi e1 (.of hD) ⟨ys, hy⟩ y (fun v H4 => ∃ acc, H4 D = some (.lst acc) ∧ acc.length < sizeLine ∧ (Ext T [] H (upd H4 D (.lst (acc ++ [v]))) ∧ ∃ ys, (upd H4 D (.lst (acc ++ [v]))) D = some (.lst ys) ∧ ys.length = i + 1 ∧ ∀ j y, ys[j]? = some y → R j D (upd H4 D (.lst (acc ++ [v]))) y)) fun v H2 hv e2 => ?_
    · exact h4
    · have hD2 := lst.x hy e2
      have eo : Ext T [D] H2 (upd H2 D (.lst (ys ++ [v]))) := Ext.mut (by simp) hD2
      refine ⟨ys, hD2, by omega, (e1.trans e2).own (.of hD) hD2, ys ++ [v], upd_same, by rw [List.length_append, hl]; rfl, fun j u hu => ?_⟩
      by_cases hj : j < ys.length
      · rw [List.getElem?_append_left hj] at hu
        exact hm j D H2 _ u ys eo hD2 (hm j D H1 H2 u ys (e2.wide (by simp)) hy (hr j u hu))
      · have hj2 := (List.getElem?_eq_some_iff.mp hu).1
        rw [List.length_append] at hj2
        have hj3 : j = ys.length := by
          have : [v].length = 1 := rfl
          omega
        subst hj3
        rw [List.getElem?_append_right (Nat.le_refl _), Nat.sub_self] at hu
        cases Option.some.inj (show some v = some u from hu)
        rw [hl]
        exact hm i D H2 _ v ys eo hD2 hv
  · obtain ⟨e1, ys, hy, hl, hr⟩ := h
    exact q D ys H1 (.of hD) e1 hy hl hr

open PySem PySem.Spec PyProof.Rows L2
open PySem.W (EachIs)
def topS (i : Nat) : Stmt := PySem.Challenge.pw_neverdark_k01_texts_of_cases.main.body.getD i (.Pass ⟨0, 0, 0, 0⟩)
abbrev s_is_word : Stmt := topS 10
abbrev N_is_word : List Str := ["text", "letters", "most", "letter"]
theorem sc_is_word : FnScope ["text", "letters", "most", "letter"] ["text", "letters", "most"] (defScope s_is_word) := ⟨rfl, rfl, rfl, by decide +kernel, rfl, by decide +kernel, by decide +kernel⟩
abbrev s_is_number : Stmt := topS 11
abbrev N_is_number : List Str := ["text"]
theorem sc_is_number : FnScope ["text"] ["text"] (defScope s_is_number) := ⟨rfl, rfl, rfl, by decide +kernel, rfl, by decide +kernel, by decide +kernel⟩
abbrev s_is_id : Stmt := topS 12
abbrev N_is_id : List Str := ["text"]
theorem sc_is_id : FnScope ["text"] ["text"] (defScope s_is_id) := ⟨rfl, rfl, rfl, by decide +kernel, rfl, by decide +kernel, by decide +kernel⟩
abbrev s_is_label : Stmt := topS 13
abbrev N_is_label : List Str := ["text"]
theorem sc_is_label : FnScope ["text"] ["text"] (defScope s_is_label) := ⟨rfl, rfl, rfl, by decide +kernel, rfl, by decide +kernel, by decide +kernel⟩
abbrev s_is_name : Stmt := topS 14
abbrev N_is_name : List Str := ["text", "parts", "part"]
theorem sc_is_name : FnScope ["text", "parts", "part"] ["text"] (defScope s_is_name) := ⟨rfl, rfl, rfl, by decide +kernel, rfl, by decide +kernel, by decide +kernel⟩
abbrev s_read_number : Stmt := topS 27
abbrev N_read_number : List Str := ["word"]
theorem sc_read_number : FnScope ["word"] ["word"] (defScope s_read_number) := ⟨rfl, rfl, rfl, by decide +kernel, rfl, by decide +kernel, by decide +kernel⟩
abbrev s_read_id : Stmt := topS 28
abbrev N_read_id : List Str := ["word"]
theorem sc_read_id : FnScope ["word"] ["word"] (defScope s_read_id) := ⟨rfl, rfl, rfl, by decide +kernel, rfl, by decide +kernel, by decide +kernel⟩
abbrev s_read_name : Stmt := topS 29
abbrev N_read_name : List Str := ["word"]
theorem sc_read_name : FnScope ["word"] ["word"] (defScope s_read_name) := ⟨rfl, rfl, rfl, by decide +kernel, rfl, by decide +kernel, by decide +kernel⟩
abbrev s_read_ids : Stmt := topS 30
abbrev N_read_ids : List Str := ["word", "part"]
theorem sc_read_ids : FnScope ["word", "part"] ["word"] (defScope s_read_ids) := ⟨rfl, rfl, rfl, by decide +kernel, rfl, by decide +kernel, by decide +kernel⟩
abbrev s_read_slot : Stmt := topS 31
abbrev N_read_slot : List Str := ["words"]
theorem sc_read_slot : FnScope ["words"] ["words"] (defScope s_read_slot) := ⟨rfl, rfl, rfl, by decide +kernel, rfl, by decide +kernel, by decide +kernel⟩
abbrev s_split_slot : Stmt := topS 32
abbrev N_split_slot : List Str := ["words", "size"]
theorem sc_split_slot : FnScope ["words", "size"] ["words"] (defScope s_split_slot) := ⟨rfl, rfl, rfl, by decide +kernel, rfl, by decide +kernel, by decide +kernel⟩
abbrev s_read_hosts_item : Stmt := topS 33
abbrev N_read_hosts_item : List Str := ["words", "content", "life"]
theorem sc_read_hosts_item : FnScope ["words", "content", "life"] ["words"] (defScope s_read_hosts_item) := ⟨rfl, rfl, rfl, by decide +kernel, rfl, by decide +kernel, by decide +kernel⟩
abbrev s_read_sealed_item : Stmt := topS 34
abbrev N_read_sealed_item : List Str := ["words", "content", "life", "signers", "first", "last", "kept", "sealed"]
theorem sc_read_sealed_item : FnScope ["words", "content", "life", "signers", "first", "last", "kept", "sealed"] ["words"] (defScope s_read_sealed_item) := ⟨rfl, rfl, rfl, by decide +kernel, rfl, by decide +kernel, by decide +kernel⟩
abbrev s_read_placed : Stmt := topS 35
abbrev N_read_placed : List Str := ["words", "slot", "rest"]
theorem sc_read_placed : FnScope ["words", "slot", "rest"] ["words"] (defScope s_read_placed) := ⟨rfl, rfl, rfl, by decide +kernel, rfl, by decide +kernel, by decide +kernel⟩
abbrev s_read_deed : Stmt := topS 36
abbrev N_read_deed : List Str := ["words", "slot", "item"]
theorem sc_read_deed : FnScope ["words", "slot", "item"] ["words"] (defScope s_read_deed) := ⟨rfl, rfl, rfl, by decide +kernel, rfl, by decide +kernel, by decide +kernel⟩
abbrev s_read_step : Stmt := topS 37
abbrev N_read_step : List Str := ["words", "moment", "deed"]
theorem sc_read_step : FnScope ["words", "moment", "deed"] ["words"] (defScope s_read_step) := ⟨rfl, rfl, rfl, by decide +kernel, rfl, by decide +kernel, by decide +kernel⟩
abbrev s_read_case_line : Stmt := topS 38
abbrev N_read_case_line : List Str := ["words", "zone", "lag", "key", "name", "kind", "server", "least", "most", "deed", "earlier", "later", "moment"]
theorem sc_read_case_line : FnScope ["words", "zone", "lag", "key", "name", "kind", "server", "least", "most", "deed", "earlier", "later", "moment"] ["words"] (defScope s_read_case_line) := ⟨rfl, rfl, rfl, by decide +kernel, rfl, by decide +kernel, by decide +kernel⟩
abbrev s_split_lines : Stmt := topS 39
abbrev N_split_lines : List Str := ["text", "line"]
theorem sc_split_lines : FnScope ["text", "line"] ["text"] (defScope s_split_lines) := ⟨rfl, rfl, rfl, by decide +kernel, rfl, by decide +kernel, by decide +kernel⟩
abbrev s_read_line : Stmt := topS 40
abbrev N_read_line : List Str := ["read", "words", "at"]
theorem sc_read_line : FnScope ["read", "words", "at"] ["read", "words", "at"] (defScope s_read_line) := ⟨rfl, rfl, rfl, by decide +kernel, rfl, by decide +kernel, by decide +kernel⟩
abbrev s_read_lines : Stmt := topS 41
abbrev N_read_lines : List Str := ["read", "text", "rows", "at", "words"]
theorem sc_read_lines : FnScope ["read", "text", "rows", "at", "words"] ["read", "text"] (defScope s_read_lines) := ⟨rfl, rfl, rfl, by decide +kernel, rfl, by decide +kernel, by decide +kernel⟩
abbrev s_read_groups : Stmt := topS 42
abbrev N_read_groups : List Str := ["text", "rows", "groups", "last", "at", "words", "group", "said", "_"]
theorem sc_read_groups : FnScope ["text", "rows", "groups", "last", "at", "words", "group", "said", "_"] ["text"] (defScope s_read_groups) := ⟨rfl, rfl, rfl, by decide +kernel, rfl, by decide +kernel, by decide +kernel⟩
abbrev s_read_case : Stmt := topS 43
abbrev N_read_case : List Str := ["text", "groups", "realm", "state", "deeds", "bounds", "deed", "_", "pair"]
theorem sc_read_case : FnScope ["text", "groups", "realm", "state", "deeds", "bounds", "deed", "_", "pair"] ["text"] (defScope s_read_case) := ⟨rfl, rfl, rfl, by decide +kernel, rfl, by decide +kernel, by decide +kernel⟩
abbrev s_read_plan : Stmt := topS 44
abbrev N_read_plan : List Str := ["text"]
theorem sc_read_plan : FnScope ["text"] ["text"] (defScope s_read_plan) := ⟨rfl, rfl, rfl, by decide +kernel, rfl, by decide +kernel, by decide +kernel⟩
abbrev s_ids_text : Stmt := topS 46
abbrev N_ids_text : List Str := ["ids"]
theorem sc_ids_text : FnScope ["ids"] ["ids"] (defScope s_ids_text) := ⟨rfl, rfl, rfl, by decide +kernel, rfl, by decide +kernel, by decide +kernel⟩
abbrev s_item_text : Stmt := topS 47
abbrev N_item_text : List Str := ["slot", "item", "content", "life", "signers", "first", "last", "kept"]
theorem sc_item_text : FnScope ["slot", "item", "content", "life", "signers", "first", "last", "kept"] ["slot", "item"] (defScope s_item_text) := ⟨rfl, rfl, rfl, by decide +kernel, rfl, by decide +kernel, by decide +kernel⟩
abbrev s_placed_text : Stmt := topS 48
abbrev N_placed_text : List Str := ["slot", "item"]
theorem sc_placed_text : FnScope ["slot", "item"] ["slot", "item"] (defScope s_placed_text) := ⟨rfl, rfl, rfl, by decide +kernel, rfl, by decide +kernel, by decide +kernel⟩
abbrev s_deed_text : Stmt := topS 49
abbrev N_deed_text : List Str := ["deed", "word", "place", "worth"]
theorem sc_deed_text : FnScope ["deed", "word", "place", "worth"] ["deed"] (defScope s_deed_text) := ⟨rfl, rfl, rfl, by decide +kernel, rfl, by decide +kernel, by decide +kernel⟩
abbrev s_realm_lines : Stmt := topS 50
abbrev N_realm_lines : List Str := ["realm", "zones", "anchors", "sets", "rows", "zone", "lag", "key", "name", "kind"]
theorem sc_realm_lines : FnScope ["realm", "zones", "anchors", "sets", "rows", "zone", "lag", "key", "name", "kind"] ["realm"] (defScope s_realm_lines) := ⟨rfl, rfl, rfl, by decide +kernel, rfl, by decide +kernel, by decide +kernel⟩
abbrev s_state_lines : Stmt := topS 51
abbrev N_state_lines : List Str := ["state", "items", "on", "rows", "slot", "item", "server", "zone"]
theorem sc_state_lines : FnScope ["state", "items", "on", "rows", "slot", "item", "server", "zone"] ["state"] (defScope s_state_lines) := ⟨rfl, rfl, rfl, by decide +kernel, rfl, by decide +kernel, by decide +kernel⟩
abbrev s_deed_lines : Stmt := topS 52
abbrev N_deed_lines : List Str := ["deeds", "bounds", "deed", "least", "most"]
theorem sc_deed_lines : FnScope ["deeds", "bounds", "deed", "least", "most"] ["deeds", "bounds"] (defScope s_deed_lines) := ⟨rfl, rfl, rfl, by decide +kernel, rfl, by decide +kernel, by decide +kernel⟩
abbrev s_case_text : Stmt := topS 53
abbrev N_case_text : List Str := ["case", "realm", "state", "deeds", "bounds", "before", "end", "rows", "earlier", "later"]
theorem sc_case_text : FnScope ["case", "realm", "state", "deeds", "bounds", "before", "end", "rows", "earlier", "later"] ["case"] (defScope s_case_text) := ⟨rfl, rfl, rfl, by decide +kernel, rfl, by decide +kernel, by decide +kernel⟩
abbrev s_plan_text : Stmt := topS 54
abbrev N_plan_text : List Str := ["plan", "moment", "deed"]
theorem sc_plan_text : FnScope ["plan", "moment", "deed"] ["plan"] (defScope s_plan_text) := ⟨rfl, rfl, rfl, by decide +kernel, rfl, by decide +kernel, by decide +kernel⟩
abbrev s_law_mix : Stmt := topS 56
abbrev N_law_mix : List Str := ["number"]
theorem sc_law_mix : FnScope ["number"] ["number"] (defScope s_law_mix) := ⟨rfl, rfl, rfl, by decide +kernel, rfl, by decide +kernel, by decide +kernel⟩
abbrev s_law_tape : Stmt := topS 57
abbrev N_law_tape : List Str := ["script", "budget"]
theorem sc_law_tape : FnScope ["script", "budget"] ["script", "budget"] (defScope s_law_tape) := ⟨rfl, rfl, rfl, by decide +kernel, rfl, by decide +kernel, by decide +kernel⟩
abbrev s_law_take : Stmt := topS 58
abbrev N_law_take : List Str := ["tape", "many", "cell", "digit"]
theorem sc_law_take : FnScope ["tape", "many", "cell", "digit"] ["tape", "many"] (defScope s_law_take) := ⟨rfl, rfl, rfl, by decide +kernel, rfl, by decide +kernel, by decide +kernel⟩
abbrev s_law_id : Stmt := topS 59
abbrev N_law_id : List Str := ["tape", "signs", "word", "k"]
theorem sc_law_id : FnScope ["tape", "signs", "word", "k"] ["tape"] (defScope s_law_id) := ⟨rfl, rfl, rfl, by decide +kernel, rfl, by decide +kernel, by decide +kernel⟩
abbrev s_law_label : Stmt := topS 60
abbrev N_law_label : List Str := ["tape", "word"]
theorem sc_law_label : FnScope ["tape", "word"] ["tape"] (defScope s_law_label) := ⟨rfl, rfl, rfl, by decide +kernel, rfl, by decide +kernel, by decide +kernel⟩
abbrev s_law_number : Stmt := topS 61
abbrev N_law_number : List Str := ["tape"]
theorem sc_law_number : FnScope ["tape"] ["tape"] (defScope s_law_number) := ⟨rfl, rfl, rfl, by decide +kernel, rfl, by decide +kernel, by decide +kernel⟩
abbrev s_law_name : Stmt := topS 62
abbrev N_law_name : List Str := ["tape", "many", "k"]
theorem sc_law_name : FnScope ["tape", "many", "k"] ["tape"] (defScope s_law_name) := ⟨rfl, rfl, rfl, by decide +kernel, rfl, by decide +kernel, by decide +kernel⟩
abbrev s_law_some : Stmt := topS 63
abbrev N_law_some : List Str := ["tape", "most", "k"]
theorem sc_law_some : FnScope ["tape", "most", "k"] ["tape", "most"] (defScope s_law_some) := ⟨rfl, rfl, rfl, by decide +kernel, rfl, by decide +kernel, by decide +kernel⟩
abbrev s_law_slot : Stmt := topS 64
abbrev N_law_slot : List Str := ["tape", "draw"]
theorem sc_law_slot : FnScope ["tape", "draw"] ["tape"] (defScope s_law_slot) := ⟨rfl, rfl, rfl, by decide +kernel, rfl, by decide +kernel, by decide +kernel⟩
abbrev s_law_item_of : Stmt := topS 65
abbrev N_law_item_of : List Str := ["tape", "slot"]
theorem sc_law_item_of : FnScope ["tape", "slot"] ["tape", "slot"] (defScope s_law_item_of) := ⟨rfl, rfl, rfl, by decide +kernel, rfl, by decide +kernel, by decide +kernel⟩
abbrev s_law_one : Stmt := topS 66
abbrev N_law_one : List Str := ["tape", "draw", "slot"]
theorem sc_law_one : FnScope ["tape", "draw", "slot"] ["tape"] (defScope s_law_one) := ⟨rfl, rfl, rfl, by decide +kernel, rfl, by decide +kernel, by decide +kernel⟩
abbrev s_law_ids_text : Stmt := topS 67
abbrev N_law_ids_text : List Str := ["ids", "text", "word"]
theorem sc_law_ids_text : FnScope ["ids", "text", "word"] ["ids"] (defScope s_law_ids_text) := ⟨rfl, rfl, rfl, by decide +kernel, rfl, by decide +kernel, by decide +kernel⟩
abbrev s_law_entry_text : Stmt := topS 68
abbrev N_law_entry_text : List Str := ["slot", "item", "text"]
theorem sc_law_entry_text : FnScope ["slot", "item", "text"] ["slot", "item"] (defScope s_law_entry_text) := ⟨rfl, rfl, rfl, by decide +kernel, rfl, by decide +kernel, by decide +kernel⟩
abbrev s_law_deed_text : Stmt := topS 69
abbrev N_law_deed_text : List Str := ["deed"]
theorem sc_law_deed_text : FnScope ["deed"] ["deed"] (defScope s_law_deed_text) := ⟨rfl, rfl, rfl, by decide +kernel, rfl, by decide +kernel, by decide +kernel⟩
abbrev s_law_case : Stmt := topS 70
abbrev N_law_case : List Str := ["tape", "k", "realm", "items", "slot", "on", "deeds", "bounds", "before", "deed"]
theorem sc_law_case : FnScope ["tape", "k", "realm", "items", "slot", "on", "deeds", "bounds", "before", "deed"] ["tape"] (defScope s_law_case) := ⟨rfl, rfl, rfl, by decide +kernel, rfl, by decide +kernel, by decide +kernel⟩
abbrev s_law_lines : Stmt := topS 71
abbrev N_law_lines : List Str := ["case", "realm", "state", "deeds", "bounds", "before", "end", "lines", "k", "row", "slot", "item", "word"]
theorem sc_law_lines : FnScope ["case", "realm", "state", "deeds", "bounds", "before", "end", "lines", "k", "row", "slot", "item", "word"] ["case"] (defScope s_law_lines) := ⟨rfl, rfl, rfl, by decide +kernel, rfl, by decide +kernel, by decide +kernel⟩
abbrev s_law : Stmt := topS 72
abbrev N_law : List Str := ["script", "tape", "case", "text", "plan", "k", "moment", "deed"]
theorem sc_law : FnScope ["script", "tape", "case", "text", "plan", "k", "moment", "deed"] ["script"] (defScope s_law) := ⟨rfl, rfl, rfl, by decide +kernel, rfl, by decide +kernel, by decide +kernel⟩
local macro_rules | `(tactic| walk_at "szl") => `(tactic| first
  | assumption
  | exact Nat.lt_of_le_of_lt (by assumption) (by decide)
  | (refine Nat.lt_of_le_of_lt ?_ (show (100000 : Nat) < sizeLine by decide); (try simp only [List.length_map, List.length_cons, List.length_nil, List.length_append]); omega))
local macro_rules | `(tactic| walk_at "sz") => `(tactic| first
  | assumption
  | exact Nat.le_trans (by assumption) (by decide)
  | (show _ ≤ sizeLine; decide)
  | (refine Nat.le_trans ?_ (show (100000 : Nat) ≤ sizeLine by decide); (try simp only [List.length_map, List.length_cons, List.length_nil, List.length_append]); omega))
local macro_rules | `(tactic| walk_at "hp") => `(tactic| first
  | assumption
  | exact upd_same
  | (refine (upd_ne ?hne).trans ?_; (case hne => first | assumption | exact Ne.symm (by assumption)); walk_at "hp"))
local macro_rules | `(tactic| walk_at "pl") => `(tactic| (refine Nat.le_trans (?plx : _ ≤ 1000) (by decide); (case plx => (try simp only [app_len, dot_len, dotS_len, w_len]); omega)))
local macro_rules | `(tactic| walk_at "rd1") => `(tactic| first
  | with_reducible refine rd_seq ?_
  | with_reducible refine rd_asg ?_
  | with_reducible refine rd_ret ?_
  | with_reducible refine rd_if ?_
  | with_reducible refine rd_drop ?_
  | with_reducible refine rd_next ?_
  | with_reducible refine rd_B ?_
  | with_reducible refine rd_ifE ?_
  | with_reducible refine rd_T ?_
  | with_reducible refine rd_tnot ?_
  | with_reducible refine rd_tand ?_
  | with_reducible refine rd_tor ?_
  | with_reducible refine rd_chain ?_
  | with_reducible refine rd_rng2 ?_
  | with_reducible refine rd_zipA ?_
  | with_reducible refine rd_star ?_
  | with_reducible refine rd_op ?_
  | with_reducible refine rd_un ?_
  | with_reducible refine rd_call ?_
  | with_reducible refine rd_cons ?_
  | with_reducible refine rd_nil ?_
  | with_reducible refine rd_cb ?_
  | with_reducible refine rd_c ?_
  | with_reducible refine rd_not ?_
  | with_reducible refine rd_and ?_
  | with_reducible refine rd_or ?_
  | with_reducible refine rd_sub ?_
  | with_reducible refine rd_lc ?_
  | with_reducible refine rd_iStr ?_
  | with_reducible refine rd_exStr ?_
  | with_reducible refine rd_iSeq ?_
  | with_reducible refine rd_rng ?_
  | with_reducible refine rd_exRef ?_
  | with_reducible refine rd_exInt ?_
  | with_reducible refine rd_exInts ?_
  | ((with_reducible refine' rd_seqL (xs := ?rxs) ?rxh ?_); (case rxh => exact SqL.of (by walk_at "hp")))
  | with_reducible refine rd_tyes ?_
  | with_reducible refine rd_eqStr ?_
  | with_reducible refine rd_neStr ?_
  | with_reducible refine rd_eqInt ?_
  | with_reducible refine rd_neInt ?_
  | with_reducible refine rd_eqBl ?_
  | with_reducible refine rd_rev ?_
  | with_reducible refine rd_exA ?_
  | with_reducible refine rd_fs ?_
  | with_reducible refine rd_jc ?_
  | with_reducible refine rd_jn ?_
  | with_reducible refine rd_fmt ?_
  | with_reducible refine rd_for ?_
  | with_reducible refine rd_bm ?_
  | ((with_reducible refine' rd_tyL (xs := ?rxs) ?rxh ?_); (case rxh => walk_at "hp"))
  | ((with_reducible refine' rd_app (xs := ?rxs) ?rxh ?rxc ?_); (case rxh => walk_at "hp"); (case rxc => walk_at "szl"))
  | ((with_reducible refine rd_fmtS ?rdc ?_); (case rdc => walk_at "sz"))
  | with_reducible refine rd_isBool ?_
  | with_reducible refine rd_sl ?_
  | with_reducible refine rd_noP ?_
  | with_reducible refine rd_part ?_
  | ((with_reducible refine rd_slS ?rdc ?_); (case rdc => walk_at "sz"))
  | with_reducible refine rd_sortLam ?_
  | with_reducible refine iteT ?_
  | with_reducible refine rd_ntt ?_
  | with_reducible refine rd_nff ?_
  | with_reducible refine iteF ?_
  | with_reducible refine rd_m1 ?_
  | (with_reducible refine ⟨⟨_, rfl⟩, ?_⟩)
  | ((with_reducible refine rd_len ?rdc ?_); (case rdc => walk_at "sz"))
  | with_reducible refine rd_gcons ?_
  | ((with_reducible refine rd_plusS ?rdc ?_); (case rdc => walk_at "pl"))
  | with_reducible refine rd_gnil ?_
  | ((with_reducible refine' rd_inWs (zs := ?rxs) ?rxh ?_); (case rxh => walk_at "hp"))
  | ((with_reducible refine' rd_ninWs (zs := ?rxs) ?rxh ?_); (case rxh => walk_at "hp"))
  | with_reducible refine rd_ends ?_
  | with_reducible refine rd_inS ?_
  | with_reducible refine rd_ninS ?_
  | with_reducible refine rd_isStr ?_
  | with_reducible refine rd_lst ?_
  | with_reducible refine rd_tup ?_
  | with_reducible refine rd_name ?_
  | with_reducible refine rd_bl ?_
  | with_reducible refine rd_i0 ?_
  | with_reducible refine rd_uI ?_
  | with_reducible refine rd_plusI ?_
  | with_reducible refine rd_int1 ?_
  | ((with_reducible refine rd_i ?rdc ?_); (case rdc => first | decide | (constructor <;> decide) | (left; constructor <;> decide) | (right; constructor <;> decide) | omega | (left; constructor <;> omega) | (right; constructor <;> omega) | (constructor <;> omega)))
  | ((with_reducible refine' rd_ixL (v := ?rxv) (xs := ?rxs) ?rxh ?rxa ?_); (case rxh => exact SqL.of (by walk_at "hp")); (case rxa => rfl))
  | ((with_reducible refine' rd_lenL (ys := ?rxs) ?rxh ?_); (case rxh => exact SqL.of (by walk_at "hp")))
  | ((with_reducible refine' rd_set (xs := ?rxs) (j := ?rxj) ?rxh ?rxa ?_); (case rxh => walk_at "hp"); (case rxa => rfl))
  | ((with_reducible refine' rd_var (v := ?rdw) ?rdv ?_); (case rdv => rfl)))
local macro_rules | `(tactic| walk_at "rdn1") => `(tactic| first
  | with_reducible refine rd_asg ?_
  | with_reducible refine rd_ret ?_
  | with_reducible refine rd_if ?_
  | with_reducible refine rd_drop ?_
  | with_reducible refine rd_next ?_
  | with_reducible refine rd_B ?_
  | with_reducible refine rd_ifE ?_
  | with_reducible refine rd_T ?_
  | with_reducible refine rd_tnot ?_
  | with_reducible refine rd_tand ?_
  | with_reducible refine rd_tor ?_
  | with_reducible refine rd_chain ?_
  | with_reducible refine rd_rng2 ?_
  | with_reducible refine rd_zipA ?_
  | with_reducible refine rd_star ?_
  | with_reducible refine rd_op ?_
  | with_reducible refine rd_un ?_
  | with_reducible refine rd_call ?_
  | with_reducible refine rd_cons ?_
  | with_reducible refine rd_nil ?_
  | with_reducible refine rd_cb ?_
  | with_reducible refine rd_c ?_
  | with_reducible refine rd_not ?_
  | with_reducible refine rd_and ?_
  | with_reducible refine rd_or ?_
  | with_reducible refine rd_sub ?_
  | with_reducible refine rd_lc ?_
  | with_reducible refine rd_iStr ?_
  | with_reducible refine rd_exStr ?_
  | with_reducible refine rd_iSeq ?_
  | with_reducible refine rd_rng ?_
  | with_reducible refine rd_exRef ?_
  | with_reducible refine rd_exInt ?_
  | with_reducible refine rd_exInts ?_
  | ((with_reducible refine' rd_seqL (xs := ?rxs) ?rxh ?_); (case rxh => exact SqL.of (by walk_at "hp")))
  | with_reducible refine rd_tyes ?_
  | with_reducible refine rd_eqStr ?_
  | with_reducible refine rd_neStr ?_
  | with_reducible refine rd_eqInt ?_
  | with_reducible refine rd_neInt ?_
  | with_reducible refine rd_eqBl ?_
  | with_reducible refine rd_rev ?_
  | with_reducible refine rd_exA ?_
  | with_reducible refine rd_fs ?_
  | with_reducible refine rd_jc ?_
  | with_reducible refine rd_jn ?_
  | with_reducible refine rd_fmt ?_
  | with_reducible refine rd_for ?_
  | with_reducible refine rd_bm ?_
  | ((with_reducible refine' rd_tyL (xs := ?rxs) ?rxh ?_); (case rxh => walk_at "hp"))
  | ((with_reducible refine' rd_app (xs := ?rxs) ?rxh ?rxc ?_); (case rxh => walk_at "hp"); (case rxc => walk_at "szl"))
  | ((with_reducible refine rd_fmtS ?rdc ?_); (case rdc => walk_at "sz"))
  | with_reducible refine rd_isBool ?_
  | with_reducible refine rd_sl ?_
  | with_reducible refine rd_noP ?_
  | with_reducible refine rd_part ?_
  | ((with_reducible refine rd_slS ?rdc ?_); (case rdc => walk_at "sz"))
  | with_reducible refine rd_sortLam ?_
  | with_reducible refine iteT ?_
  | with_reducible refine rd_ntt ?_
  | with_reducible refine rd_nff ?_
  | with_reducible refine iteF ?_
  | with_reducible refine rd_m1 ?_
  | (with_reducible refine ⟨⟨_, rfl⟩, ?_⟩)
  | ((with_reducible refine rd_len ?rdc ?_); (case rdc => walk_at "sz"))
  | with_reducible refine rd_gcons ?_
  | ((with_reducible refine rd_plusS ?rdc ?_); (case rdc => walk_at "pl"))
  | with_reducible refine rd_gnil ?_
  | ((with_reducible refine' rd_inWs (zs := ?rxs) ?rxh ?_); (case rxh => walk_at "hp"))
  | ((with_reducible refine' rd_ninWs (zs := ?rxs) ?rxh ?_); (case rxh => walk_at "hp"))
  | with_reducible refine rd_ends ?_
  | with_reducible refine rd_inS ?_
  | with_reducible refine rd_ninS ?_
  | with_reducible refine rd_isStr ?_
  | with_reducible refine rd_lst ?_
  | with_reducible refine rd_tup ?_
  | with_reducible refine rd_name ?_
  | with_reducible refine rd_bl ?_
  | with_reducible refine rd_i0 ?_
  | with_reducible refine rd_uI ?_
  | with_reducible refine rd_plusI ?_
  | with_reducible refine rd_int1 ?_
  | ((with_reducible refine rd_i ?rdc ?_); (case rdc => first | decide | (constructor <;> decide) | (left; constructor <;> decide) | (right; constructor <;> decide) | omega | (left; constructor <;> omega) | (right; constructor <;> omega) | (constructor <;> omega)))
  | ((with_reducible refine' rd_ixL (v := ?rxv) (xs := ?rxs) ?rxh ?rxa ?_); (case rxh => exact SqL.of (by walk_at "hp")); (case rxa => rfl))
  | ((with_reducible refine' rd_lenL (ys := ?rxs) ?rxh ?_); (case rxh => exact SqL.of (by walk_at "hp")))
  | ((with_reducible refine' rd_set (xs := ?rxs) (j := ?rxj) ?rxh ?rxa ?_); (case rxh => walk_at "hp"); (case rxa => rfl))
  | ((with_reducible refine' rd_var (v := ?rdw) ?rdv ?_); (case rdv => rfl)))
local macro_rules | `(tactic| walk_at "rd") => `(tactic| repeat walk_at "rd1")
local macro_rules | `(tactic| walk_at "ext") => `(tactic| first
  | exact Ext.refl
  | assumption
  | (refine Ext.trans ?_ (Ext.mut (by simp) (by walk_at "hp")); walk_at "ext")
  | (refine Ext.trans ?_ (Ext.new (by assumption)); walk_at "ext"))
local macro_rules | `(tactic| walk_at "rdn") => `(tactic| repeat walk_at "rdn1")
section
variable {T : List (Addr × Str)} {P : Program} {w : World} {K : PySem.W.Frag} {mg : Str → Option Value} {base : Heap}
def bltns : List Str := ["isinstance", "str", "len", "all", "any", "range", "list", "tuple", "int", "max", "min", "enumerate", "sorted", "zip"]
theorem ok_law_mix (D : Def K mg "_law_mix" s_law_mix ["number"]) (mb : ∀ x ∈ bltns, mg x = none) : Ok P w K mg base 1 "_law_mix" ["number"] spMix := by
  refine D.ok sc_law_mix (fun vs H Q E h => ?_) (fun cdv f A outer s H vs Q E hr h => ?_)
  · obtain ⟨n, rfl, _⟩ := h
    rfl
  · obtain ⟨n, rfl, q⟩ := h
    refine ⟨_, (pss_cons (ps_set (i := 0) sc_law_mix.nd rfl (.inl rfl) (pe_op op_mod (pe_callTy call_int1U (by rfl) (mb _ (by decide)) (by decide +kernel) (pa_cons (pe_op (op_plus K rfl) (pe_op op_mul (pv 0) pe_int) pe_int) pa_nil)) pe_int))
   (pss_one (ps_ret (pe_op op_mod (pe_callTy call_int1U (by rfl) (mb _ (by decide)) (by decide +kernel) (pa_cons (pe_op (op_plus K rfl) (pe_op op_fdivW (pe_op op_mul (pv 0) (pv 0)) pe_int) (pe_op op_mul (pv 0) pe_int)) pa_nil)) pe_int)))), ?_⟩
    walk_at "rd"
    exact q
theorem ok_law_tape (D : Def K mg "_law_tape" s_law_tape ["script", "budget"]) (mb : ∀ x ∈ bltns, mg x = none) : Ok P w K mg base 1 "_law_tape" ["script", "budget"] (spTape T K) := by
  refine D.ok sc_law_tape (fun vs H Q E h => ?_) (fun cdv f A outer s H vs Q E hr h => ?_)
  · obtain ⟨a, ns, b, rfl, _⟩ := h
    rfl
  · obtain ⟨a, ns, b, rfl, ha, hl, q⟩ := h
    refine ⟨_, (pss_one (ps_ret (pe_lst (pa_cons (pe_callTy (call_listU K rfl) (by rfl) (mb _ (by decide)) (by decide +kernel) (pa_cons (pv 0) pa_nil)) (pa_cons pe_int (pa_cons pe_int (pa_cons pe_int (pa_cons (pv 1) pa_nil)))))))), ?_⟩
    walk_at "rd"
    refine rd_listL ha fun l nl => ?_
    walk_at "rd"
    refine ⟨by show 5 ≤ sizeLine; decide, fun t nt => ?_⟩
    have hlt : l ≠ t := fun z => by
      rw [← z, upd_same] at nt
      cases nt
    have ntH : H t = none := by
      rw [upd_ne (Ne.symm hlt)] at nt
      exact nt
    exact q t l _ (.of ntH) ((Ext.new nl).trans (.new nt)) ⟨ns, 0, 0, 1, b, upd_same, by rw [upd_ne hlt]; exact upd_same, hlt, by decide, by decide⟩
theorem ok_law_take (D : Def K mg "_law_take" s_law_take ["tape", "many"]) (G_law_mix : Ok P w K mg base 1 "_law_mix" ["number"] spMix) (mb : ∀ x ∈ bltns, mg x = none) : Ok P w K mg base 2 "_law_take" ["tape", "many"] (spTake T) := by
  refine D.ok sc_law_take (fun vs H Q E h => ?_) (fun cdv f A outer s H vs Q E hr h => ?_)
  · obtain ⟨l, t, m, rfl, _⟩ := h
    rfl
  · obtain ⟨l, t, m, rfl, hm, hm2, hT, q⟩ := h
    obtain ⟨ns, pos, rest, st, bud, ht, hlh, hlt, hr0, hs0⟩ := hT
    refine ⟨_, (pss_cons (ps_if (pt_cmpR op_lt (pe_ix (ix_U K rfl) (pv 0) pe_int (fun _ _ => rfl)) (pv 1) (nomark _)) (pss_one (ps_if (pt_cmpR op_lt (pe_ix (ix_U K rfl) (pv 0) pe_int (fun _ _ => rfl)) (pe_callB (call_lenU K rfl) (by rfl) (mb _ (by decide)) (by decide +kernel) (pa_cons (pe_ix (ix_U K rfl) (pv 0) pe_int (fun _ _ => rfl)) pa_nil)) (nomark _)) (pss_cons (ps_set (i := 2) sc_law_take.nd rfl (.inl rfl) (pe_ix (ix_U K rfl) (pe_ix (ix_U K rfl) (pv 0) pe_int (fun _ _ => rfl)) (pe_ix (ix_U K rfl) (pv 0) pe_int (fun _ _ => rfl)) (fun _ _ => rfl)))
   (pss_cons (ps_set (i := 2) sc_law_take.nd rfl (.inl rfl) (pe_ifExp (pt_cmpR op_ge (pv 2) pe_int (nomark _)) (pe_op op_mul pe_int (pv 2)) (pe_op op_sub (pe_op op_mul (pe_un un_neg pe_int) (pv 2)) pe_int)))
   (pss_cons (ps_asg (pe_op (op_plus K rfl) (pe_ix (ix_U K rfl) (pv 0) pe_int (fun _ _ => rfl)) pe_int) (pg_sub (pv 0) pe_int set_list))
   (pss_cons (ps_asg (pe_callO G_law_mix (hr.mono (by decide)) (by rfl) (pa_cons (pe_op (op_plus K rfl) (pe_ix (ix_U K rfl) (pv 0) pe_int (fun _ _ => rfl)) (pv 2)) pa_nil)) (pg_sub (pv 0) pe_int set_list))
   (pss_one (ps_asg (pe_ifExp (pt_cmpR op_ge (pv 2) (pe_op op_pow pe_int pe_int) (nomark _)) (pv 2) (pe_callO G_law_mix (hr.mono (by decide)) (by rfl) (pa_cons (pe_callO G_law_mix (hr.mono (by decide)) (by rfl) (pa_cons (pv 2) pa_nil)) pa_nil))) (pg_sub (pv 0) pe_int set_list))))))) (pss_cons (ps_asg (pe_callO G_law_mix (hr.mono (by decide)) (by rfl) (pa_cons (pe_op (op_plus K rfl) (pe_ix (ix_U K rfl) (pv 0) pe_int (fun _ _ => rfl)) pe_int) pa_nil)) (pg_sub (pv 0) pe_int set_list))
   (pss_one (ps_asg (pe_ix (ix_U K rfl) (pv 0) pe_int (fun _ _ => rfl)) (pg_sub (pv 0) pe_int set_list)))))) pss_nil)
   (pss_cons (ps_set (i := 3) sc_law_take.nd rfl (.inl rfl) (pe_op op_mod (pe_callTy call_int1U (by rfl) (mb _ (by decide)) (by decide +kernel) (pa_cons (pe_ix (ix_U K rfl) (pv 0) pe_int (fun _ _ => rfl)) pa_nil)) (pv 1)))
   (pss_cons (ps_asg (pe_op op_fdivW (pe_ix (ix_U K rfl) (pv 0) pe_int (fun _ _ => rfl)) (pv 1)) (pg_sub (pv 0) pe_int set_list))
   (pss_one (ps_ret (pv 3)))))), ?_⟩
    have fin : ∀ (H1 : Hp) (po : Nat) (re sm : Int) (σ' : L2.St), H1 t = some (.lst [.ref l, .int (po : Int), .int re, .int sm, .int bud]) → H1 l = some (.lst (ns.map V.int)) → 0 ≤ re → 0 ≤ sm → Ext T [t] H H1 →
        ∀ d, 0 ≤ d → d < m → Q (.int d) (upd H1 t (.lst [.ref l, .int (po : Int), .int (re / m), .int sm, .int bud])) := fun H1 po re sm σ' e1 e2 h1 h2 ex d h3 h4 =>
      q d _ h3 h4 (ex.trans (.mut (by simp) e1)) ⟨ns, po, re / m, sm, bud, upd_same, by rw [upd_ne hlt]; exact e2, hlt, Int.ediv_nonneg h1 (by omega), h2⟩
    have wm : ∀ i, CDivW i m := fun i => wide_div hm (b := 64) (by omega) (by decide) (by decide)
    have tail : ∀ (H1 : Hp) (po : Nat) (re sm : Int) (xs : List V), xs = [.ref l, .int (po : Int), .int re, .int sm, .int bud] → H1 t = some (.lst xs) → H1 l = some (.lst (ns.map V.int)) → 0 ≤ re → 0 ≤ sm → Ext T [t] H H1 →
        Q (.int (re % m)) (upd H1 t (.lst (xs.set 2 (.int (re / m))))) := fun H1 po re sm xs exs e1 e2 h1 h2 ex => by
      subst exs
      exact fin H1 po re sm [] e1 e2 h1 h2 ex _ (Int.emod_nonneg _ (by omega)) (Int.emod_lt_of_pos _ hm)
    walk_at "rd"
    refine rd_ite (fun h1 => ?_) (fun h1 => ?_)
    · walk_at "rd"
      refine rd_ite (fun h2 => ?_) (fun h2 => ?_)
      · walk_at "rd"
        have hp : pos < ns.length := by
          rw [List.length_map] at h2
          omega
        refine rd_ixL (v := .int ns[pos]) (SqL.of hlh) (atI_nat (by rw [List.getElem?_map, List.getElem?_eq_getElem hp]; rfl)) ?_
        walk_at "rd"
        refine rd_ite (fun h3 => ?_) (fun h3 => ?_)
        · walk_at "rd"
          refine ⟨_, rfl, ?_⟩
          walk_at "rd"
          refine rd_ite (fun h4 => ?_) (fun h4 => ?_)
          · walk_at "rd"
            refine rd_i (wm _) ?_
            walk_at "rd"
            exact tail _ (pos + 1) _ _ _ rfl upd_same (by walk_at "hp") (by omega) (mixI_nn _) (by walk_at "ext")
          · walk_at "rd"
            refine ⟨_, rfl, ?_⟩
            walk_at "rd"
            refine ⟨_, rfl, ?_⟩
            walk_at "rd"
            refine rd_i (wm _) ?_
            walk_at "rd"
            exact tail _ (pos + 1) _ _ _ rfl upd_same (by walk_at "hp") (mixI_nn _) (mixI_nn _) (by walk_at "ext")
        · walk_at "rd"
          refine ⟨_, rfl, ?_⟩
          walk_at "rd"
          refine rd_ite (fun h4 => ?_) (fun h4 => ?_)
          · walk_at "rd"
            refine rd_i (wm _) ?_
            walk_at "rd"
            exact tail _ (pos + 1) _ _ _ rfl upd_same (by walk_at "hp") (by omega) (mixI_nn _) (by walk_at "ext")
          · walk_at "rd"
            refine ⟨_, rfl, ?_⟩
            walk_at "rd"
            refine ⟨_, rfl, ?_⟩
            walk_at "rd"
            refine rd_i (wm _) ?_
            walk_at "rd"
            exact tail _ (pos + 1) _ _ _ rfl upd_same (by walk_at "hp") (mixI_nn _) (mixI_nn _) (by walk_at "ext")
      · walk_at "rd"
        refine ⟨_, rfl, ?_⟩
        walk_at "rd"
        refine rd_i (wm _) ?_
        walk_at "rd"
        exact tail _ pos _ _ _ rfl upd_same (by walk_at "hp") (mixI_nn _) (mixI_nn _) (by walk_at "ext")
    · walk_at "rd"
      refine rd_i (wm _) ?_
      walk_at "rd"
      exact tail H pos rest st _ rfl ht hlh hr0 hs0 .refl
end

open PySem PySem.Spec PyProof.Rows L2
open PySem.W (EachIs)
def digitsS : Str := "0123456789"
structure Cst (mg : Str → Option Value) : Prop where
  c_DIGITS : ∃ t, mg "DIGITS" = some (.str digitsS t)
  c_LETTERS : ∃ t, mg "LETTERS" = some (.str lettersS t)
  c_MAX_DIGITS : ∃ t, mg "MAX_DIGITS" = some (.int 5 t)
  c_MAX_ID : ∃ t, mg "MAX_ID" = some (.int 4 t)
  c_MAX_LABEL : ∃ t, mg "MAX_LABEL" = some (.int 8 t)
  c_MAX_LABELS : ∃ t, mg "MAX_LABELS" = some (.int 4 t)
  c_HOSTS_FIRST : ∃ t, mg "HOSTS_FIRST" = some (.int 0 t)
  c_HOSTS_LAST : ∃ t, mg "HOSTS_LAST" = some (.int 10000 t)
  c_ZONES : ∃ t, mg "ZONES" = some (.int 0 t)
  c_ANCHORS : ∃ t, mg "ANCHORS" = some (.int 1 t)
  c_SETS : ∃ t, mg "SETS" = some (.int 2 t)
  c_ITEMS : ∃ t, mg "ITEMS" = some (.int 3 t)
  c_SERVERS : ∃ t, mg "SERVERS" = some (.int 4 t)
  c_DEEDS : ∃ t, mg "DEEDS" = some (.int 5 t)
  c_PAIRS : ∃ t, mg "PAIRS" = some (.int 6 t)
  c_END : ∃ t, mg "END" = some (.int 7 t)
section
variable {T : List (Addr × Str)} {P : Program} {w : World} {K : PySem.W.Frag} {mg : Str → Option Value} {base : Heap}
local macro_rules | `(tactic| walk_at "tr") => `(tactic| first
  | assumption
  | exact Ext.refl
  | ((with_reducible refine' Im.x (T := T) (H := ?trH) ?tra ?tre); (case tre => assumption); (case tra => walk_at "tr"))
  | ((with_reducible refine' Im.y (T := T) (H := ?trH) ?tra ?tre ?trt); (case tre => assumption); (case trt => walk_at "tr"); (case tra => walk_at "tr"))
  | ((with_reducible refine' ImAll.x (T := T) (H := ?trH) ?tra ?tre); (case tre => assumption); (case tra => walk_at "tr"))
  | ((with_reducible refine' ImAll.y (T := T) (H := ?trH) ?tra ?tre ?trt); (case tre => assumption); (case trt => walk_at "tr"); (case tra => walk_at "tr"))
  | ((with_reducible refine' Ls.x (T := T) (H := ?trH) ?tra ?tre); (case tre => assumption); (case tra => walk_at "tr"))
  | ((with_reducible refine' Ls.y (T := T) (H := ?trH) ?tra ?tre ?trn ?trt); (case tre => assumption); (case trt => walk_at "tr"); (case trn => walk_at "tr"); (case tra => walk_at "tr"))
  | ((with_reducible refine' SqP.x (T := T) (H := ?trH) ?tra ?tre); (case tre => assumption); (case tra => walk_at "tr"))
  | ((with_reducible refine' SqP.y (T := T) (H := ?trH) ?tra ?tre ?trt); (case tre => assumption); (case trt => walk_at "tr"); (case tra => walk_at "tr"))
  | ((with_reducible refine' StAt.x (T := T) (H := ?trH) ?tra ?tre); (case tre => assumption); (case tra => walk_at "tr"))
  | ((with_reducible refine' StAt.y (T := T) (H := ?trH) ?tra ?tre ?trt); (case tre => assumption); (case trt => walk_at "tr"); (case tra => walk_at "tr"))
  | ((with_reducible refine' Pools.ext0 (T := T) (H := ?trH) ?tra ?tre); (case tre => assumption); (case tra => walk_at "tr"))
  | ((with_reducible refine' Pools.ext (T := T) (H := ?trH) ?tra ?tre ?trt); (case tre => assumption); (case trt => walk_at "tr"); (case tra => walk_at "tr"))
  | ((with_reducible refine' CL.x (T := T) (H := ?trH) ?tra ?tre); (case tre => assumption); (case tra => walk_at "tr"))
  | ((with_reducible refine' CL.y (T := T) (H := ?trH) ?tra ?tre); (case tre => assumption); (case tra => walk_at "tr"))
  | ((with_reducible refine' Tape.ext (T := T) (H := ?trH) ?tra ?tre); (case tre => assumption); (case tra => walk_at "tr"))
  | ((with_reducible refine' lst.x (T := T) (H := ?trH) ?tra ?tre); (case tre => assumption); (case tra => walk_at "tr"))
  | ((with_reducible refine' lst.y (T := T) (H := ?trH) ?tra ?tre ?trn); (case tre => assumption); (case trn => walk_at "tr"); (case tra => walk_at "tr"))
  | ((with_reducible refine' tup.x (T := T) (H := ?trH) ?tra ?tre); (case tre => assumption); (case tra => walk_at "tr"))
  | ((with_reducible refine' tup.y (T := T) (H := ?trH) ?tra ?tre ?trt); (case tre => assumption); (case trt => walk_at "tr"); (case tra => walk_at "tr"))
  | ((with_reducible refine' frz.x (T := T) (H := ?trH) ?tra ?tre); (case tre => assumption); (case tra => walk_at "tr"))
  | ((with_reducible refine' frz.y (T := T) (H := ?trH) ?tra ?tre ?trt); (case tre => assumption); (case trt => walk_at "tr"); (case tra => walk_at "tr"))
  | ((with_reducible refine' Im.z (T := T) (H := ?trH) ?tra ?tre ?trt); (case tre => assumption); (case trt => assumption); (case tra => walk_at "tr"))
  | ((with_reducible refine' ImAll.z (T := T) (H := ?trH) ?tra ?tre ?trt); (case tre => assumption); (case trt => assumption); (case tra => walk_at "tr"))
  | ((with_reducible refine' StAt.z (T := T) (H := ?trH) ?tra ?tre ?trt); (case tre => assumption); (case trt => assumption); (case tra => walk_at "tr"))
  | ((with_reducible refine' SqP.z (T := T) (H := ?trH) ?tra ?tre ?trt); (case tre => assumption); (case trt => assumption); (case tra => walk_at "tr"))
  | ((with_reducible refine' tup.z (T := T) (H := ?trH) ?tra ?tre ?trt); (case tre => assumption); (case trt => assumption); (case tra => walk_at "tr"))
  | ((with_reducible refine' Ls.z (T := T) (H := ?trH) ?tra ?tre ?trt ?trn); (case tre => assumption); (case trt => assumption); (case trn => assumption); (case tra => walk_at "tr"))
  | ((with_reducible refine' lst.z (T := T) (H := ?trH) ?tra ?tre ?trn); (case tre => assumption); (case trn => assumption); (case tra => walk_at "tr"))
  | ((with_reducible refine' CL.z (T := T) (H := ?trH) ?tra ?tre ?trn); (case tre => assumption); (case trn => assumption); (case tra => walk_at "tr"))
  | ((with_reducible refine' Tape.ne1 (H := ?trH) ?trt ?trn); (case trn => assumption); (case trt => walk_at "tr"))
  | ((with_reducible refine' Ext.trans (H1 := ?trH) ?tra (Ext.any ?tre)); (case tre => assumption); (case tra => walk_at "tr"))
  | ((with_reducible refine' Ext.trans (H1 := ?trH) ?tra ?tre); (case tre => assumption); (case tra => walk_at "tr"))
  | ((with_reducible refine' Ext.back1 (T := T) (H1 := ?trH) ?tre ?trn ?tra); (case tra => assumption); (case trn => walk_at "tr"); (case tre => walk_at "tr"))
  | ((with_reducible refine' Ext.back0 (T := T) (H1 := ?trH) ?tre ?tra); (case tra => assumption); (case tre => walk_at "tr"))
  | ((with_reducible refine' SqT.of ?tra); (case tra => walk_at "tr"))
  | ((with_reducible refine' SqL.of ?tra); (case tra => walk_at "tr")))
local macro_rules | `(tactic| walk_at "al") => `(tactic| (refine ⟨by first | (show _ ≤ sizeLine; decide) | walk_at "sz", ?_⟩; intro alp aln; generalize alG : upd _ alp _ = alH; obtain ⟨aln2, alx, alh⟩ := al_of (T := T) aln alG; clear alG aln))
local macro_rules | `(tactic| walk_at "al0") => `(tactic| (intro alp aln; generalize alG : upd _ alp _ = alH; obtain ⟨aln2, alx, alh⟩ := al_of (T := T) aln alG; clear alG aln))

theorem ok_is_word (D : Def K mg "is_word" s_is_word ["text", "letters", "most"]) (mb : ∀ x ∈ bltns, mg x = none) : Ok P w K mg base 1 "is_word" ["text", "letters", "most"] (spWord T) := by
  refine D.ok sc_is_word (fun vs H Q E h => ?_) (fun cdv f A outer s H vs Q E hr h => ?_)
  · obtain ⟨z, ls, m, rfl, _⟩ := h
    rfl
  · obtain ⟨z, ls, m, rfl, hz, q⟩ := h
    have hz2 : z.length ≤ sizeLine := Nat.le_trans hz (by decide)
    refine ⟨_, (pss_one (ps_ret (pe_and (pe_callB (call_isiU K rfl) (by rfl) (mb _ (by decide)) (by decide +kernel) (pa_cons (pv 0) (pa_cons (pe_bltn (v := .ty "str") (u := .type "str") (by rfl) (mb _ (by decide)) (by decide +kernel) rfl) pa_nil))) (pe_and (pe_chain op_le op_le pe_int (pe_callB (call_lenU K rfl) (by rfl) (mb _ (by decide)) (by decide +kernel) (pa_cons (pv 0) pa_nil)) (pv 2)) (pe_one (pe_callB (call_allU K rfl rfl) (by rfl) (mb _ (by decide)) (by decide +kernel) (pa_cons (pe_lc (own := [("letter", 3)]) (g := gName 3) (tt := tYes) rfl sc_is_word.nd (pi_str (pv 0)) (blkOk_by (N := N_is_word) (sc := defScope s_is_word) (by decide +kernel)) (fun _ _ _ _ _ => (pg_name (i := 3) sc_is_word.nd rfl (Or.inl rfl))) (fun _ _ _ _ _ => pts_nil) (fun _ _ _ _ _ => (pe_cmpR (op_inW K rfl (Room.units65 hr)) (pv 3) (pv 1) rfl))) pa_nil))))))), ?_⟩
    have q' : ∀ (H' : Hp) {b : Bool}, Ext T [] H H' → wordB z ls m = b → Q (.bl b) H' := fun H' b e h => by
      rw [← h]
      exact q H' e
    unfold wordB at q'
    walk_at "rd"
    refine rd_ite (fun h1 => ?_) (fun h1 => ?_)
    · walk_at "rd"
      refine rd_ite (fun h2 => ?_) (fun h2 => ?_)
      · walk_at "rd"
        refine lcg_str T [] (fun _ => true) (fun v => .bl (match v with | .str x => decide ((sg x).headD 0 ∈ sg ls) | _ => false)) (Nat.lt_of_le_of_lt hz (by decide)) (by simp) (fun x hx H' e R S h1 h2 => ?_) (fun D H2 nw e hD => ?_)
        · obtain ⟨c, hc, rfl⟩ := List.mem_map.mp hx
          walk_at "rd"
          exact .inl (rd_inS (h1 rfl H' .refl))
        · walk_at "rd"
          refine rd_all (bs := (sg z).map fun c => decide (c ∈ sg ls)) (SqL.of (by rw [hD, filtT, chrs, List.map_map, List.map_map]; rfl)) (q' _ e ?_)
          rw [decide_eq_true h1, decide_eq_true h2, List.all_map]
          rfl
      · exact q' H .refl (by rw [decide_eq_false h2, Bool.false_and, Bool.and_false])
    · walk_at "rd"
      exact q' H .refl (by rw [decide_eq_false h1, Bool.false_and])
theorem ok_is_id (D : Def K mg "is_id" s_is_id ["text"]) (M : Cst mg) (G_is_word : Ok P w K mg base 1 "is_word" ["text", "letters", "most"] (spWord T)) : Ok P w K mg base 2 "is_id" ["text"] (spTB T idB) := by
  refine D.ok sc_is_id (fun vs H Q E h => ?_) (fun cdv f A outer s H vs Q E hr h => ?_)
  · obtain ⟨z, rfl, _⟩ := h
    rfl
  · obtain ⟨z, rfl, hz, q⟩ := h
    refine ⟨_, (pss_one (ps_ret (pe_callO G_is_word (hr.mono (by decide)) (by rfl) (pa_cons (pv 0) (pa_cons (pe_glS (by rfl) M.c_LETTERS) (pa_cons (pe_glI (by rfl) M.c_MAX_ID) pa_nil)))))), ?_⟩
    walk_at "rd"
    exact ⟨z, _, _, rfl, hz, q⟩
theorem ok_is_label (D : Def K mg "is_label" s_is_label ["text"]) (M : Cst mg) (G_is_word : Ok P w K mg base 1 "is_word" ["text", "letters", "most"] (spWord T)) : Ok P w K mg base 2 "is_label" ["text"] (spTB T labelB) := by
  refine D.ok sc_is_label (fun vs H Q E h => ?_) (fun cdv f A outer s H vs Q E hr h => ?_)
  · obtain ⟨z, rfl, _⟩ := h
    rfl
  · obtain ⟨z, rfl, hz, q⟩ := h
    refine ⟨_, (pss_one (ps_ret (pe_callO G_is_word (hr.mono (by decide)) (by rfl) (pa_cons (pv 0) (pa_cons (pe_glS (by rfl) M.c_LETTERS) (pa_cons (pe_glI (by rfl) M.c_MAX_LABEL) pa_nil)))))), ?_⟩
    walk_at "rd"
    exact ⟨z, _, _, rfl, hz, q⟩
theorem ok_is_name (D : Def K mg "is_name" s_is_name ["text"]) (mb : ∀ x ∈ bltns, mg x = none) (M : Cst mg) (G_is_label : Ok P w K mg base 2 "is_label" ["text"] (spTB T labelB)) : Ok P w K mg base 3 "is_name" ["text"] (spTB T nameB) := by
  refine D.ok sc_is_name (fun vs H Q E h => ?_) (fun cdv f A outer s H vs Q E hr h => ?_)
  · obtain ⟨z, rfl, _⟩ := h
    rfl
  · obtain ⟨z, rfl, hz, q⟩ := h
    refine ⟨_, (pss_cons (ps_if (pt_not (pt_E (pe_callB (call_isiU K rfl) (by rfl) (mb _ (by decide)) (by decide +kernel) (pa_cons (pv 0) (pa_cons (pe_bltn (v := .ty "str") (u := .type "str") (by rfl) (mb _ (by decide)) (by decide +kernel) rfl) pa_nil))))) (pss_one (ps_ret pe_bl)) pss_nil)
   (pss_cons (ps_if (pt_cmpR (op_eqU K rfl hr.units) (pv 0) pe_str (nomark _)) (pss_one (ps_ret pe_bl)) pss_nil)
   (pss_cons (ps_set (i := 1) sc_is_name.nd rfl (.inl rfl) (pe_m1 PySem.F.slot_str_split PySem.F.type_str_split mt_splitU (pv 0) pe_str))
   (pss_one (ps_ret (pe_and (pe_cmpR op_le (pe_callB (call_lenU K rfl) (by rfl) (mb _ (by decide)) (by decide +kernel) (pa_cons (pv 1) pa_nil)) (pe_glI (by rfl) M.c_MAX_LABELS) (nomark _)) (pe_one (pe_callB (call_allU K rfl rfl) (by rfl) (mb _ (by decide)) (by decide +kernel) (pa_cons (pe_lc (own := [("part", 2)]) (g := gName 2) (tt := tYes) rfl sc_is_name.nd (pi_seq K rfl (pv 1)) (blkOk_by (N := N_is_name) (sc := defScope s_is_name) (by decide +kernel)) (fun _ _ _ _ _ => (pg_name (i := 2) sc_is_name.nd rfl (Or.inl rfl))) (fun _ _ _ _ _ => pts_nil) (fun _ _ _ _ _ => (pe_callO G_is_label (hr.mono (by decide)) (by rfl) (pa_cons (pv 2) pa_nil)))) pa_nil))))))))), ?_⟩
    have q' : ∀ (H' : Hp) {b : Bool}, Ext T [] H H' → nameB z = b → Q (.bl b) H' := fun H' b e h => by
      rw [← h]
      exact q H' e
    unfold nameB at q'
    walk_at "rd"
    refine rd_ite (fun h1 => ?_) (fun h1 => ?_)
    · walk_at "rd"
      exact q' H .refl (by rw [decide_eq_true (show z = dotS from h1), Bool.true_or])
    · walk_at "rd"
      refine rd_split (by decide +kernel) (by walk_at "sz") fun p np => ?_
      have hpl := parts_le z
      have hd0 : decide (z = dotS) = false := decide_eq_false h1
      have hpl2 : ((partsL z).map V.str).length < sizeLine := by
        rw [List.length_map]
        exact Nat.lt_of_le_of_lt (show _ ≤ 1001 by omega) (by decide)
      walk_at "rd"
      refine rd_ite (fun h2 => ?_) (fun h2 => ?_) <;> rw [List.length_map] at h2
      · walk_at "rd"
        refine lcg_list T [] (K := K) (SqL.of upd_same) (fun _ => true) (fun v => .bl (match v with | .str x => labelB x | _ => false)) hpl2 (by simp) (by simp) (fun x hx H' e R S h1 h2 => ?_) (fun D H2 nw e hD => ?_)
        · obtain ⟨y, hy, rfl⟩ := List.mem_map.mp hx
          walk_at "rd"
          exact ⟨y, rfl, Nat.le_trans (parts_mem hy) hz, fun H3 e3 => h1 rfl H3 e3⟩
        · walk_at "rd"
          refine rd_all (bs := (partsL z).map labelB) (SqL.of (by rw [hD, filtT, List.map_map, List.map_map]; rfl)) (q' _ ((Ext.new np).trans e) ?_)
          rw [hd0, decide_eq_true (show ((partsL z).length : Int) ≤ 4 from h2), List.all_map]
          rfl
      · exact q' _ (.new np) (by rw [hd0, decide_eq_false (show ¬ ((partsL z).length : Int) ≤ 4 from h2)]; rfl)
theorem dig_mem (c : Nat) : decide (c ∈ sg digitsS) = digB c := by
  have e : sg digitsS = [48, 49, 50, 51, 52, 53, 54, 55, 56, 57] := by decide +kernel
  rw [e]
  unfold digB
  rw [Bool.eq_iff_iff, decide_eq_true_eq, Bool.and_eq_true, decide_eq_true_eq, decide_eq_true_eq]
  simp only [List.mem_cons, List.not_mem_nil, or_false]
  omega
theorem word_num (z : Str) : wordB z digitsS 5 = (decide (1 ≤ (sg z).length) && (decide ((sg z).length ≤ 5) && (sg z).all digB)) := by
  unfold wordB
  rw [← sg_len z]
  congr 1
  · rw [Bool.eq_iff_iff, decide_eq_true_eq, decide_eq_true_eq]
    omega
  · congr 1
    · rw [Bool.eq_iff_iff, decide_eq_true_eq, decide_eq_true_eq]
      omega
    · congr 1
      funext c
      exact dig_mem c
theorem ok_is_number (D : Def K mg "is_number" s_is_number ["text"]) (mb : ∀ x ∈ bltns, mg x = none) (M : Cst mg) (G_is_word : Ok P w K mg base 1 "is_word" ["text", "letters", "most"] (spWord T)) : Ok P w K mg base 2 "is_number" ["text"] (spTB T fun z => numBL (sg z)) := by
  refine D.ok sc_is_number (fun vs H Q E h => ?_) (fun cdv f A outer s H vs Q E hr h => ?_)
  · obtain ⟨z, rfl, _⟩ := h
    rfl
  · obtain ⟨z, rfl, hz, q⟩ := h
    refine ⟨_, (pss_one (ps_ret (pe_and (pe_callO G_is_word (hr.mono (by decide)) (by rfl) (pa_cons (pv 0) (pa_cons (pe_glS (by rfl) M.c_DIGITS) (pa_cons (pe_glI (by rfl) M.c_MAX_DIGITS) pa_nil)))) (pe_one (pe_or (pe_cmpR (op_eqU K rfl hr.units) (pv 0) pe_str (nomark _)) (pe_one (pe_cmpR (op_neU K rfl hr.units) (pe_ix (ix_U K rfl) (pv 0) pe_int (fun _ _ => rfl)) pe_str (nomark _)))))))), ?_⟩
    walk_at "rd"
    refine ⟨z, digitsS, 5, rfl, hz, fun H1 e1 => ?_⟩
    have q' : ∀ {b : Bool}, numBL (sg z) = b → Q (.bl b) H1 := fun h => by
      rw [← h]
      exact q _ e1
    have eN : numBL (sg z) = (wordB z digitsS 5 && (decide (sg z = [48]) || !decide ((sg z).head? = some 48))) := by
      rw [word_num]
      rfl
    cases hw : wordB z digitsS 5 with
    | false =>
      walk_at "rd"
      exact q' (by rw [eN, hw, Bool.false_and])
    | true =>
      have hw2 := hw
      rw [word_num, Bool.and_eq_true, decide_eq_true_eq] at hw2
      have hz2 : z.length ≤ sizeLine := Nat.le_trans hz (by decide)
      obtain ⟨c, r, hcr⟩ : ∃ c r, sg z = c :: r := by
        cases hs : sg z with
        | nil =>
          rw [hs] at hw2
          exact absurd hw2.1 (by decide)
        | cons c r => exact ⟨c, r, rfl⟩
      have e0 : decide (z = Str.ofString "0") = decide (sg z = [48]) := by
        rw [Bool.eq_iff_iff, decide_eq_true_eq, decide_eq_true_eq]
        exact ⟨fun h => by rw [h]; decide +kernel, fun h => sg_inj (by rw [h]; decide +kernel)⟩
      have e1 : decide ((⟨#[c]⟩ : Str) = Str.ofString "0") = decide ((sg z).head? = some 48) := by
        rw [hcr, Bool.eq_iff_iff, decide_eq_true_eq, decide_eq_true_eq]
        constructor
        · intro h
          have := congrArg sg h
          have h2 : [c] = [48] := this.trans (by decide +kernel)
          rw [(List.cons.inj h2).1]
          rfl
        · intro h
          have h : some c = some 48 := h
          rw [Option.some.inj h]
          exact sg_inj (by decide +kernel)
      walk_at "rd"
      refine rd_ite (fun h1 => ?_) (fun h1 => ?_)
      · refine q' ?_
        rw [eN, hw, ← e0, decide_eq_true h1]
        rfl
      · walk_at "rd"
        refine rd_ixS hz2 (c := c) (by show atI (sg z) ((0 : Nat) : Int) = _; rw [hcr]; exact atI_nat rfl) ?_
        walk_at "rd"
        refine q' ?_
        rw [eN, hw, ← e0, ← e1, decide_eq_false h1]
        rfl
end

open PySem PySem.Spec PyProof.Rows L2
open PySem.W (EachIs)
section
variable {T : List (Addr × Str)} {P : Program} {w : World} {K : PySem.W.Frag} {mg : Str → Option Value} {base : Heap}
local macro_rules | `(tactic| walk_at "tr") => `(tactic| first
  | assumption
  | exact Ext.refl
  | ((with_reducible refine' Im.x (T := T) (H := ?trH) ?tra ?tre); (case tre => assumption); (case tra => walk_at "tr"))
  | ((with_reducible refine' Im.y (T := T) (H := ?trH) ?tra ?tre ?trt); (case tre => assumption); (case trt => walk_at "tr"); (case tra => walk_at "tr"))
  | ((with_reducible refine' ImAll.x (T := T) (H := ?trH) ?tra ?tre); (case tre => assumption); (case tra => walk_at "tr"))
  | ((with_reducible refine' ImAll.y (T := T) (H := ?trH) ?tra ?tre ?trt); (case tre => assumption); (case trt => walk_at "tr"); (case tra => walk_at "tr"))
  | ((with_reducible refine' Ls.x (T := T) (H := ?trH) ?tra ?tre); (case tre => assumption); (case tra => walk_at "tr"))
  | ((with_reducible refine' Ls.y (T := T) (H := ?trH) ?tra ?tre ?trn ?trt); (case tre => assumption); (case trt => walk_at "tr"); (case trn => walk_at "tr"); (case tra => walk_at "tr"))
  | ((with_reducible refine' SqP.x (T := T) (H := ?trH) ?tra ?tre); (case tre => assumption); (case tra => walk_at "tr"))
  | ((with_reducible refine' SqP.y (T := T) (H := ?trH) ?tra ?tre ?trt); (case tre => assumption); (case trt => walk_at "tr"); (case tra => walk_at "tr"))
  | ((with_reducible refine' StAt.x (T := T) (H := ?trH) ?tra ?tre); (case tre => assumption); (case tra => walk_at "tr"))
  | ((with_reducible refine' StAt.y (T := T) (H := ?trH) ?tra ?tre ?trt); (case tre => assumption); (case trt => walk_at "tr"); (case tra => walk_at "tr"))
  | ((with_reducible refine' Pools.ext0 (T := T) (H := ?trH) ?tra ?tre); (case tre => assumption); (case tra => walk_at "tr"))
  | ((with_reducible refine' Pools.ext (T := T) (H := ?trH) ?tra ?tre ?trt); (case tre => assumption); (case trt => walk_at "tr"); (case tra => walk_at "tr"))
  | ((with_reducible refine' CL.x (T := T) (H := ?trH) ?tra ?tre); (case tre => assumption); (case tra => walk_at "tr"))
  | ((with_reducible refine' CL.y (T := T) (H := ?trH) ?tra ?tre); (case tre => assumption); (case tra => walk_at "tr"))
  | ((with_reducible refine' Tape.ext (T := T) (H := ?trH) ?tra ?tre); (case tre => assumption); (case tra => walk_at "tr"))
  | ((with_reducible refine' lst.x (T := T) (H := ?trH) ?tra ?tre); (case tre => assumption); (case tra => walk_at "tr"))
  | ((with_reducible refine' lst.y (T := T) (H := ?trH) ?tra ?tre ?trn); (case tre => assumption); (case trn => walk_at "tr"); (case tra => walk_at "tr"))
  | ((with_reducible refine' tup.x (T := T) (H := ?trH) ?tra ?tre); (case tre => assumption); (case tra => walk_at "tr"))
  | ((with_reducible refine' tup.y (T := T) (H := ?trH) ?tra ?tre ?trt); (case tre => assumption); (case trt => walk_at "tr"); (case tra => walk_at "tr"))
  | ((with_reducible refine' frz.x (T := T) (H := ?trH) ?tra ?tre); (case tre => assumption); (case tra => walk_at "tr"))
  | ((with_reducible refine' frz.y (T := T) (H := ?trH) ?tra ?tre ?trt); (case tre => assumption); (case trt => walk_at "tr"); (case tra => walk_at "tr"))
  | ((with_reducible refine' Im.z (T := T) (H := ?trH) ?tra ?tre ?trt); (case tre => assumption); (case trt => assumption); (case tra => walk_at "tr"))
  | ((with_reducible refine' ImAll.z (T := T) (H := ?trH) ?tra ?tre ?trt); (case tre => assumption); (case trt => assumption); (case tra => walk_at "tr"))
  | ((with_reducible refine' StAt.z (T := T) (H := ?trH) ?tra ?tre ?trt); (case tre => assumption); (case trt => assumption); (case tra => walk_at "tr"))
  | ((with_reducible refine' SqP.z (T := T) (H := ?trH) ?tra ?tre ?trt); (case tre => assumption); (case trt => assumption); (case tra => walk_at "tr"))
  | ((with_reducible refine' tup.z (T := T) (H := ?trH) ?tra ?tre ?trt); (case tre => assumption); (case trt => assumption); (case tra => walk_at "tr"))
  | ((with_reducible refine' Ls.z (T := T) (H := ?trH) ?tra ?tre ?trt ?trn); (case tre => assumption); (case trt => assumption); (case trn => assumption); (case tra => walk_at "tr"))
  | ((with_reducible refine' lst.z (T := T) (H := ?trH) ?tra ?tre ?trn); (case tre => assumption); (case trn => assumption); (case tra => walk_at "tr"))
  | ((with_reducible refine' CL.z (T := T) (H := ?trH) ?tra ?tre ?trn); (case tre => assumption); (case trn => assumption); (case tra => walk_at "tr"))
  | ((with_reducible refine' Tape.ne1 (H := ?trH) ?trt ?trn); (case trn => assumption); (case trt => walk_at "tr"))
  | ((with_reducible refine' Ext.trans (H1 := ?trH) ?tra (Ext.any ?tre)); (case tre => assumption); (case tra => walk_at "tr"))
  | ((with_reducible refine' Ext.trans (H1 := ?trH) ?tra ?tre); (case tre => assumption); (case tra => walk_at "tr"))
  | ((with_reducible refine' Ext.back1 (T := T) (H1 := ?trH) ?tre ?trn ?tra); (case tra => assumption); (case trn => walk_at "tr"); (case tre => walk_at "tr"))
  | ((with_reducible refine' Ext.back0 (T := T) (H1 := ?trH) ?tre ?tra); (case tra => assumption); (case tre => walk_at "tr"))
  | ((with_reducible refine' SqT.of ?tra); (case tra => walk_at "tr"))
  | ((with_reducible refine' SqL.of ?tra); (case tra => walk_at "tr")))
local macro_rules | `(tactic| walk_at "al") => `(tactic| (refine ⟨by first | (show _ ≤ sizeLine; decide) | walk_at "sz", ?_⟩; intro alp aln; generalize alG : upd _ alp _ = alH; obtain ⟨aln2, alx, alh⟩ := al_of (T := T) aln alG; clear alG aln))
local macro_rules | `(tactic| walk_at "al0") => `(tactic| (intro alp aln; generalize alG : upd _ alp _ = alH; obtain ⟨aln2, alx, alh⟩ := al_of (T := T) aln alG; clear alG aln))

theorem rd_intN {n : Nat} {P : Int → Prop} (h : n < 100000) (q : P (n : Int)) : ∃ (a : Str) (m : Int), [V.str (numS n)] = [.str a] ∧ PySem.intText? a = some m ∧ a.length ≤ 640 ∧ P m := by
  rw [numS_S]
  have hn := num_ok h
  have h1 := hn
  unfold numBL at h1
  rw [Bool.and_eq_true, Bool.and_eq_true, Bool.and_eq_true, decide_eq_true_eq, decide_eq_true_eq] at h1
  obtain ⟨⟨g1, g2, g3⟩, _⟩ := h1
  have hl : (S (TL.numL n)).length = (TL.numL n).length := by rw [← sg_len]
  refine ⟨_, _, rfl, SX.int_S g3 (fun e => by rw [e] at g1; exact absurd g1 (by decide)) (by omega), by omega, ?_⟩
  rw [TL.numL_val]
  exact q
def spRNum (T : List (Addr × Str)) : Sp := fun vs H Q _ => ∃ n : Nat, vs = [.str (numS n)] ∧ n < 100000 ∧ ∀ H', Ext T [] H H' → Q (.int (n : Int)) H'
def spRId (T : List (Addr × Str)) : Sp := fun vs H Q _ => ∃ z : Str, vs = [.str z] ∧ idB z = true ∧ ∀ H', Ext T [] H H' → Q (.str z) H'
def spRName (T : List (Addr × Str)) : Sp := fun vs H Q _ => ∃ z : Str, vs = [.str z] ∧ nameB z = true ∧ ∀ H', Ext T [] H H' → Q (.str z) H'
def spRIds (T : List (Addr × Str)) : Sp := fun vs H Q _ => ∃ cs : List Str, vs = [.str (idsS cs)] ∧ (∀ x ∈ cs, idB x = true) ∧ cs.length ≤ 6 ∧ ∀ v H', Ext T [] H H' → Im H' v (.tuple (cs.map .str)) → Q v H'
def spRNums (T : List (Addr × Str)) (K : PySem.W.Frag) : Sp := fun vs H Q _ => ∃ (a : Addr) (ps : List Nat), vs = [.ref a] ∧ H a = some (.lst (ps.map fun p => V.str (numS p))) ∧ (∀ p ∈ ps, p < 100000) ∧ ps.length ≤ 6 ∧ ∀ v H', Ext T [] H H' → Im H' v (psD ps) → Q v H'
theorem ok_read_number (D : Def K mg "read_number" s_read_number ["word"]) (mb : ∀ x ∈ bltns, mg x = none) (G_is_number : Ok P w K mg base 2 "is_number" ["text"] (spTB T fun z => numBL (sg z))) : Ok P w K mg base 3 "read_number" ["word"] (spRNum T) := by
  refine D.ok sc_read_number (fun vs H Q E h => ?_) (fun cdv f A outer s H vs Q E hr h => ?_)
  · obtain ⟨n, rfl, _⟩ := h
    rfl
  · obtain ⟨n, rfl, hn, q⟩ := h
    refine ⟨_, (pss_cons (ps_if (pt_not (pt_E (pe_callO G_is_number (hr.mono (by decide)) (by rfl) (pa_cons (pv 0) pa_nil)))) (pss_one ps_never) pss_nil)
   (pss_one (ps_ret (pe_callTy call_int_str (by rfl) (mb _ (by decide)) (by decide +kernel) (pa_cons (pv 0) pa_nil))))), ?_⟩
    have hl := numS_len hn
    walk_at "rd"
    refine ⟨numS n, rfl, by omega, fun H1 e1 => ?_⟩
    rw [show (fun z => numBL (sg z)) (numS n) = true from numS_num hn]
    walk_at "rd"
    refine rd_intN hn ?_
    walk_at "rd"
    exact q _ e1
theorem ok_read_id (D : Def K mg "read_id" s_read_id ["word"]) (mb : ∀ x ∈ bltns, mg x = none) (G_is_id : Ok P w K mg base 2 "is_id" ["text"] (spTB T idB)) : Ok P w K mg base 3 "read_id" ["word"] (spRId T) := by
  refine D.ok sc_read_id (fun vs H Q E h => ?_) (fun cdv f A outer s H vs Q E hr h => ?_)
  · obtain ⟨n, rfl, _⟩ := h
    rfl
  · obtain ⟨z, rfl, hz, q⟩ := h
    refine ⟨_, (pss_cons (ps_if (pt_not (pt_E (pe_callO G_is_id (hr.mono (by decide)) (by rfl) (pa_cons (pv 0) pa_nil)))) (pss_one ps_never) pss_nil)
   (pss_one (ps_ret (pv 0)))), ?_⟩
    have hl := id_len hz
    walk_at "rd"
    refine ⟨z, rfl, by omega, fun H1 e1 => ?_⟩
    rw [hz]
    walk_at "rd"
    exact q _ e1
theorem ok_read_name (D : Def K mg "read_name" s_read_name ["word"]) (mb : ∀ x ∈ bltns, mg x = none) (G_is_name : Ok P w K mg base 3 "is_name" ["text"] (spTB T nameB)) : Ok P w K mg base 4 "read_name" ["word"] (spRName T) := by
  refine D.ok sc_read_name (fun vs H Q E h => ?_) (fun cdv f A outer s H vs Q E hr h => ?_)
  · obtain ⟨n, rfl, _⟩ := h
    rfl
  · obtain ⟨z, rfl, hz, q⟩ := h
    refine ⟨_, (pss_cons (ps_if (pt_not (pt_E (pe_callO G_is_name (hr.mono (by decide)) (by rfl) (pa_cons (pv 0) pa_nil)))) (pss_one ps_never) pss_nil)
   (pss_one (ps_ret (pv 0)))), ?_⟩
    have hl := name_len hz
    walk_at "rd"
    refine ⟨z, rfl, by omega, fun H1 e1 => ?_⟩
    rw [hz]
    walk_at "rd"
    exact q _ e1
theorem ok_read_ids (D : Def K mg "read_ids" s_read_ids ["word"]) (mb : ∀ x ∈ bltns, mg x = none) (G_read_id : Ok P w K mg base 3 "read_id" ["word"] (spRId T)) : Ok P w K mg base 4 "read_ids" ["word"] (spRIds T) := by
  refine D.ok sc_read_ids (fun vs H Q E h => ?_) (fun cdv f A outer s H vs Q E hr h => ?_)
  · obtain ⟨n, rfl, _⟩ := h
    rfl
  · obtain ⟨cs, rfl, hcs, hcl, q⟩ := h
    refine ⟨_, (pss_cons (ps_if (pt_cmpR (op_eqU K rfl hr.units) (pv 0) pe_str (nomark _)) (pss_one (ps_ret (pe_tup pa_nil))) pss_nil)
   (pss_one (ps_ret (pe_callTy (call_tupU K rfl) (by rfl) (mb _ (by decide)) (by decide +kernel) (pa_cons (pe_lc (own := [("part", 1)]) (g := gName 1) (tt := tYes) rfl sc_read_ids.nd (pi_seq K rfl (pe_m1 PySem.F.slot_str_split PySem.F.type_str_split mt_splitU (pv 0) pe_str)) (blkOk_by (N := N_read_ids) (sc := defScope s_read_ids) (by decide +kernel)) (fun _ _ _ _ _ => (pg_name (i := 1) sc_read_ids.nd rfl (Or.inl rfl))) (fun _ _ _ _ _ => pts_nil) (fun _ _ _ _ _ => (pe_callO G_read_id (hr.mono (by decide)) (by rfl) (pa_cons (pv 1) pa_nil)))) pa_nil))))), ?_⟩
    by_cases hne : cs = []
    · subst hne
      have e : idsS [] = Str.ofString "-" := rfl
      rw [e]
      walk_at "rd"
      rw [decide_eq_true rfl]
      walk_at "rd"
      refine ⟨by walk_at "sz", fun pt npt => ?_⟩
      obtain ⟨npt, e2, hpt⟩ := alT (T := T) npt ([] : List V)
      exact q _ _ e2 (.tup hpt .nil)
    · have e : idsS cs = jn 44 cs := if_neg hne
      have hz1 : ¬ jn 44 cs = Str.ofString "-" := fun z => by
        have h1 := congrArg sg z
        rw [sg_jn, show sg (Str.ofString "-") = [45] from by decide +kernel] at h1
        cases cs with
        | nil => exact hne rfl
        | cons x r =>
          have hx := hcs x List.mem_cons_self
          have hxp := id_pos hx
          obtain ⟨c, y, hcy⟩ : ∃ c y, sg x = c :: y := by
            cases hs : sg x with
            | nil =>
              rw [← sg_len, hs] at hxp
              exact absurd hxp (by decide)
            | cons c y => exact ⟨c, y, rfl⟩
          have hc45 : c ≠ 45 := fun z => id_fr (c := 45) (by decide +kernel) hx (by rw [hcy, z]; exact List.mem_cons_self)
          have h2 : ∃ t, TL.joinL [44] ((x :: r).map sg) = c :: t := by
            cases r with
            | nil => exact ⟨y, by show sg x = _; rw [hcy]⟩
            | cons b r => exact ⟨y ++ ([44] ++ TL.joinL [44] ((b :: r).map sg)), by show sg x ++ _ = _; rw [hcy]; rfl⟩
          obtain ⟨t, ht⟩ := h2
          rw [ht] at h1
          exact hc45 (List.cons.inj h1).1
      have hzl : (jn 44 cs).length ≤ 100 := by
        have h1 := jn_len 44 cs
        have h2 : (cs.map (·.length)).sum ≤ 4 * cs.length := by
          clear h1 hz1 e hne hcl q
          induction cs with
          | nil => exact Nat.le_refl _
          | cons x r ih =>
            have := ih fun y hy => hcs y (List.mem_cons_of_mem _ hy)
            have := id_len (hcs x List.mem_cons_self)
            simp only [List.map_cons, List.sum_cons, List.length_cons]
            omega
        omega
      rw [e]
      walk_at "rd"
      rw [decide_eq_false hz1]
      walk_at "rd"
      refine rd_split (b := Str.ofString ",") (by decide +kernel) (Nat.le_trans (show (jn 44 cs).length + 2 ≤ 1002 by omega) (by decide)) fun ps nps => ?_
      rw [split_jn (d := Str.ofString ",") (by decide +kernel) (by decide +kernel) hne fun x hx => id_fr (by decide +kernel) (hcs x hx)]
      obtain ⟨nps, e2, hps⟩ := alL (T := T) nps (cs.map V.str)
      generalize upd H ps _ = H2 at e2 hps ⊢
      walk_at "rd"
      refine lcg_list T [] (K := K) (SqL.of hps) (fun _ => true) (fun v => v) (Nat.lt_of_le_of_lt (show (cs.map V.str).length ≤ 6 by rw [List.length_map]; exact hcl) (by decide)) (by simp) (by simp) (fun x hx H' e R S h1 h2 => ?_) (fun D H3 nw e3 hD => ?_)
      · obtain ⟨y, hy, rfl⟩ := List.mem_map.mp hx
        walk_at "rd"
        exact ⟨y, rfl, hcs y hy, fun H3 e3 => h1 rfl H3 e3⟩
      · rw [filtT, List.map_id'' (fun _ => rfl)] at hD
        walk_at "rd"
        refine rd_tupL (SqL.of hD) fun l2 nl2 => ?_
        obtain ⟨nl2, e7, hl2⟩ := alT (T := T) nl2 (cs.map V.str)
        refine q _ _ (e2.trans (e3.trans e7)) (.tup hl2 ?_)
        have : ∀ {ds : List Str} {H : Hp}, (∀ x ∈ ds, idB x = true) → ImAll H (ds.map V.str) (ds.map .str) := by
          intro ds H h
          induction ds with
          | nil => exact .nil
          | cons x r ih => exact .cons (.str _ (id_ok (h x List.mem_cons_self))) (ih fun y hy => h y (List.mem_cons_of_mem _ hy))
        exact this hcs
end

open PySem PySem.Spec PyProof.Rows L2
open PySem.W (EachIs)
section
variable {T : List (Addr × Str)} {P : Program} {w : World} {K : PySem.W.Frag} {mg : Str → Option Value} {base : Heap}
local macro_rules | `(tactic| walk_at "tr") => `(tactic| first
  | assumption
  | exact Ext.refl
  | ((with_reducible refine' Im.x (T := T) (H := ?trH) ?tra ?tre); (case tre => assumption); (case tra => walk_at "tr"))
  | ((with_reducible refine' Im.y (T := T) (H := ?trH) ?tra ?tre ?trt); (case tre => assumption); (case trt => walk_at "tr"); (case tra => walk_at "tr"))
  | ((with_reducible refine' ImAll.x (T := T) (H := ?trH) ?tra ?tre); (case tre => assumption); (case tra => walk_at "tr"))
  | ((with_reducible refine' ImAll.y (T := T) (H := ?trH) ?tra ?tre ?trt); (case tre => assumption); (case trt => walk_at "tr"); (case tra => walk_at "tr"))
  | ((with_reducible refine' Ls.x (T := T) (H := ?trH) ?tra ?tre); (case tre => assumption); (case tra => walk_at "tr"))
  | ((with_reducible refine' Ls.y (T := T) (H := ?trH) ?tra ?tre ?trn ?trt); (case tre => assumption); (case trt => walk_at "tr"); (case trn => walk_at "tr"); (case tra => walk_at "tr"))
  | ((with_reducible refine' SqP.x (T := T) (H := ?trH) ?tra ?tre); (case tre => assumption); (case tra => walk_at "tr"))
  | ((with_reducible refine' SqP.y (T := T) (H := ?trH) ?tra ?tre ?trt); (case tre => assumption); (case trt => walk_at "tr"); (case tra => walk_at "tr"))
  | ((with_reducible refine' StAt.x (T := T) (H := ?trH) ?tra ?tre); (case tre => assumption); (case tra => walk_at "tr"))
  | ((with_reducible refine' StAt.y (T := T) (H := ?trH) ?tra ?tre ?trt); (case tre => assumption); (case trt => walk_at "tr"); (case tra => walk_at "tr"))
  | ((with_reducible refine' Pools.ext0 (T := T) (H := ?trH) ?tra ?tre); (case tre => assumption); (case tra => walk_at "tr"))
  | ((with_reducible refine' Pools.ext (T := T) (H := ?trH) ?tra ?tre ?trt); (case tre => assumption); (case trt => walk_at "tr"); (case tra => walk_at "tr"))
  | ((with_reducible refine' CL.x (T := T) (H := ?trH) ?tra ?tre); (case tre => assumption); (case tra => walk_at "tr"))
  | ((with_reducible refine' CL.y (T := T) (H := ?trH) ?tra ?tre); (case tre => assumption); (case tra => walk_at "tr"))
  | ((with_reducible refine' Tape.ext (T := T) (H := ?trH) ?tra ?tre); (case tre => assumption); (case tra => walk_at "tr"))
  | ((with_reducible refine' lst.x (T := T) (H := ?trH) ?tra ?tre); (case tre => assumption); (case tra => walk_at "tr"))
  | ((with_reducible refine' lst.y (T := T) (H := ?trH) ?tra ?tre ?trn); (case tre => assumption); (case trn => walk_at "tr"); (case tra => walk_at "tr"))
  | ((with_reducible refine' tup.x (T := T) (H := ?trH) ?tra ?tre); (case tre => assumption); (case tra => walk_at "tr"))
  | ((with_reducible refine' tup.y (T := T) (H := ?trH) ?tra ?tre ?trt); (case tre => assumption); (case trt => walk_at "tr"); (case tra => walk_at "tr"))
  | ((with_reducible refine' frz.x (T := T) (H := ?trH) ?tra ?tre); (case tre => assumption); (case tra => walk_at "tr"))
  | ((with_reducible refine' frz.y (T := T) (H := ?trH) ?tra ?tre ?trt); (case tre => assumption); (case trt => walk_at "tr"); (case tra => walk_at "tr"))
  | ((with_reducible refine' Im.z (T := T) (H := ?trH) ?tra ?tre ?trt); (case tre => assumption); (case trt => assumption); (case tra => walk_at "tr"))
  | ((with_reducible refine' ImAll.z (T := T) (H := ?trH) ?tra ?tre ?trt); (case tre => assumption); (case trt => assumption); (case tra => walk_at "tr"))
  | ((with_reducible refine' StAt.z (T := T) (H := ?trH) ?tra ?tre ?trt); (case tre => assumption); (case trt => assumption); (case tra => walk_at "tr"))
  | ((with_reducible refine' SqP.z (T := T) (H := ?trH) ?tra ?tre ?trt); (case tre => assumption); (case trt => assumption); (case tra => walk_at "tr"))
  | ((with_reducible refine' tup.z (T := T) (H := ?trH) ?tra ?tre ?trt); (case tre => assumption); (case trt => assumption); (case tra => walk_at "tr"))
  | ((with_reducible refine' Ls.z (T := T) (H := ?trH) ?tra ?tre ?trt ?trn); (case tre => assumption); (case trt => assumption); (case trn => assumption); (case tra => walk_at "tr"))
  | ((with_reducible refine' lst.z (T := T) (H := ?trH) ?tra ?tre ?trn); (case tre => assumption); (case trn => assumption); (case tra => walk_at "tr"))
  | ((with_reducible refine' CL.z (T := T) (H := ?trH) ?tra ?tre ?trn); (case tre => assumption); (case trn => assumption); (case tra => walk_at "tr"))
  | ((with_reducible refine' Tape.ne1 (H := ?trH) ?trt ?trn); (case trn => assumption); (case trt => walk_at "tr"))
  | ((with_reducible refine' Ext.trans (H1 := ?trH) ?tra (Ext.any ?tre)); (case tre => assumption); (case tra => walk_at "tr"))
  | ((with_reducible refine' Ext.trans (H1 := ?trH) ?tra ?tre); (case tre => assumption); (case tra => walk_at "tr"))
  | ((with_reducible refine' Ext.back1 (T := T) (H1 := ?trH) ?tre ?trn ?tra); (case tra => assumption); (case trn => walk_at "tr"); (case tre => walk_at "tr"))
  | ((with_reducible refine' Ext.back0 (T := T) (H1 := ?trH) ?tre ?tra); (case tra => assumption); (case tre => walk_at "tr"))
  | ((with_reducible refine' SqT.of ?tra); (case tra => walk_at "tr"))
  | ((with_reducible refine' SqL.of ?tra); (case tra => walk_at "tr")))
local macro_rules | `(tactic| walk_at "al") => `(tactic| (refine ⟨by first | (show _ ≤ sizeLine; decide) | walk_at "sz", ?_⟩; intro alp aln; generalize alG : upd _ alp _ = alH; obtain ⟨aln2, alx, alh⟩ := al_of (T := T) aln alG; clear alG aln))
local macro_rules | `(tactic| walk_at "al0") => `(tactic| (intro alp aln; generalize alG : upd _ alp _ = alH; obtain ⟨aln2, alx, alh⟩ := al_of (T := T) aln alG; clear alG aln))

theorem strs_imT {H : Hp} : ∀ {ds : List Str}, (∀ x ∈ ds, PyData.strOk x = true) → ImAll H (ds.map V.str) (ds.map .str)
  | [], _ => .nil
  | x :: r, h => .cons (.str _ (h x List.mem_cons_self)) (strs_imT fun y hy => h y (List.mem_cons_of_mem _ hy))
def spRSlot (T : List (Addr × Str)) : Sp := fun vs H Q _ => ∃ (a : Addr) (s : Sl), vs = [.ref a] ∧ H a = some (.lst ((slW s).map V.str)) ∧ SlOk s ∧ ∀ v H', Ext T [] H H' → Im H' v (slD s) → Q v H'
theorem ok_read_slot (D : Def K mg "read_slot" s_read_slot ["words"]) (mb : ∀ x ∈ bltns, mg x = none) (G_read_name : Ok P w K mg base 4 "read_name" ["word"] (spRName T)) (G_read_id : Ok P w K mg base 3 "read_id" ["word"] (spRId T)) : Ok P w K mg base 5 "read_slot" ["words"] (spRSlot T) := by
  refine D.ok sc_read_slot (fun vs H Q E h => ?_) (fun cdv f A outer s H vs Q E hr h => ?_)
  · obtain ⟨a, s, rfl, _⟩ := h
    rfl
  · obtain ⟨a, sl, rfl, ha, hs, q⟩ := h
    refine ⟨_, (pss_cons (ps_if (PW.pt (pw_and (pt_cmpR (op_eqU K rfl hr.units) (pe_callB (call_lenU K rfl) (by rfl) (mb _ (by decide)) (by decide +kernel) (pa_cons (pv 0) pa_nil)) pe_int (nomark _)) (pw_and1 (pt_cmpR (op_inW K rfl (Room.units65 hr)) (pe_ix (ix_U K rfl) (pv 0) pe_int (fun _ _ => rfl)) (pe_tup (pa_cons pe_str (pa_cons pe_str (pa_cons pe_str pa_nil)))) rfl)))) (pss_one (ps_ret (pe_tup (pa_cons (pe_ix (ix_U K rfl) (pv 0) pe_int (fun _ _ => rfl)) (pa_cons (pe_callO G_read_name (hr.mono (by decide)) (by rfl) (pa_cons (pe_ix (ix_U K rfl) (pv 0) pe_int (fun _ _ => rfl)) pa_nil)) pa_nil))))) pss_nil)
   (pss_cons (ps_if (PW.pt (pw_and (pt_cmpR (op_eqU K rfl hr.units) (pe_callB (call_lenU K rfl) (by rfl) (mb _ (by decide)) (by decide +kernel) (pa_cons (pv 0) pa_nil)) pe_int (nomark _)) (pw_and1 (pt_cmpR (op_eqU K rfl hr.units) (pe_ix (ix_U K rfl) (pv 0) pe_int (fun _ _ => rfl)) pe_str (nomark _))))) (pss_one (ps_ret (pe_tup (pa_cons pe_str (pa_cons (pe_callO G_read_name (hr.mono (by decide)) (by rfl) (pa_cons (pe_ix (ix_U K rfl) (pv 0) pe_int (fun _ _ => rfl)) pa_nil)) (pa_cons (pe_callO G_read_id (hr.mono (by decide)) (by rfl) (pa_cons (pe_ix (ix_U K rfl) (pv 0) pe_int (fun _ _ => rfl)) pa_nil)) pa_nil)))))) pss_nil)
   (pss_one ps_never))), ?_⟩
    rcases sl_cases hs with ⟨wd, z, e1, hz, e2, hwd, _⟩ | ⟨n, k, rfl⟩
    · rw [e1] at ha
      rw [e2] at q
      have ha : H a = some (.lst [V.str wd, V.str z]) := ha
      obtain ⟨hwo, hws⟩ := word_okS hwd
      walk_at "rd"
      refine rd_ite (fun c => ?_) (fun c => absurd (show (([V.str wd, V.str z].length : Nat) : Int) = 2 from rfl) c)
      walk_at "rd"
      refine ⟨by walk_at "sz", fun pt npt => ?_⟩
      obtain ⟨npt, x1, hpt⟩ := alT (T := T) npt [V.str (Str.ofString "keys"), .str (Str.ofString "link"), .str (Str.ofString "hosts")]
      have ha := lst.x ha x1
      generalize upd H pt _ = H1 at x1 hpt ha ⊢
      refine rd_inWt (zs := [Str.ofString "keys", Str.ofString "link", Str.ofString "hosts"]) (SqT.of hpt) ?_
      rw [decide_eq_true hwd]
      walk_at "rd"
      refine ⟨z, rfl, hz, fun H2 x2 => ?_⟩
      walk_at "rd"
      refine ⟨by walk_at "sz", fun pr npr => ?_⟩
      obtain ⟨npr, x3, hpr⟩ := alT (T := T) npr [V.str wd, .str z]
      exact q _ _ (x1.trans (x2.trans x3)) (.tup hpr (.cons (.str _ hwo) (.cons (.str _ (name_ok hz)) .nil)))
    · have ha : H a = some (.lst [V.str (Str.ofString "set"), V.str n, V.str k]) := ha
      walk_at "rd"
      refine rd_ite (fun c => absurd c (by show ¬ ((3 : Nat) : Int) = 2; decide)) (fun c => ?_)
      walk_at "rd"
      refine rd_ite (fun c => ?_) (fun c => absurd (show (([V.str (Str.ofString "set"), V.str n, V.str k].length : Nat) : Int) = 3 from rfl) c)
      walk_at "rd"
      rw [decide_eq_true rfl]
      walk_at "rd"
      refine ⟨n, rfl, hs.1, fun H2 x2 => ?_⟩
      have ha := lst.x ha x2
      walk_at "rd"
      refine ⟨k, rfl, hs.2, fun H3 x3 => ?_⟩
      walk_at "rd"
      refine ⟨by walk_at "sz", fun pr npr => ?_⟩
      obtain ⟨npr, x4, hpr⟩ := alT (T := T) npr [V.str (Str.ofString "set"), .str n, .str k]
      exact q _ _ (x2.trans (x3.trans x4)) (.tup hpr (.cons (.str _ (by decide +kernel)) (.cons (.str _ (name_ok hs.1)) (.cons (.str _ (id_ok hs.2)) .nil))))
end

open PySem PySem.Spec PyProof.Rows L2
open PySem.W (EachIs)
section
variable {T : List (Addr × Str)} {P : Program} {w : World} {K : PySem.W.Frag} {mg : Str → Option Value} {base : Heap}
local macro_rules | `(tactic| walk_at "tr") => `(tactic| first
  | assumption
  | exact Ext.refl
  | ((with_reducible refine' Im.x (T := T) (H := ?trH) ?tra ?tre); (case tre => assumption); (case tra => walk_at "tr"))
  | ((with_reducible refine' Im.y (T := T) (H := ?trH) ?tra ?tre ?trt); (case tre => assumption); (case trt => walk_at "tr"); (case tra => walk_at "tr"))
  | ((with_reducible refine' ImAll.x (T := T) (H := ?trH) ?tra ?tre); (case tre => assumption); (case tra => walk_at "tr"))
  | ((with_reducible refine' ImAll.y (T := T) (H := ?trH) ?tra ?tre ?trt); (case tre => assumption); (case trt => walk_at "tr"); (case tra => walk_at "tr"))
  | ((with_reducible refine' Ls.x (T := T) (H := ?trH) ?tra ?tre); (case tre => assumption); (case tra => walk_at "tr"))
  | ((with_reducible refine' Ls.y (T := T) (H := ?trH) ?tra ?tre ?trn ?trt); (case tre => assumption); (case trt => walk_at "tr"); (case trn => walk_at "tr"); (case tra => walk_at "tr"))
  | ((with_reducible refine' SqP.x (T := T) (H := ?trH) ?tra ?tre); (case tre => assumption); (case tra => walk_at "tr"))
  | ((with_reducible refine' SqP.y (T := T) (H := ?trH) ?tra ?tre ?trt); (case tre => assumption); (case trt => walk_at "tr"); (case tra => walk_at "tr"))
  | ((with_reducible refine' StAt.x (T := T) (H := ?trH) ?tra ?tre); (case tre => assumption); (case tra => walk_at "tr"))
  | ((with_reducible refine' StAt.y (T := T) (H := ?trH) ?tra ?tre ?trt); (case tre => assumption); (case trt => walk_at "tr"); (case tra => walk_at "tr"))
  | ((with_reducible refine' Pools.ext0 (T := T) (H := ?trH) ?tra ?tre); (case tre => assumption); (case tra => walk_at "tr"))
  | ((with_reducible refine' Pools.ext (T := T) (H := ?trH) ?tra ?tre ?trt); (case tre => assumption); (case trt => walk_at "tr"); (case tra => walk_at "tr"))
  | ((with_reducible refine' CL.x (T := T) (H := ?trH) ?tra ?tre); (case tre => assumption); (case tra => walk_at "tr"))
  | ((with_reducible refine' CL.y (T := T) (H := ?trH) ?tra ?tre); (case tre => assumption); (case tra => walk_at "tr"))
  | ((with_reducible refine' Tape.ext (T := T) (H := ?trH) ?tra ?tre); (case tre => assumption); (case tra => walk_at "tr"))
  | ((with_reducible refine' lst.x (T := T) (H := ?trH) ?tra ?tre); (case tre => assumption); (case tra => walk_at "tr"))
  | ((with_reducible refine' lst.y (T := T) (H := ?trH) ?tra ?tre ?trn); (case tre => assumption); (case trn => walk_at "tr"); (case tra => walk_at "tr"))
  | ((with_reducible refine' tup.x (T := T) (H := ?trH) ?tra ?tre); (case tre => assumption); (case tra => walk_at "tr"))
  | ((with_reducible refine' tup.y (T := T) (H := ?trH) ?tra ?tre ?trt); (case tre => assumption); (case trt => walk_at "tr"); (case tra => walk_at "tr"))
  | ((with_reducible refine' frz.x (T := T) (H := ?trH) ?tra ?tre); (case tre => assumption); (case tra => walk_at "tr"))
  | ((with_reducible refine' frz.y (T := T) (H := ?trH) ?tra ?tre ?trt); (case tre => assumption); (case trt => walk_at "tr"); (case tra => walk_at "tr"))
  | ((with_reducible refine' Im.z (T := T) (H := ?trH) ?tra ?tre ?trt); (case tre => assumption); (case trt => assumption); (case tra => walk_at "tr"))
  | ((with_reducible refine' ImAll.z (T := T) (H := ?trH) ?tra ?tre ?trt); (case tre => assumption); (case trt => assumption); (case tra => walk_at "tr"))
  | ((with_reducible refine' StAt.z (T := T) (H := ?trH) ?tra ?tre ?trt); (case tre => assumption); (case trt => assumption); (case tra => walk_at "tr"))
  | ((with_reducible refine' SqP.z (T := T) (H := ?trH) ?tra ?tre ?trt); (case tre => assumption); (case trt => assumption); (case tra => walk_at "tr"))
  | ((with_reducible refine' tup.z (T := T) (H := ?trH) ?tra ?tre ?trt); (case tre => assumption); (case trt => assumption); (case tra => walk_at "tr"))
  | ((with_reducible refine' Ls.z (T := T) (H := ?trH) ?tra ?tre ?trt ?trn); (case tre => assumption); (case trt => assumption); (case trn => assumption); (case tra => walk_at "tr"))
  | ((with_reducible refine' lst.z (T := T) (H := ?trH) ?tra ?tre ?trn); (case tre => assumption); (case trn => assumption); (case tra => walk_at "tr"))
  | ((with_reducible refine' CL.z (T := T) (H := ?trH) ?tra ?tre ?trn); (case tre => assumption); (case trn => assumption); (case tra => walk_at "tr"))
  | ((with_reducible refine' Tape.ne1 (H := ?trH) ?trt ?trn); (case trn => assumption); (case trt => walk_at "tr"))
  | ((with_reducible refine' Ext.trans (H1 := ?trH) ?tra (Ext.any ?tre)); (case tre => assumption); (case tra => walk_at "tr"))
  | ((with_reducible refine' Ext.trans (H1 := ?trH) ?tra ?tre); (case tre => assumption); (case tra => walk_at "tr"))
  | ((with_reducible refine' Ext.back1 (T := T) (H1 := ?trH) ?tre ?trn ?tra); (case tra => assumption); (case trn => walk_at "tr"); (case tre => walk_at "tr"))
  | ((with_reducible refine' Ext.back0 (T := T) (H1 := ?trH) ?tre ?tra); (case tra => assumption); (case tre => walk_at "tr"))
  | ((with_reducible refine' SqT.of ?tra); (case tra => walk_at "tr"))
  | ((with_reducible refine' SqL.of ?tra); (case tra => walk_at "tr")))
local macro_rules | `(tactic| walk_at "al") => `(tactic| (refine ⟨by first | (show _ ≤ sizeLine; decide) | walk_at "sz", ?_⟩; intro alp aln; generalize alG : upd _ alp _ = alH; obtain ⟨aln2, alx, alh⟩ := al_of (T := T) aln alG; clear alG aln))
local macro_rules | `(tactic| walk_at "al0") => `(tactic| (intro alp aln; generalize alG : upd _ alp _ = alH; obtain ⟨aln2, alx, alh⟩ := al_of (T := T) aln alG; clear alG aln))

theorem rd_eqLsG {H : Hp} {Q : VK} {a b : Addr} {ds es : List PyData} (ha : Ls H a ds) (hb : Ls H b es) (hd : PyData.depth (.list ds) ≤ 64) (he : PyData.depth (.list es) ≤ 64) {r : Bool} (hr : ds = es ↔ r = true) (q : Q (.bl r) H) : rEqU K (.ref a) (.ref b) H Q := by
  obtain ⟨xs, h1, h2⟩ := ha
  obtain ⟨ys, h3, h4⟩ := hb
  refine .inr ⟨_, _, Ls.dp ⟨xs, h1, h2⟩, Ls.dp ⟨ys, h3, h4⟩, ?_, ?_, ?_⟩
  · unfold SeqAt.shaped
    rw [show PyData.canLay0 (.list ds) = true from ImAll.lay ds _ h2, decide_eq_true hd]
    rfl
  · unfold SeqAt.shaped
    rw [show PyData.canLay0 (.list es) = true from ImAll.lay es _ h4, decide_eq_true he]
    rfl
  · rw [show PyData.eqv (.list ds) (.list es) = r from bool_of ((ImAll.eqv _ _ _ _ h2 h4).trans hr)]
    exact q
theorem dep_lstr (ls : List Str) : PyData.depth (.list (ls.map PyData.str)) ≤ 64 := by
  show PyData.depthAll (ls.map PyData.str) + 1 ≤ 64
  rw [dep_strs0]
  decide
theorem ls_str {H : Hp} {a : Addr} {zs : List Str} (h : H a = some (.lst (zs.map V.str))) (hz : ∀ z ∈ zs, PyData.strOk z = true) : Ls H a (zs.map .str) := ⟨_, h, strs_imT hz⟩
theorem strs_eq {xs ys : List Str} : xs.map PyData.str = ys.map .str ↔ decide (xs = ys) = true := by
  rw [decide_eq_true_eq]
  refine ⟨fun h => ?_, fun h => by rw [h]⟩
  induction xs generalizing ys with
  | nil =>
    cases ys with
    | nil => rfl
    | cons y r => cases h
  | cons x r ih =>
    cases ys with
    | nil => cases h
    | cons y t =>
      injection h with h1 h2
      rw [PyData.str.inj h1, ih h2]
def spSplit (T : List (Addr × Str)) : Sp := fun vs H Q _ => ∃ (a : Addr) (s : Sl) (rest : List Str), vs = [.ref a] ∧ H a = some (.lst ((slW s ++ rest).map V.str)) ∧ SlOk s ∧ rest.length ≤ 20 ∧
  ∀ t r v H', Ext T [] H H' → H' t = some (.tup [v, .ref r]) → Im H' v (slD s) → H' r = some (.lst (rest.map V.str)) → Q (.ref t) H'
theorem ok_split_slot (D : Def K mg "split_slot" s_split_slot ["words"]) (G_read_slot : Ok P w K mg base 5 "read_slot" ["words"] (spRSlot T)) : Ok P w K mg base 6 "split_slot" ["words"] (spSplit T) := by
  refine D.ok sc_split_slot (fun vs H Q E h => ?_) (fun cdv f A outer s H vs Q E hr h => ?_)
  · obtain ⟨a, s, rest, rfl, _⟩ := h
    rfl
  · obtain ⟨a, sl, rest, rfl, ha, hs, hrl, q⟩ := h
    refine ⟨_, (pss_cons (ps_set (i := 1) sc_split_slot.nd rfl (.inl rfl) (pe_ifExp (pt_cmpR (op_eqU K rfl hr.units) (pe_slice (sl_U K rfl) (pv 0) po_none (po_some pe_int)) (pe_lst (pa_cons pe_str pa_nil)) (nomark _)) pe_int pe_int))
   (pss_one (ps_ret (pe_tup (pa_cons (pe_callO G_read_slot (hr.mono (by decide)) (by rfl) (pa_cons (pe_slice (sl_U K rfl) (pv 0) po_none (po_some (pv 1))) pa_nil)) (pa_cons (pe_slice (sl_U K rfl) (pv 0) (po_some (pv 1)) po_none) pa_nil)))))), ?_⟩
    have hsz : (slW sl).length = 2 ∨ (slW sl).length = 3 := by cases sl <;> simp [slW]
    have hall : ((slW sl ++ rest).map V.str).length ≤ 30 := by
      rw [List.length_map, List.length_append]
      omega
    have hh : ∃ h t, slW sl = h :: t ∧ PyData.strOk h = true ∧ (h = Str.ofString "set" ↔ (slW sl).length = 3) := by
      rcases sl_cases hs with ⟨wd, z, e1, hz, e2, hwd, _⟩ | ⟨n, k, rfl⟩
      · obtain ⟨h1, h2⟩ := word_okS hwd
        exact ⟨wd, [z], e1, h1, by rw [e1]; exact ⟨fun e => absurd e h2, fun e => absurd e (by show ¬ (2 = 3); decide)⟩⟩
      · exact ⟨_, _, rfl, by decide +kernel, ⟨fun _ => rfl, fun _ => rfl⟩⟩
    obtain ⟨h0, t0, e0, hk0, hset⟩ := hh
    -- the size
    refine rd_cut (fun σ' H' => ∃ n : Nat, σ' = [some (.ref a), some (.int (n : Int))] ∧ Ext T [] H H' ∧ n = (slW sl).length) (fun nx' hnx => ?_) (fun σ' H' h => ?_)
    · walk_at "rd"
      refine rd_slL (SqL.of ha) fun p1 np1 => ?_
      have ec : cutV ((slW sl ++ rest).map V.str) none (some 1) = [V.str h0] := by
        rw [cutV_to _ (by decide), e0]
        rfl
      rw [ec]
      obtain ⟨np1, x1, hp1⟩ := alL (T := T) np1 [V.str h0]
      generalize upd H p1 _ = H1 at x1 hp1 ⊢
      walk_at "rd"
      refine ⟨by walk_at "sz", fun p2 np2 => ?_⟩
      obtain ⟨np2, x2, hp2⟩ := alL (T := T) np2 [V.str (Str.ofString "set")]
      have hp1 := lst.x hp1 x2
      generalize upd H1 p2 _ = H2 at x2 hp1 hp2 ⊢
      refine rd_eqLsG (ls_str (zs := [h0]) hp1 (by intro z hz; rw [List.mem_singleton.mp hz]; exact hk0)) (ls_str (zs := [Str.ofString "set"]) hp2 (by intro z hz; rw [List.mem_singleton.mp hz]; decide +kernel)) (dep_lstr [h0]) (dep_lstr [Str.ofString "set"]) strs_eq ?_
      walk_at "rd"
      refine rd_ite (fun c => ?_) (fun c => ?_)
      · have hl := hset.mp (List.cons.inj c).1
        walk_at "rd"
        exact hnx _ _ ⟨3, rfl, x1.trans x2, hl.symm⟩
      · have hl : (slW sl).length = 2 := hsz.resolve_right fun e => c (by rw [hset.mpr e])
        walk_at "rd"
        exact hnx _ _ ⟨2, rfl, x1.trans x2, hl.symm⟩
    · obtain ⟨n, rfl, x1, hn⟩ := h
      have ha := lst.x ha x1
      walk_at "rd"
      refine rd_slL (SqL.of ha) fun p1 np1 => ?_
      have ec : cutV ((slW sl ++ rest).map V.str) none (some ((n : Nat) : Int)) = (slW sl).map V.str := by
        rw [cutV_to _ (by omega), Int.toNat_natCast, hn, List.map_append, List.take_left' (List.length_map _)]
      rw [ec]
      obtain ⟨np1, x2, hp1⟩ := alL (T := T) np1 ((slW sl).map V.str)
      have ha := lst.x ha x2
      generalize upd H' p1 _ = H1 at x2 hp1 ha ⊢
      walk_at "rd"
      refine ⟨p1, sl, rfl, hp1, hs, fun v H2 x3 hv => ?_⟩
      have ha := lst.x ha x3
      walk_at "rd"
      refine rd_slL (SqL.of ha) fun p2 np2 => ?_
      have ec : cutV ((slW sl ++ rest).map V.str) (some ((n : Nat) : Int)) none = rest.map V.str := by
        rw [cutV_strs _ (by omega), Int.toNat_natCast, hn, List.drop_left]
      rw [ec]
      obtain ⟨np2, x4, hp2⟩ := alL (T := T) np2 (rest.map V.str)
      have hv := hv.x x4
      generalize upd H2 p2 _ = H3 at x4 hp2 hv ⊢
      walk_at "rd"
      refine ⟨by walk_at "sz", fun pr npr => ?_⟩
      obtain ⟨npr, x5, hpr⟩ := alT (T := T) npr [v, .ref p2]
      exact q pr p2 v _ (x1.trans (x2.trans (x3.trans (x4.trans x5)))) hpr (hv.x x5) (lst.x hp2 x5)
end

open PySem PySem.Spec PyProof.Rows L2
open PySem.W (EachIs)
section
variable {T : List (Addr × Str)} {P : Program} {w : World} {K : PySem.W.Frag} {mg : Str → Option Value} {base : Heap}
local macro_rules | `(tactic| walk_at "tr") => `(tactic| first
  | assumption
  | exact Ext.refl
  | ((with_reducible refine' Im.x (T := T) (H := ?trH) ?tra ?tre); (case tre => assumption); (case tra => walk_at "tr"))
  | ((with_reducible refine' Im.y (T := T) (H := ?trH) ?tra ?tre ?trt); (case tre => assumption); (case trt => walk_at "tr"); (case tra => walk_at "tr"))
  | ((with_reducible refine' ImAll.x (T := T) (H := ?trH) ?tra ?tre); (case tre => assumption); (case tra => walk_at "tr"))
  | ((with_reducible refine' ImAll.y (T := T) (H := ?trH) ?tra ?tre ?trt); (case tre => assumption); (case trt => walk_at "tr"); (case tra => walk_at "tr"))
  | ((with_reducible refine' Ls.x (T := T) (H := ?trH) ?tra ?tre); (case tre => assumption); (case tra => walk_at "tr"))
  | ((with_reducible refine' Ls.y (T := T) (H := ?trH) ?tra ?tre ?trn ?trt); (case tre => assumption); (case trt => walk_at "tr"); (case trn => walk_at "tr"); (case tra => walk_at "tr"))
  | ((with_reducible refine' SqP.x (T := T) (H := ?trH) ?tra ?tre); (case tre => assumption); (case tra => walk_at "tr"))
  | ((with_reducible refine' SqP.y (T := T) (H := ?trH) ?tra ?tre ?trt); (case tre => assumption); (case trt => walk_at "tr"); (case tra => walk_at "tr"))
  | ((with_reducible refine' StAt.x (T := T) (H := ?trH) ?tra ?tre); (case tre => assumption); (case tra => walk_at "tr"))
  | ((with_reducible refine' StAt.y (T := T) (H := ?trH) ?tra ?tre ?trt); (case tre => assumption); (case trt => walk_at "tr"); (case tra => walk_at "tr"))
  | ((with_reducible refine' Pools.ext0 (T := T) (H := ?trH) ?tra ?tre); (case tre => assumption); (case tra => walk_at "tr"))
  | ((with_reducible refine' Pools.ext (T := T) (H := ?trH) ?tra ?tre ?trt); (case tre => assumption); (case trt => walk_at "tr"); (case tra => walk_at "tr"))
  | ((with_reducible refine' CL.x (T := T) (H := ?trH) ?tra ?tre); (case tre => assumption); (case tra => walk_at "tr"))
  | ((with_reducible refine' CL.y (T := T) (H := ?trH) ?tra ?tre); (case tre => assumption); (case tra => walk_at "tr"))
  | ((with_reducible refine' Tape.ext (T := T) (H := ?trH) ?tra ?tre); (case tre => assumption); (case tra => walk_at "tr"))
  | ((with_reducible refine' lst.x (T := T) (H := ?trH) ?tra ?tre); (case tre => assumption); (case tra => walk_at "tr"))
  | ((with_reducible refine' lst.y (T := T) (H := ?trH) ?tra ?tre ?trn); (case tre => assumption); (case trn => walk_at "tr"); (case tra => walk_at "tr"))
  | ((with_reducible refine' tup.x (T := T) (H := ?trH) ?tra ?tre); (case tre => assumption); (case tra => walk_at "tr"))
  | ((with_reducible refine' tup.y (T := T) (H := ?trH) ?tra ?tre ?trt); (case tre => assumption); (case trt => walk_at "tr"); (case tra => walk_at "tr"))
  | ((with_reducible refine' frz.x (T := T) (H := ?trH) ?tra ?tre); (case tre => assumption); (case tra => walk_at "tr"))
  | ((with_reducible refine' frz.y (T := T) (H := ?trH) ?tra ?tre ?trt); (case tre => assumption); (case trt => walk_at "tr"); (case tra => walk_at "tr"))
  | ((with_reducible refine' Im.z (T := T) (H := ?trH) ?tra ?tre ?trt); (case tre => assumption); (case trt => assumption); (case tra => walk_at "tr"))
  | ((with_reducible refine' ImAll.z (T := T) (H := ?trH) ?tra ?tre ?trt); (case tre => assumption); (case trt => assumption); (case tra => walk_at "tr"))
  | ((with_reducible refine' StAt.z (T := T) (H := ?trH) ?tra ?tre ?trt); (case tre => assumption); (case trt => assumption); (case tra => walk_at "tr"))
  | ((with_reducible refine' SqP.z (T := T) (H := ?trH) ?tra ?tre ?trt); (case tre => assumption); (case trt => assumption); (case tra => walk_at "tr"))
  | ((with_reducible refine' tup.z (T := T) (H := ?trH) ?tra ?tre ?trt); (case tre => assumption); (case trt => assumption); (case tra => walk_at "tr"))
  | ((with_reducible refine' Ls.z (T := T) (H := ?trH) ?tra ?tre ?trt ?trn); (case tre => assumption); (case trt => assumption); (case trn => assumption); (case tra => walk_at "tr"))
  | ((with_reducible refine' lst.z (T := T) (H := ?trH) ?tra ?tre ?trn); (case tre => assumption); (case trn => assumption); (case tra => walk_at "tr"))
  | ((with_reducible refine' CL.z (T := T) (H := ?trH) ?tra ?tre ?trn); (case tre => assumption); (case trn => assumption); (case tra => walk_at "tr"))
  | ((with_reducible refine' Tape.ne1 (H := ?trH) ?trt ?trn); (case trn => assumption); (case trt => walk_at "tr"))
  | ((with_reducible refine' Ext.trans (H1 := ?trH) ?tra (Ext.any ?tre)); (case tre => assumption); (case tra => walk_at "tr"))
  | ((with_reducible refine' Ext.trans (H1 := ?trH) ?tra ?tre); (case tre => assumption); (case tra => walk_at "tr"))
  | ((with_reducible refine' Ext.back1 (T := T) (H1 := ?trH) ?tre ?trn ?tra); (case tra => assumption); (case trn => walk_at "tr"); (case tre => walk_at "tr"))
  | ((with_reducible refine' Ext.back0 (T := T) (H1 := ?trH) ?tre ?tra); (case tra => assumption); (case tre => walk_at "tr"))
  | ((with_reducible refine' SqT.of ?tra); (case tra => walk_at "tr"))
  | ((with_reducible refine' SqL.of ?tra); (case tra => walk_at "tr")))
local macro_rules | `(tactic| walk_at "al") => `(tactic| (refine ⟨by first | (show _ ≤ sizeLine; decide) | walk_at "sz", ?_⟩; intro alp aln; generalize alG : upd _ alp _ = alH; obtain ⟨aln2, alx, alh⟩ := al_of (T := T) aln alG; clear alG aln))
local macro_rules | `(tactic| walk_at "al0") => `(tactic| (intro alp aln; generalize alG : upd _ alp _ = alH; obtain ⟨aln2, alx, alh⟩ := al_of (T := T) aln alG; clear alG aln))

def spRItem (T : List (Addr × Str)) (b : Bool) : Sp := fun vs H Q _ => ∃ (a : Addr) (s : Sl) (i : Itx), vs = [.ref a] ∧ isH s = b ∧ ItOk2 s i ∧ H a = some (.lst ((itW s i).map V.str)) ∧ ∀ v H', Ext T [] H H' → Im H' v (itD2 i) → Q v H'
theorem ok_read_hosts_item (D : Def K mg "read_hosts_item" s_read_hosts_item ["words"]) (M : Cst mg) (G_read_ids : Ok P w K mg base 4 "read_ids" ["word"] (spRIds T)) (G_read_number : Ok P w K mg base 3 "read_number" ["word"] (spRNum T)) : Ok P w K mg base 5 "read_hosts_item" ["words"] (spRItem T true) := by
  refine D.ok sc_read_hosts_item (fun vs H Q E h => ?_) (fun cdv f A outer s H vs Q E hr h => ?_)
  · obtain ⟨a, s, i, rfl, _⟩ := h
    rfl
  · obtain ⟨a, sl, i, rfl, hb, hi, ha, q⟩ := h
    refine ⟨_, (pss_one (ps_match (pv 0) (pc_cons (pm_seq K rfl rfl (pms_cons pm_name (pms_cons (pm_str K rfl hr.units) (pms_cons pm_name pms_nil)))) sc_read_hosts_item.nd (.cons (i := 1) rfl (.inl rfl) (by first | exact .inl rfl | exact .inr rfl) (.cons (i := 2) rfl (.inl rfl) (by first | exact .inl rfl | exact .inr rfl) .nil)) (pss_one (ps_ret (pe_tup (pa_cons (pe_callO G_read_ids (hr.mono (by decide)) (by rfl) (pa_cons (pv 1) pa_nil)) (pa_cons (pe_callO G_read_number (hr.mono (by decide)) (by rfl) (pa_cons (pv 2) pa_nil)) (pa_cons (pe_tup pa_nil) (pa_cons (pe_glI (by rfl) M.c_HOSTS_FIRST) (pa_cons (pe_glI (by rfl) M.c_HOSTS_LAST) pa_nil))))))))
   (pc_cons pm_any sc_read_hosts_item.nd .nil (pss_one ps_never)
   pc_nil)))), ?_⟩
    unfold itW at ha
    rw [if_pos hb] at ha
    have ha : H a = some (.lst [V.str (idsS i.c), .str (Str.ofString "life"), .str (numS i.li)]) := ha
    refine rd_match ?_
    walk_at "rdn"
    refine mt_case ?_
    refine mt_seq (SqL.of ha) rfl (mt_nm (mt_eq (mt_nm ⟨rfl, ?_⟩)))
    dsimp only [setL]
    walk_at "rd"
    refine ⟨i.c, rfl, hi.c, hi.cl, fun v1 H1 x1 hv1 => ?_⟩
    walk_at "rd"
    refine ⟨i.li, rfl, hi.li, fun H2 x2 => ?_⟩
    have hv1 := hv1.x x2
    walk_at "rd"
    refine ⟨by walk_at "sz", fun p1 np1 => ?_⟩
    obtain ⟨np1, x3, hp1⟩ := alT (T := T) np1 ([] : List V)
    have hv1 := hv1.x x3
    generalize upd H2 p1 _ = H3 at x3 hp1 hv1 ⊢
    walk_at "rd"
    refine ⟨by walk_at "sz", fun p2 np2 => ?_⟩
    obtain ⟨np2, x4, hp2⟩ := alT (T := T) np2 [v1, .int (i.li : Int), .ref p1, .int 0, .int 10000]
    have hv1 := hv1.x x4
    have hp1 := tup.x hp1 x4
    obtain ⟨h1, h2, h3⟩ := hi.h hb
    refine q _ _ (x1.trans (x2.trans (x3.trans x4))) ?_
    unfold itD2
    rw [h1, h2, h3]
    exact .tup hp2 (.cons hv1 (.cons (.int _) (.cons (.tup hp1 .nil) (.cons (.int _) (.cons (.int _) .nil)))))
theorem ok_read_sealed_item (D : Def K mg "read_sealed_item" s_read_sealed_item ["words"]) (mb : ∀ x ∈ bltns, mg x = none) (G_read_ids : Ok P w K mg base 4 "read_ids" ["word"] (spRIds T)) (G_read_number : Ok P w K mg base 3 "read_number" ["word"] (spRNum T)) : Ok P w K mg base 5 "read_sealed_item" ["words"] (spRItem T false) := by
  refine D.ok sc_read_sealed_item (fun vs H Q E h => ?_) (fun cdv f A outer s H vs Q E hr h => ?_)
  · obtain ⟨a, s, i, rfl, _⟩ := h
    rfl
  · obtain ⟨a, sl, i, rfl, hb, hi, ha, q⟩ := h
    refine ⟨_, (pss_one (ps_match (pv 0) (pc_cons (pm_seq K rfl rfl (pms_cons pm_name (pms_cons (pm_str K rfl hr.units) (pms_cons pm_name (pms_cons (pm_str K rfl hr.units) (pms_cons pm_name (pms_cons (pm_str K rfl hr.units) (pms_cons pm_name (pms_cons (pm_str K rfl hr.units) (pms_cons pm_name pms_nil)))))))))) sc_read_sealed_item.nd (.cons (i := 1) rfl (.inl rfl) (by first | exact .inl rfl | exact .inr rfl) (.cons (i := 2) rfl (.inl rfl) (by first | exact .inl rfl | exact .inr rfl) (.cons (i := 3) rfl (.inl rfl) (by first | exact .inl rfl | exact .inr rfl) (.cons (i := 4) rfl (.inl rfl) (by first | exact .inl rfl | exact .inr rfl) (.cons (i := 5) rfl (.inl rfl) (by first | exact .inl rfl | exact .inr rfl) .nil))))) (pss_cons (ps_set (i := 6) sc_read_sealed_item.nd rfl (.inl rfl) (pe_tup (pa_cons (pe_callO G_read_ids (hr.mono (by decide)) (by rfl) (pa_cons (pv 1) pa_nil)) (pa_cons (pe_callO G_read_number (hr.mono (by decide)) (by rfl) (pa_cons (pv 2) pa_nil)) pa_nil))))
   (pss_cons (ps_set (i := 7) sc_read_sealed_item.nd rfl (.inl rfl) (pe_tup (pa_cons (pe_callO G_read_ids (hr.mono (by decide)) (by rfl) (pa_cons (pv 3) pa_nil)) (pa_cons (pe_callO G_read_number (hr.mono (by decide)) (by rfl) (pa_cons (pv 4) pa_nil)) (pa_cons (pe_callO G_read_number (hr.mono (by decide)) (by rfl) (pa_cons (pv 5) pa_nil)) pa_nil)))))
   (pss_one (ps_ret (pe_op (op_plus K rfl) (pv 6) (pv 7))))))
   (pc_cons pm_any sc_read_sealed_item.nd .nil (pss_one ps_never)
   pc_nil)))), ?_⟩
    unfold itW at ha
    rw [if_neg (by rw [hb]; decide)] at ha
    have ha : H a = some (.lst [V.str (idsS i.c), .str (Str.ofString "life"), .str (numS i.li), .str (Str.ofString "by"), .str (idsS i.g), .str (Str.ofString "from"), .str (numS i.a), .str (Str.ofString "to"), .str (numS i.b)]) := ha
    refine rd_match ?_
    walk_at "rdn"
    refine mt_case ?_
    refine mt_seq (SqL.of ha) rfl (mt_nm (mt_eq (mt_nm (mt_eq (mt_nm (mt_eq (mt_nm (mt_eq (mt_nm ⟨rfl, ?_⟩)))))))))
    dsimp only [setL]
    walk_at "rdn"
    refine rd_seq ?_
    walk_at "rd"
    refine ⟨i.c, rfl, hi.c, hi.cl, fun v1 H1 x1 hv1 => ?_⟩
    walk_at "rd"
    refine ⟨i.li, rfl, hi.li, fun H2 x2 => ?_⟩
    have hv1 := hv1.x x2
    walk_at "rd"
    refine ⟨by walk_at "sz", fun p1 np1 => ?_⟩
    obtain ⟨np1, x3, hp1⟩ := alT (T := T) np1 [v1, .int (i.li : Int)]
    have hv1 := hv1.x x3
    generalize upd H2 p1 _ = H3 at x3 hp1 hv1 ⊢
    walk_at "rdn"
    refine rd_seq ?_
    walk_at "rd"
    refine ⟨i.g, rfl, hi.g, hi.gl, fun v2 H4 x4 hv2 => ?_⟩
    have hv1 := hv1.x x4
    have hp1 := tup.x hp1 x4
    walk_at "rd"
    refine ⟨i.a, rfl, hi.a, fun H5 x5 => ?_⟩
    have hv1 := hv1.x x5
    have hv2 := hv2.x x5
    have hp1 := tup.x hp1 x5
    walk_at "rd"
    refine ⟨i.b, rfl, hi.b, fun H6 x6 => ?_⟩
    have hv1 := hv1.x x6
    have hv2 := hv2.x x6
    have hp1 := tup.x hp1 x6
    walk_at "rd"
    refine ⟨by walk_at "sz", fun p2 np2 => ?_⟩
    obtain ⟨np2, x7, hp2⟩ := alT (T := T) np2 [v2, .int (i.a : Int), .int (i.b : Int)]
    have hv1 := hv1.x x7
    have hv2 := hv2.x x7
    have hp1 := tup.x hp1 x7
    generalize upd H6 p2 _ = H7 at x7 hp2 hv1 hv2 hp1 ⊢
    walk_at "rd"
    refine rd_catT (SqT.of hp1) (SqT.of hp2) (by simp) (by simp) (show (5 : Nat) ≤ sizeLine by decide) fun p3 np3 => ?_
    obtain ⟨np3, x8, hp3⟩ := alT (T := T) np3 ([v1, V.int (i.li : Int)] ++ [v2, .int (i.a : Int), .int (i.b : Int)])
    have hv1 := hv1.x x8
    have hv2 := hv2.x x8
    exact q _ _ (x1.trans (x2.trans (x3.trans (x4.trans (x5.trans (x6.trans (x7.trans x8))))))) (.tup hp3 (.cons hv1 (.cons (.int _) (.cons hv2 (.cons (.int _) (.cons (.int _) .nil))))))
theorem itW_len (s : Sl) (i : Itx) : (itW s i).length ≤ 9 := by
  unfold itW
  split
  · show 3 ≤ 9
    decide
  · show 9 ≤ 9
    decide
def spPlaced (T : List (Addr × Str)) : Sp := fun vs H Q _ => ∃ (a : Addr) (s : Sl) (i : Itx), vs = [.ref a] ∧ H a = some (.lst ((slW s ++ Str.ofString "=" :: itW s i).map V.str)) ∧ SlOk s ∧ ItOk2 s i ∧
  ∀ t v u H', Ext T [] H H' → H' t = some (.tup [v, u]) → Im H' v (slD s) → Im H' u (itD2 i) → Q (.ref t) H'
theorem ok_read_placed (D : Def K mg "read_placed" s_read_placed ["words"]) (mb : ∀ x ∈ bltns, mg x = none) (G_split_slot : Ok P w K mg base 6 "split_slot" ["words"] (spSplit T)) (G_read_hosts_item : Ok P w K mg base 5 "read_hosts_item" ["words"] (spRItem T true)) (G_read_sealed_item : Ok P w K mg base 5 "read_sealed_item" ["words"] (spRItem T false)) : Ok P w K mg base 7 "read_placed" ["words"] (spPlaced T) := by
  refine D.ok sc_read_placed (fun vs H Q E h => ?_) (fun cdv f A outer s H vs Q E hr h => ?_)
  · obtain ⟨a, s, i, rfl, _⟩ := h
    rfl
  · obtain ⟨a, sl, i, rfl, ha, hs, hi, q⟩ := h
    refine ⟨_, (pss_cons (ps_asg (pe_callO G_split_slot (hr.mono (by decide)) (by rfl) (pa_cons (pv 0) pa_nil)) (pg_tupU (n := 2) K rfl rfl (pgs_cons (pg_name (i := 1) sc_read_placed.nd rfl (.inl rfl)) (pgs_cons (pg_name (i := 2) sc_read_placed.nd rfl (.inl rfl)) pgs_nil))))
   (pss_cons (ps_if (pt_cmpR (op_neU K rfl hr.units) (pe_slice (sl_U K rfl) (pv 2) po_none (po_some pe_int)) (pe_lst (pa_cons pe_str pa_nil)) (nomark _)) (pss_one ps_never) pss_nil)
   (pss_cons (ps_if (pt_cmpR (op_eqU K rfl hr.units) (pe_ix (ix_U K rfl) (pv 1) pe_int (fun _ _ => rfl)) pe_str (nomark _)) (pss_one (ps_ret (pe_tup (pa_cons (pv 1) (pa_cons (pe_callO G_read_hosts_item (hr.mono (by decide)) (by rfl) (pa_cons (pe_slice (sl_U K rfl) (pv 2) (po_some pe_int) po_none) pa_nil)) pa_nil))))) pss_nil)
   (pss_one (ps_ret (pe_tup (pa_cons (pv 1) (pa_cons (pe_callO G_read_sealed_item (hr.mono (by decide)) (by rfl) (pa_cons (pe_slice (sl_U K rfl) (pv 2) (po_some pe_int) po_none) pa_nil)) pa_nil)))))))), ?_⟩
    have hil := itW_len sl i
    walk_at "rdn"
    refine rd_seq ?_
    walk_at "rdn"
    refine ⟨a, sl, Str.ofString "=" :: itW sl i, rfl, ha, hs, by rw [List.length_cons]; omega, fun t r v H1 x1 ht hv hr => ?_⟩
    refine rd_gtup (SqT.of ht) rfl (rd_gcons (rd_name (rd_gcons (rd_name (rd_gnil ?_)))))
    have hrl : ((Str.ofString "=" :: itW sl i).map V.str).length ≤ 20 := by
      rw [List.length_map, List.length_cons]
      omega
    walk_at "rdn"
    refine rd_cut (fun σ' H' => σ' = [some (.ref a), some v, some (.ref r)] ∧ Ext T [] H1 H') (fun nx' hnx => ?_) (fun σ' H2 h => ?_)
    · walk_at "rd"
      refine rd_slL (SqL.of hr) fun p1 np1 => ?_
      have ec : cutV ((Str.ofString "=" :: itW sl i).map V.str) none (some 1) = [V.str (Str.ofString "=")] := by
        rw [cutV_to _ (by decide)]
        rfl
      rw [ec]
      obtain ⟨np1, x2, hp1⟩ := alL (T := T) np1 [V.str (Str.ofString "=")]
      generalize upd H1 p1 _ = H2 at x2 hp1 ⊢
      walk_at "rd"
      refine ⟨by walk_at "sz", fun p2 np2 => ?_⟩
      obtain ⟨np2, x3, hp2⟩ := alL (T := T) np2 [V.str (Str.ofString "=")]
      have hp1 := lst.x hp1 x3
      generalize upd H2 p2 _ = H3 at x3 hp1 hp2 ⊢
      have ok1 : ∀ z ∈ [Str.ofString "="], PyData.strOk z = true := by
        intro z hz
        rw [List.mem_singleton.mp hz]
        decide +kernel
      refine rd_neLs2 (ls_str (zs := [Str.ofString "="]) hp1 ok1) (ls_str (zs := [Str.ofString "="]) hp2 ok1) (dep_lstr [Str.ofString "="]) ?_
      walk_at "rd"
      exact hnx _ _ ⟨rfl, x2.trans x3⟩
    · obtain ⟨rfl, x2⟩ := h
      have hv := hv.x x2
      have hr := lst.x hr x2
      have hwd : ∃ wd r, slD sl = .tuple (.str wd :: r) ∧ (isH sl = true ↔ wd = Str.ofString "hosts") := by
        rcases sl_cases hs with ⟨wd, z, _, _, e2, _, e3⟩ | ⟨n, k, rfl⟩
        · exact ⟨wd, _, e2, e3⟩
        · exact ⟨_, _, rfl, by show (false = true ↔ Str.ofString "set" = Str.ofString "hosts"); decide +kernel⟩
      obtain ⟨wd, dr, e2, e3⟩ := hwd
      have hv2 := hv
      rw [e2] at hv2
      walk_at "rdn"
      refine rd_cut (fun σ' H' => σ' = [some (.ref a), some v, some (.ref r)] ∧ H' = H2 ∧ isH sl = false) (fun nx' hnx => ?_) (fun σ' H3 h => ?_)
      · walk_at "rd"
        refine rd_ixSs (i := 0) hv2 (z := wd) (show atI (PyData.str wd :: dr) ((0 : Nat) : Int) = some (PyData.str wd) from atI_nat rfl) ?_
        walk_at "rd"
        refine rd_ite (fun c => ?_) (fun c => ?_)
        · have hb := e3.mpr c
          walk_at "rd"
          refine rd_slL (SqL.of hr) fun p1 np1 => ?_
          have ec : cutV ((Str.ofString "=" :: itW sl i).map V.str) (some 1) none = (itW sl i).map V.str := by
            rw [cutV_strs _ (by decide)]
            rfl
          rw [ec]
          obtain ⟨np1, x4, hp1⟩ := alL (T := T) np1 ((itW sl i).map V.str)
          have hv := hv.x x4
          generalize upd H2 p1 _ = H4 at x4 hp1 hv ⊢
          walk_at "rd"
          refine ⟨p1, sl, i, rfl, hb, hi, hp1, fun u H5 x5 hu => ?_⟩
          have hv := hv.x x5
          walk_at "rd"
          refine ⟨by walk_at "sz", fun pq npq => ?_⟩
          obtain ⟨npq, x6, hpq⟩ := alT (T := T) npq [v, u]
          exact q pq v u _ (x1.trans (x2.trans (x4.trans (x5.trans x6)))) hpq (hv.x x6) (hu.x x6)
        · walk_at "rd"
          refine hnx _ _ ⟨rfl, rfl, ?_⟩
          cases hb : isH sl with
          | false => rfl
          | true => exact absurd (e3.mp hb) c
      · obtain ⟨rfl, rfl, hb⟩ := h
        walk_at "rd"
        refine rd_slL (SqL.of hr) fun p1 np1 => ?_
        have ec : cutV ((Str.ofString "=" :: itW sl i).map V.str) (some 1) none = (itW sl i).map V.str := by
          rw [cutV_strs _ (by decide)]
          rfl
        rw [ec]
        obtain ⟨np1, x4, hp1⟩ := alL (T := T) np1 ((itW sl i).map V.str)
        have hv := hv.x x4
        generalize upd H3 p1 _ = H4 at x4 hp1 hv ⊢
        walk_at "rd"
        refine ⟨p1, sl, i, rfl, hb, hi, hp1, fun u H5 x5 hu => ?_⟩
        have hv := hv.x x5
        walk_at "rd"
        refine ⟨by walk_at "sz", fun pq npq => ?_⟩
        obtain ⟨npq, x6, hpq⟩ := alT (T := T) npq [v, u]
        exact q pq v u _ (x1.trans (x2.trans (x4.trans (x5.trans x6)))) hpq (hv.x x6) (hu.x x6)
end

open PySem PySem.Spec PyProof.Rows L2
open PySem.W (EachIs)
section
variable {T : List (Addr × Str)} {P : Program} {w : World} {K : PySem.W.Frag} {mg : Str → Option Value} {base : Heap}
local macro_rules | `(tactic| walk_at "tr") => `(tactic| first
  | assumption
  | exact Ext.refl
  | ((with_reducible refine' Im.x (T := T) (H := ?trH) ?tra ?tre); (case tre => assumption); (case tra => walk_at "tr"))
  | ((with_reducible refine' Im.y (T := T) (H := ?trH) ?tra ?tre ?trt); (case tre => assumption); (case trt => walk_at "tr"); (case tra => walk_at "tr"))
  | ((with_reducible refine' ImAll.x (T := T) (H := ?trH) ?tra ?tre); (case tre => assumption); (case tra => walk_at "tr"))
  | ((with_reducible refine' ImAll.y (T := T) (H := ?trH) ?tra ?tre ?trt); (case tre => assumption); (case trt => walk_at "tr"); (case tra => walk_at "tr"))
  | ((with_reducible refine' Ls.x (T := T) (H := ?trH) ?tra ?tre); (case tre => assumption); (case tra => walk_at "tr"))
  | ((with_reducible refine' Ls.y (T := T) (H := ?trH) ?tra ?tre ?trn ?trt); (case tre => assumption); (case trt => walk_at "tr"); (case trn => walk_at "tr"); (case tra => walk_at "tr"))
  | ((with_reducible refine' SqP.x (T := T) (H := ?trH) ?tra ?tre); (case tre => assumption); (case tra => walk_at "tr"))
  | ((with_reducible refine' SqP.y (T := T) (H := ?trH) ?tra ?tre ?trt); (case tre => assumption); (case trt => walk_at "tr"); (case tra => walk_at "tr"))
  | ((with_reducible refine' StAt.x (T := T) (H := ?trH) ?tra ?tre); (case tre => assumption); (case tra => walk_at "tr"))
  | ((with_reducible refine' StAt.y (T := T) (H := ?trH) ?tra ?tre ?trt); (case tre => assumption); (case trt => walk_at "tr"); (case tra => walk_at "tr"))
  | ((with_reducible refine' Pools.ext0 (T := T) (H := ?trH) ?tra ?tre); (case tre => assumption); (case tra => walk_at "tr"))
  | ((with_reducible refine' Pools.ext (T := T) (H := ?trH) ?tra ?tre ?trt); (case tre => assumption); (case trt => walk_at "tr"); (case tra => walk_at "tr"))
  | ((with_reducible refine' CL.x (T := T) (H := ?trH) ?tra ?tre); (case tre => assumption); (case tra => walk_at "tr"))
  | ((with_reducible refine' CL.y (T := T) (H := ?trH) ?tra ?tre); (case tre => assumption); (case tra => walk_at "tr"))
  | ((with_reducible refine' Tape.ext (T := T) (H := ?trH) ?tra ?tre); (case tre => assumption); (case tra => walk_at "tr"))
  | ((with_reducible refine' lst.x (T := T) (H := ?trH) ?tra ?tre); (case tre => assumption); (case tra => walk_at "tr"))
  | ((with_reducible refine' lst.y (T := T) (H := ?trH) ?tra ?tre ?trn); (case tre => assumption); (case trn => walk_at "tr"); (case tra => walk_at "tr"))
  | ((with_reducible refine' tup.x (T := T) (H := ?trH) ?tra ?tre); (case tre => assumption); (case tra => walk_at "tr"))
  | ((with_reducible refine' tup.y (T := T) (H := ?trH) ?tra ?tre ?trt); (case tre => assumption); (case trt => walk_at "tr"); (case tra => walk_at "tr"))
  | ((with_reducible refine' frz.x (T := T) (H := ?trH) ?tra ?tre); (case tre => assumption); (case tra => walk_at "tr"))
  | ((with_reducible refine' frz.y (T := T) (H := ?trH) ?tra ?tre ?trt); (case tre => assumption); (case trt => walk_at "tr"); (case tra => walk_at "tr"))
  | ((with_reducible refine' Im.z (T := T) (H := ?trH) ?tra ?tre ?trt); (case tre => assumption); (case trt => assumption); (case tra => walk_at "tr"))
  | ((with_reducible refine' ImAll.z (T := T) (H := ?trH) ?tra ?tre ?trt); (case tre => assumption); (case trt => assumption); (case tra => walk_at "tr"))
  | ((with_reducible refine' StAt.z (T := T) (H := ?trH) ?tra ?tre ?trt); (case tre => assumption); (case trt => assumption); (case tra => walk_at "tr"))
  | ((with_reducible refine' SqP.z (T := T) (H := ?trH) ?tra ?tre ?trt); (case tre => assumption); (case trt => assumption); (case tra => walk_at "tr"))
  | ((with_reducible refine' tup.z (T := T) (H := ?trH) ?tra ?tre ?trt); (case tre => assumption); (case trt => assumption); (case tra => walk_at "tr"))
  | ((with_reducible refine' Ls.z (T := T) (H := ?trH) ?tra ?tre ?trt ?trn); (case tre => assumption); (case trt => assumption); (case trn => assumption); (case tra => walk_at "tr"))
  | ((with_reducible refine' lst.z (T := T) (H := ?trH) ?tra ?tre ?trn); (case tre => assumption); (case trn => assumption); (case tra => walk_at "tr"))
  | ((with_reducible refine' CL.z (T := T) (H := ?trH) ?tra ?tre ?trn); (case tre => assumption); (case trn => assumption); (case tra => walk_at "tr"))
  | ((with_reducible refine' Tape.ne1 (H := ?trH) ?trt ?trn); (case trn => assumption); (case trt => walk_at "tr"))
  | ((with_reducible refine' Ext.trans (H1 := ?trH) ?tra (Ext.any ?tre)); (case tre => assumption); (case tra => walk_at "tr"))
  | ((with_reducible refine' Ext.trans (H1 := ?trH) ?tra ?tre); (case tre => assumption); (case tra => walk_at "tr"))
  | ((with_reducible refine' Ext.back1 (T := T) (H1 := ?trH) ?tre ?trn ?tra); (case tra => assumption); (case trn => walk_at "tr"); (case tre => walk_at "tr"))
  | ((with_reducible refine' Ext.back0 (T := T) (H1 := ?trH) ?tre ?tra); (case tra => assumption); (case tre => walk_at "tr"))
  | ((with_reducible refine' SqT.of ?tra); (case tra => walk_at "tr"))
  | ((with_reducible refine' SqL.of ?tra); (case tra => walk_at "tr")))
local macro_rules | `(tactic| walk_at "al") => `(tactic| (refine ⟨by first | (show _ ≤ sizeLine; decide) | walk_at "sz", ?_⟩; intro alp aln; generalize alG : upd _ alp _ = alH; obtain ⟨aln2, alx, alh⟩ := al_of (T := T) aln alG; clear alG aln))
local macro_rules | `(tactic| walk_at "al0") => `(tactic| (intro alp aln; generalize alG : upd _ alp _ = alH; obtain ⟨aln2, alx, alh⟩ := al_of (T := T) aln alG; clear alG aln))

/-- rows of words that may stand in a text -/
def RowsOk (rows : List (List Str)) : Prop := ∀ ws ∈ rows, ws ≠ [] ∧ (∀ x ∈ ws, Fr 32 x ∧ Fr 10 x) ∧ (jn 32 ws).length ≤ 200 ∧ 1 ≤ (jn 32 ws).length
def rowsS (rows : List (List Str)) : Str := jn 10 (rows.map (jn 32))
theorem rows_len {rows : List (List Str)} (h : RowsOk rows) : (rowsS rows).length ≤ 201 * rows.length := by
  have h1 := jn_len 10 (rows.map (jn 32))
  have h2 : ((rows.map (jn 32)).map (·.length)).sum ≤ 200 * rows.length := by
    clear h1
    induction rows with
    | nil => exact Nat.le_refl _
    | cons x r ih =>
      have := ih fun y hy => h y (List.mem_cons_of_mem _ hy)
      have := (h x List.mem_cons_self).2.2.1
      simp only [List.map_cons, List.sum_cons, List.length_cons]
      omega
  rw [List.length_map] at h1
  unfold rowsS
  omega
theorem rows_ne {rows : List (List Str)} (h : RowsOk rows) (hne : rows ≠ []) : rowsS rows ≠ Str.ofString "" := fun e => by
  cases rows with
  | nil => exact hne rfl
  | cons x r =>
    have h1 := (h x List.mem_cons_self).2.2.2
    have h2 : (jn 32 x).length ≤ (rowsS (x :: r)).length := by
      unfold rowsS
      by_cases hr : r = []
      · subst hr
        rw [show [x].map (jn 32) = [jn 32 x] from rfl, jn_one]
        exact Nat.le_refl _
      · rw [List.map_cons, jn_cons 10 _ (by simpa using hr), app_len2]
        omega
    rw [e, show (Str.ofString "").length = 0 from by decide +kernel] at h2
    omega
def spSplitL (T : List (Addr × Str)) : Sp := fun vs H Q _ => ∃ rows : List (List Str), vs = [.str (rowsS rows)] ∧ RowsOk rows ∧ rows.length ≤ 30 ∧
  ∀ (p : Addr) (ys : List V) (H' : Hp), Ext T [] H H' → H' p = some (.lst ys) → ys.length = rows.length → (∀ (i : Nat) (y : V), ys[i]? = some y → ∃ (a : Addr) (ws : List Str), y = V.ref a ∧ rows[i]? = some ws ∧ H' a = some (.lst (ws.map V.str))) → Q (.ref p) H'
theorem ok_split_lines (D : Def K mg "split_lines" s_split_lines ["text"]) (mb : ∀ x ∈ bltns, mg x = none) : Ok P w K mg base 1 "split_lines" ["text"] (spSplitL T) := by
  refine D.ok sc_split_lines (fun vs H Q E h => ?_) (fun cdv f A outer s H vs Q E hr h => ?_)
  · obtain ⟨rows, rfl, _⟩ := h
    rfl
  · obtain ⟨rows, rfl, hR, hl8, q⟩ := h
    refine ⟨_, (pss_cons (ps_if (pt_cmpR (op_eqU K rfl hr.units) (pv 0) pe_str (nomark _)) (pss_one (ps_ret (pe_lst pa_nil))) pss_nil)
   (pss_one (ps_ret (pe_lc (own := [("line", 1)]) (g := gName 1) (tt := tYes) rfl sc_split_lines.nd (pi_seq K rfl (pe_m1 PySem.F.slot_str_split PySem.F.type_str_split mt_splitU (pv 0) pe_str)) (blkOk_by (N := N_split_lines) (sc := defScope s_split_lines) (by decide +kernel)) (fun _ _ _ _ _ => (pg_name (i := 1) sc_split_lines.nd rfl (Or.inl rfl))) (fun _ _ _ _ _ => pts_nil) (fun _ _ _ _ _ => (pe_m1 PySem.F.slot_str_split PySem.F.type_str_split mt_splitU (pv 1) pe_str)))))), ?_⟩
    have hlen := rows_len hR
    by_cases hne : rows = []
    · subst hne
      have e : rowsS [] = Str.ofString "" := rfl
      rw [e]
      walk_at "rd"
      rw [decide_eq_true rfl]
      walk_at "rd"
      refine ⟨by walk_at "sz", fun pt npt => ?_⟩
      obtain ⟨npt, e2, hpt⟩ := alL (T := T) npt ([] : List V)
      exact q _ _ _ e2 hpt rfl (fun i y h => by simp at h)
    · have hz1 := rows_ne hR hne
      walk_at "rd"
      rw [decide_eq_false hz1]
      walk_at "rd"
      refine rd_split (b := Str.ofString "\n") (by decide +kernel) (Nat.le_trans (show (rowsS rows).length + 2 ≤ 6032 by omega) (by decide)) fun ps nps => ?_
      have esp : Txt.split (rowsS rows) (Str.ofString "\n") = rows.map (jn 32) := split_jn (by decide +kernel) (by decide +kernel) (by simpa using hne) fun x hx => by
        obtain ⟨ws, hws, rfl⟩ := List.mem_map.mp hx
        exact jn_fr (by decide) fun x hx => ((hR ws hws).2.1 x hx).2
      rw [esp]
      obtain ⟨nps, e2, hps⟩ := alL (T := T) nps ((rows.map (jn 32)).map V.str)
      generalize upd H ps _ = H2 at e2 hps ⊢
      walk_at "rd"
      refine lcg_gen T (walk_list (xs := (rows.map (jn 32)).map V.str)) (fun H' e => SqL.of (lst.x hps e)) (Nat.lt_of_le_of_lt (show ((rows.map (jn 32)).map V.str).length ≤ 30 by rw [List.length_map, List.length_map]; exact hl8) (by decide)) (fun i D H y => ∃ (a : Addr) (ws : List Str), y = V.ref a ∧ a ≠ D ∧ rows[i]? = some ws ∧ H a = some (.lst (ws.map V.str))) (fun i D H1 H2 y xs e _ h => ?_) (fun i x D H3 H4 hi x3 nD hD hx F go => ?_) (fun D ys H3 nD x3 hD hyl hys => ?_)
      · obtain ⟨a, ws, h1, h2, h3, h4⟩ := h
        exact ⟨a, ws, h1, h2, h3, e.lst (by simpa using h2) h4⟩
      · obtain ⟨rfl, hx⟩ := hx
        rw [List.getElem?_map, List.getElem?_map] at hx
        obtain ⟨s', h3, rfl⟩ := Option.map_eq_some_iff.mp hx
        obtain ⟨ws, hws, rfl⟩ := Option.map_eq_some_iff.mp h3
        obtain ⟨g1, g2, g3, g4⟩ := hR ws (List.mem_of_getElem? hws)
        walk_at "rd"
        refine ⟨rfl, ?_⟩
        walk_at "rd"
        refine rd_split (b := Str.ofString " ") (by decide +kernel) (Nat.le_trans (show (jn 32 ws).length + 2 ≤ 202 by omega) (by decide)) fun pa npa => ?_
        rw [split_jn (d := Str.ofString " ") (by decide +kernel) (by decide +kernel) g1 fun x hx => (g2 x hx).1]
        have haD : pa ≠ D := fun z => by
          obtain ⟨ys, hys⟩ := hD
          rw [z, hys] at npa
          cases npa
        obtain ⟨npa, x4, hpa⟩ := alL (T := T) npa (ws.map V.str)
        exact go _ _ ⟨pa, ws, rfl, haD, hws, hpa⟩ x4
      · refine q D ys H3 (e2.trans x3) hD (by rw [hyl, List.length_map, List.length_map]) fun i y hy => ?_
        obtain ⟨a, ws, h1, _, h3, h4⟩ := hys i y hy
        exact ⟨a, ws, h1, h3, h4⟩
def spLine (S : Addr → Option Sp) : Sp := fun vs H Q _ => ∃ (f a : Addr) (i : Int) (sp : Sp), vs = [.ref f, .ref a, .int i] ∧ S f = some sp ∧ sp [.ref a] H Q (fun _ _ _ => False)
theorem ok_read_line {S : Addr → Option Sp} (D : Def K mg "read_line" s_read_line ["read", "words", "at"]) (A_read : ∀ f sp, S f = some sp → Held P w K mg base 9 f sp) : Ok P w K mg base 10 "read_line" ["read", "words", "at"] (spLine S) := by
  refine D.ok sc_read_line (fun vs H Q E h => ?_) (fun cdv f A outer s H vs Q E hr h => ?_)
  · obtain ⟨f, a, i, sp, rfl, _⟩ := h
    rfl
  · obtain ⟨f, a, i, sp, rfl, hS, q⟩ := h
    refine ⟨_, (pss_one (ps_try_thru0 (pss_one (ps_ret (pe_callA A_read (hr.mono (by decide)) (i := 0) rfl (by first | exact .inl rfl | exact .inr (.inl rfl)) (pa_cons (pv 1) pa_nil)))))), ?_⟩
    walk_at "rd"
    refine rd_callA (f := f) rfl hS ?_
    walk_at "rd"
    exact q
end

open PySem PySem.Spec PyProof.Rows L2
open PySem.W (EachIs)
section
variable {T : List (Addr × Str)} {P : Program} {w : World} {K : PySem.W.Frag} {mg : Str → Option Value} {base : Heap}
local macro_rules | `(tactic| walk_at "tr") => `(tactic| first
  | assumption
  | exact Ext.refl
  | ((with_reducible refine' Im.x (T := T) (H := ?trH) ?tra ?tre); (case tre => assumption); (case tra => walk_at "tr"))
  | ((with_reducible refine' Im.y (T := T) (H := ?trH) ?tra ?tre ?trt); (case tre => assumption); (case trt => walk_at "tr"); (case tra => walk_at "tr"))
  | ((with_reducible refine' ImAll.x (T := T) (H := ?trH) ?tra ?tre); (case tre => assumption); (case tra => walk_at "tr"))
  | ((with_reducible refine' ImAll.y (T := T) (H := ?trH) ?tra ?tre ?trt); (case tre => assumption); (case trt => walk_at "tr"); (case tra => walk_at "tr"))
  | ((with_reducible refine' Ls.x (T := T) (H := ?trH) ?tra ?tre); (case tre => assumption); (case tra => walk_at "tr"))
  | ((with_reducible refine' Ls.y (T := T) (H := ?trH) ?tra ?tre ?trn ?trt); (case tre => assumption); (case trt => walk_at "tr"); (case trn => walk_at "tr"); (case tra => walk_at "tr"))
  | ((with_reducible refine' SqP.x (T := T) (H := ?trH) ?tra ?tre); (case tre => assumption); (case tra => walk_at "tr"))
  | ((with_reducible refine' SqP.y (T := T) (H := ?trH) ?tra ?tre ?trt); (case tre => assumption); (case trt => walk_at "tr"); (case tra => walk_at "tr"))
  | ((with_reducible refine' StAt.x (T := T) (H := ?trH) ?tra ?tre); (case tre => assumption); (case tra => walk_at "tr"))
  | ((with_reducible refine' StAt.y (T := T) (H := ?trH) ?tra ?tre ?trt); (case tre => assumption); (case trt => walk_at "tr"); (case tra => walk_at "tr"))
  | ((with_reducible refine' Pools.ext0 (T := T) (H := ?trH) ?tra ?tre); (case tre => assumption); (case tra => walk_at "tr"))
  | ((with_reducible refine' Pools.ext (T := T) (H := ?trH) ?tra ?tre ?trt); (case tre => assumption); (case trt => walk_at "tr"); (case tra => walk_at "tr"))
  | ((with_reducible refine' CL.x (T := T) (H := ?trH) ?tra ?tre); (case tre => assumption); (case tra => walk_at "tr"))
  | ((with_reducible refine' CL.y (T := T) (H := ?trH) ?tra ?tre); (case tre => assumption); (case tra => walk_at "tr"))
  | ((with_reducible refine' Tape.ext (T := T) (H := ?trH) ?tra ?tre); (case tre => assumption); (case tra => walk_at "tr"))
  | ((with_reducible refine' lst.x (T := T) (H := ?trH) ?tra ?tre); (case tre => assumption); (case tra => walk_at "tr"))
  | ((with_reducible refine' lst.y (T := T) (H := ?trH) ?tra ?tre ?trn); (case tre => assumption); (case trn => walk_at "tr"); (case tra => walk_at "tr"))
  | ((with_reducible refine' tup.x (T := T) (H := ?trH) ?tra ?tre); (case tre => assumption); (case tra => walk_at "tr"))
  | ((with_reducible refine' tup.y (T := T) (H := ?trH) ?tra ?tre ?trt); (case tre => assumption); (case trt => walk_at "tr"); (case tra => walk_at "tr"))
  | ((with_reducible refine' frz.x (T := T) (H := ?trH) ?tra ?tre); (case tre => assumption); (case tra => walk_at "tr"))
  | ((with_reducible refine' frz.y (T := T) (H := ?trH) ?tra ?tre ?trt); (case tre => assumption); (case trt => walk_at "tr"); (case tra => walk_at "tr"))
  | ((with_reducible refine' Im.z (T := T) (H := ?trH) ?tra ?tre ?trt); (case tre => assumption); (case trt => assumption); (case tra => walk_at "tr"))
  | ((with_reducible refine' ImAll.z (T := T) (H := ?trH) ?tra ?tre ?trt); (case tre => assumption); (case trt => assumption); (case tra => walk_at "tr"))
  | ((with_reducible refine' StAt.z (T := T) (H := ?trH) ?tra ?tre ?trt); (case tre => assumption); (case trt => assumption); (case tra => walk_at "tr"))
  | ((with_reducible refine' SqP.z (T := T) (H := ?trH) ?tra ?tre ?trt); (case tre => assumption); (case trt => assumption); (case tra => walk_at "tr"))
  | ((with_reducible refine' tup.z (T := T) (H := ?trH) ?tra ?tre ?trt); (case tre => assumption); (case trt => assumption); (case tra => walk_at "tr"))
  | ((with_reducible refine' Ls.z (T := T) (H := ?trH) ?tra ?tre ?trt ?trn); (case tre => assumption); (case trt => assumption); (case trn => assumption); (case tra => walk_at "tr"))
  | ((with_reducible refine' lst.z (T := T) (H := ?trH) ?tra ?tre ?trn); (case tre => assumption); (case trn => assumption); (case tra => walk_at "tr"))
  | ((with_reducible refine' CL.z (T := T) (H := ?trH) ?tra ?tre ?trn); (case tre => assumption); (case trn => assumption); (case tra => walk_at "tr"))
  | ((with_reducible refine' Tape.ne1 (H := ?trH) ?trt ?trn); (case trn => assumption); (case trt => walk_at "tr"))
  | ((with_reducible refine' Ext.trans (H1 := ?trH) ?tra (Ext.any ?tre)); (case tre => assumption); (case tra => walk_at "tr"))
  | ((with_reducible refine' Ext.trans (H1 := ?trH) ?tra ?tre); (case tre => assumption); (case tra => walk_at "tr"))
  | ((with_reducible refine' Ext.back1 (T := T) (H1 := ?trH) ?tre ?trn ?tra); (case tra => assumption); (case trn => walk_at "tr"); (case tre => walk_at "tr"))
  | ((with_reducible refine' Ext.back0 (T := T) (H1 := ?trH) ?tre ?tra); (case tra => assumption); (case tre => walk_at "tr"))
  | ((with_reducible refine' SqT.of ?tra); (case tra => walk_at "tr"))
  | ((with_reducible refine' SqL.of ?tra); (case tra => walk_at "tr")))
local macro_rules | `(tactic| walk_at "al") => `(tactic| (refine ⟨by first | (show _ ≤ sizeLine; decide) | walk_at "sz", ?_⟩; intro alp aln; generalize alG : upd _ alp _ = alH; obtain ⟨aln2, alx, alh⟩ := al_of (T := T) aln alG; clear alG aln))
local macro_rules | `(tactic| walk_at "al0") => `(tactic| (intro alp aln; generalize alG : upd _ alp _ = alH; obtain ⟨aln2, alx, alh⟩ := al_of (T := T) aln alG; clear alG aln))

theorem imAll_of {H : Hp} : ∀ {ys : List V} {ds : List PyData}, ys.length = ds.length → (∀ (i : Nat) (y : V) (d : PyData), ys[i]? = some y → ds[i]? = some d → Im H y d) → ImAll H ys ds
  | [], [], _, _ => .nil
  | y :: ys, d :: ds, hl, h => .cons (h 0 y d rfl rfl) (imAll_of (Nat.succ.inj hl) fun i y d h1 h2 => h (i + 1) y d (by rw [List.getElem?_cons_succ]; exact h1) (by rw [List.getElem?_cons_succ]; exact h2))
def spLinesR (T : List (Addr × Str)) (S : Addr → Option Sp) : Sp := fun vs H Q _ => ∃ (f : Addr) (sp : Sp) (rows : List (List Str)) (ds : List PyData), vs = [.ref f, .str (rowsS rows)] ∧ S f = some sp ∧ RowsOk rows ∧ rows.length ≤ 8 ∧ ds.length = rows.length ∧
  (∀ (i : Nat) (ws : List Str) (d : PyData) (a : Addr) (H1 : Hp), rows[i]? = some ws → ds[i]? = some d → H1 a = some (.lst (ws.map V.str)) → ∀ F : VK, (∀ v H2, Ext T [] H1 H2 → Im H2 v d → F v H2) → sp [.ref a] H1 F (fun _ _ _ => False)) ∧
  ∀ v H', Ext T [] H H' → Im H' v (.tuple ds) → Q v H'
theorem ok_read_lines {S : Addr → Option Sp} (D : Def K mg "read_lines" s_read_lines ["read", "text"]) (mb : ∀ x ∈ bltns, mg x = none) (G_split_lines : Ok P w K mg base 1 "split_lines" ["text"] (spSplitL T)) (G_read_line : Ok P w K mg base 10 "read_line" ["read", "words", "at"] (spLine S)) : Ok P w K mg base 11 "read_lines" ["read", "text"] (spLinesR T S) := by
  refine D.ok sc_read_lines (fun vs H Q E h => ?_) (fun cdv f A outer s H vs Q E hr h => ?_)
  · obtain ⟨f, sp, rows, ds, rfl, _⟩ := h
    rfl
  · obtain ⟨f0, sp, rows, ds, rfl, hS, hR, hl8, hdl, hsp, q⟩ := h
    refine ⟨_, (pss_cons (ps_set (i := 2) sc_read_lines.nd rfl (.inl rfl) (pe_callO G_split_lines (hr.mono (by decide)) (by rfl) (pa_cons (pv 1) pa_nil)))
   (pss_one (ps_ret (pe_callTy (call_tupU K rfl) (by rfl) (mb _ (by decide)) (by decide +kernel) (pa_cons (pe_lc (own := [("at", 3), ("words", 4)]) (tt := tYes) rfl sc_read_lines.nd (pi_enum1 (by rfl) (mb _ (by decide)) (pa_cons (pv 2) pa_nil)) (blkOk_by (N := N_read_lines) (sc := defScope s_read_lines) (by decide +kernel)) (fun _ _ _ _ _ => (pg_tupU (n := 2) K rfl rfl (pgs_cons (pg_name (i := 3) sc_read_lines.nd rfl (Or.inl rfl)) (pgs_cons (pg_name (i := 4) sc_read_lines.nd rfl (Or.inl rfl)) pgs_nil)))) (fun _ _ _ _ _ => pts_nil) (fun _ _ _ _ _ => (pe_callO G_read_line (hr.mono (by decide)) (by rfl) (pa_cons (pv 0) (pa_cons (pv 4) (pa_cons (pv 3) pa_nil)))))) pa_nil))))), ?_⟩
    walk_at "rdn"
    refine rd_seq ?_
    walk_at "rdn"
    refine ⟨rows, rfl, hR, by omega, fun p ys H1 x1 hp hyl hys => ?_⟩
    walk_at "rd"
    refine rd_enum1 ?_
    walk_at "rd"
    refine ⟨p, ys, rfl, SqL.of hp, ?_⟩
    refine lcg_gen T (walk_enum1 (xs := ys)) (fun H' e => SqL.of (lst.x hp e)) (Nat.lt_of_le_of_lt (show ys.length ≤ 8 by omega) (by decide)) (fun i D H y => ∀ d, ds[i]? = some d → Im H y d) (fun i D H1 H2 y xs e hD h => fun d hd => Im.ext e (lsts_one hD) _ _ (h d hd)) (fun i x D H3 H4 hi x3 nD hD hx F go => ?_) (fun D zs H3 nD x3 hD hzl hzs => ?_)
    · obtain ⟨tq, v1, v2, rfl, ntq, rfl, e1v, e2v⟩ := hx
      cases Option.some.inj e1v
      obtain ⟨a, ws, rfl, hws, ha⟩ := hys i v2 e2v
      obtain ⟨ntq, x5, htq⟩ := alT (T := T) ntq [V.int ((i : Nat) + 1), .ref a]
      have ha := lst.x (lst.x ha x3) x5
      generalize upd H3 tq _ = H5 at x5 htq ha ⊢
      refine rd_gtup (SqT.of htq) rfl (rd_gcons (rd_name (rd_gcons (rd_name (rd_gnil ?_)))))
      refine ⟨rfl, ?_⟩
      walk_at "rd"
      have hid : i < ds.length := by omega
      refine ⟨f0, a, _, sp, rfl, hS, hsp i ws ds[i] a H5 hws (List.getElem?_eq_getElem hid) ha _ fun v H6 x6 hv => ?_⟩
      refine go _ _ (fun d hd => ?_) (x5.trans x6)
      rw [List.getElem?_eq_getElem hid] at hd
      cases Option.some.inj hd
      exact hv
    · walk_at "rd"
      refine rd_tupL (SqL.of hD) fun l2 nl2 => ?_
      obtain ⟨nl2, x7, hl2⟩ := alT (T := T) nl2 zs
      have him : ImAll H3 zs ds := imAll_of (by omega) fun i y d h1 h2 => hzs i y h1 d h2
      exact q _ _ (x1.trans (x3.trans x7)) (.tup hl2 (him.x x7))
/-- the one def that a name holds -/
def oneS (f : Addr) (sp : Sp) : Addr → Option Sp := fun g => if g = f then some sp else none
theorem oneS_eq (f : Addr) (sp : Sp) : oneS f sp f = some sp := if_pos rfl
theorem held_one {k : Nat} {x : Str} {ps : List Str} {sp : Sp} (h : Ok P w K mg base k x ps sp) : ∃ f, mg x = some (.ref f) ∧ ∀ g sp', oneS f sp g = some sp' → Held P w K mg base k g sp' := by
  obtain ⟨f, fd, F, hm, hk, hb⟩ := h
  refine ⟨f, hm, fun g sp' hg => ?_⟩
  unfold oneS at hg
  split at hg
  · rename_i e
    subst e
    cases Option.some.inj hg
    exact ⟨fd, ps, F, hk, hb⟩
  · cases hg
end

open PySem PySem.Spec PyProof.Rows L2
open PySem.W (EachIs)
theorem c_life_len : (Str.ofString " life ").length = 6 := by decide +kernel
theorem sg_c_life : sg (Str.ofString " life ") = [32, 108, 105, 102, 101, 32] := by decide +kernel
theorem c_by_len : (Str.ofString " by ").length = 4 := by decide +kernel
theorem sg_c_by : sg (Str.ofString " by ") = [32, 98, 121, 32] := by decide +kernel
theorem c_from_len : (Str.ofString " from ").length = 6 := by decide +kernel
theorem sg_c_from : sg (Str.ofString " from ") = [32, 102, 114, 111, 109, 32] := by decide +kernel
theorem c_to_len : (Str.ofString " to ").length = 4 := by decide +kernel
theorem sg_c_to : sg (Str.ofString " to ") = [32, 116, 111, 32] := by decide +kernel
theorem c_go_len : (Str.ofString "go ").length = 3 := by decide +kernel
theorem sg_c_go : sg (Str.ofString "go ") = [103, 111, 32] := by decide +kernel
theorem c_plant_len : (Str.ofString "plant ").length = 6 := by decide +kernel
theorem sg_c_plant : sg (Str.ofString "plant ") = [112, 108, 97, 110, 116, 32] := by decide +kernel
theorem c_wait_len : (Str.ofString "wait ").length = 5 := by decide +kernel
theorem sg_c_wait : sg (Str.ofString "wait ") = [119, 97, 105, 116, 32] := by decide +kernel
theorem c_is_len : (Str.ofString " = ").length = 3 := by decide +kernel
theorem sg_c_is : sg (Str.ofString " = ") = [32, 61, 32] := by decide +kernel
theorem sg_w_life : sg (Str.ofString "life") = [108, 105, 102, 101] := by decide +kernel
theorem sg_w_by : sg (Str.ofString "by") = [98, 121] := by decide +kernel
theorem sg_w_from : sg (Str.ofString "from") = [102, 114, 111, 109] := by decide +kernel
theorem sg_w_to : sg (Str.ofString "to") = [116, 111] := by decide +kernel
theorem sg_w_go : sg (Str.ofString "go") = [103, 111] := by decide +kernel
theorem sg_w_plant : sg (Str.ofString "plant") = [112, 108, 97, 110, 116] := by decide +kernel
theorem sg_w_wait : sg (Str.ofString "wait") = [119, 97, 105, 116] := by decide +kernel
theorem sg_w_is : sg (Str.ofString "=") = [61] := by decide +kernel
theorem sg_numS (n : Nat) : sg (numS n) = TL.numL n := sg_num n
local macro_rules | `(tactic| walk_at "fslJ") => `(tactic| (refine Nat.le_trans (?_ : _ ≤ 100000) (by decide); (try simp only [app_len2, sp_len, nl_len, em_len, c_life_len, c_by_len, c_from_len, c_to_len, c_go_len, c_plant_len, c_wait_len, c_is_len]); omega))
local macro_rules | `(tactic| walk_at "fssJ") => `(tactic| (refine fs_s (by walk_at "fslJ") ?_; refine fs_y ⟨by walk_at "fslJ", ?_⟩; walk_at "rd"))
local macro_rules | `(tactic| walk_at "fsiJ") => `(tactic| (refine fs_i (by omega) ?_; refine fs_y ⟨by walk_at "fslJ", ?_⟩; walk_at "rd"))
local macro_rules | `(tactic| walk_at "fscJ") => `(tactic| (refine ⟨by walk_at "fslJ", ?_⟩; walk_at "rd"))
section
variable {T : List (Addr × Str)} {P : Program} {w : World} {K : PySem.W.Frag} {mg : Str → Option Value} {base : Heap}
local macro_rules | `(tactic| walk_at "tr") => `(tactic| first
  | assumption
  | exact Ext.refl
  | ((with_reducible refine' Im.x (T := T) (H := ?trH) ?tra ?tre); (case tre => assumption); (case tra => walk_at "tr"))
  | ((with_reducible refine' Im.y (T := T) (H := ?trH) ?tra ?tre ?trt); (case tre => assumption); (case trt => walk_at "tr"); (case tra => walk_at "tr"))
  | ((with_reducible refine' ImAll.x (T := T) (H := ?trH) ?tra ?tre); (case tre => assumption); (case tra => walk_at "tr"))
  | ((with_reducible refine' ImAll.y (T := T) (H := ?trH) ?tra ?tre ?trt); (case tre => assumption); (case trt => walk_at "tr"); (case tra => walk_at "tr"))
  | ((with_reducible refine' Ls.x (T := T) (H := ?trH) ?tra ?tre); (case tre => assumption); (case tra => walk_at "tr"))
  | ((with_reducible refine' Ls.y (T := T) (H := ?trH) ?tra ?tre ?trn ?trt); (case tre => assumption); (case trt => walk_at "tr"); (case trn => walk_at "tr"); (case tra => walk_at "tr"))
  | ((with_reducible refine' SqP.x (T := T) (H := ?trH) ?tra ?tre); (case tre => assumption); (case tra => walk_at "tr"))
  | ((with_reducible refine' SqP.y (T := T) (H := ?trH) ?tra ?tre ?trt); (case tre => assumption); (case trt => walk_at "tr"); (case tra => walk_at "tr"))
  | ((with_reducible refine' StAt.x (T := T) (H := ?trH) ?tra ?tre); (case tre => assumption); (case tra => walk_at "tr"))
  | ((with_reducible refine' StAt.y (T := T) (H := ?trH) ?tra ?tre ?trt); (case tre => assumption); (case trt => walk_at "tr"); (case tra => walk_at "tr"))
  | ((with_reducible refine' Pools.ext0 (T := T) (H := ?trH) ?tra ?tre); (case tre => assumption); (case tra => walk_at "tr"))
  | ((with_reducible refine' Pools.ext (T := T) (H := ?trH) ?tra ?tre ?trt); (case tre => assumption); (case trt => walk_at "tr"); (case tra => walk_at "tr"))
  | ((with_reducible refine' CL.x (T := T) (H := ?trH) ?tra ?tre); (case tre => assumption); (case tra => walk_at "tr"))
  | ((with_reducible refine' CL.y (T := T) (H := ?trH) ?tra ?tre); (case tre => assumption); (case tra => walk_at "tr"))
  | ((with_reducible refine' Tape.ext (T := T) (H := ?trH) ?tra ?tre); (case tre => assumption); (case tra => walk_at "tr"))
  | ((with_reducible refine' lst.x (T := T) (H := ?trH) ?tra ?tre); (case tre => assumption); (case tra => walk_at "tr"))
  | ((with_reducible refine' lst.y (T := T) (H := ?trH) ?tra ?tre ?trn); (case tre => assumption); (case trn => walk_at "tr"); (case tra => walk_at "tr"))
  | ((with_reducible refine' tup.x (T := T) (H := ?trH) ?tra ?tre); (case tre => assumption); (case tra => walk_at "tr"))
  | ((with_reducible refine' tup.y (T := T) (H := ?trH) ?tra ?tre ?trt); (case tre => assumption); (case trt => walk_at "tr"); (case tra => walk_at "tr"))
  | ((with_reducible refine' frz.x (T := T) (H := ?trH) ?tra ?tre); (case tre => assumption); (case tra => walk_at "tr"))
  | ((with_reducible refine' frz.y (T := T) (H := ?trH) ?tra ?tre ?trt); (case tre => assumption); (case trt => walk_at "tr"); (case tra => walk_at "tr"))
  | ((with_reducible refine' Im.z (T := T) (H := ?trH) ?tra ?tre ?trt); (case tre => assumption); (case trt => assumption); (case tra => walk_at "tr"))
  | ((with_reducible refine' ImAll.z (T := T) (H := ?trH) ?tra ?tre ?trt); (case tre => assumption); (case trt => assumption); (case tra => walk_at "tr"))
  | ((with_reducible refine' StAt.z (T := T) (H := ?trH) ?tra ?tre ?trt); (case tre => assumption); (case trt => assumption); (case tra => walk_at "tr"))
  | ((with_reducible refine' SqP.z (T := T) (H := ?trH) ?tra ?tre ?trt); (case tre => assumption); (case trt => assumption); (case tra => walk_at "tr"))
  | ((with_reducible refine' tup.z (T := T) (H := ?trH) ?tra ?tre ?trt); (case tre => assumption); (case trt => assumption); (case tra => walk_at "tr"))
  | ((with_reducible refine' Ls.z (T := T) (H := ?trH) ?tra ?tre ?trt ?trn); (case tre => assumption); (case trt => assumption); (case trn => assumption); (case tra => walk_at "tr"))
  | ((with_reducible refine' lst.z (T := T) (H := ?trH) ?tra ?tre ?trn); (case tre => assumption); (case trn => assumption); (case tra => walk_at "tr"))
  | ((with_reducible refine' CL.z (T := T) (H := ?trH) ?tra ?tre ?trn); (case tre => assumption); (case trn => assumption); (case tra => walk_at "tr"))
  | ((with_reducible refine' Tape.ne1 (H := ?trH) ?trt ?trn); (case trn => assumption); (case trt => walk_at "tr"))
  | ((with_reducible refine' Ext.trans (H1 := ?trH) ?tra (Ext.any ?tre)); (case tre => assumption); (case tra => walk_at "tr"))
  | ((with_reducible refine' Ext.trans (H1 := ?trH) ?tra ?tre); (case tre => assumption); (case tra => walk_at "tr"))
  | ((with_reducible refine' Ext.back1 (T := T) (H1 := ?trH) ?tre ?trn ?tra); (case tra => assumption); (case trn => walk_at "tr"); (case tre => walk_at "tr"))
  | ((with_reducible refine' Ext.back0 (T := T) (H1 := ?trH) ?tre ?tra); (case tra => assumption); (case tre => walk_at "tr"))
  | ((with_reducible refine' SqT.of ?tra); (case tra => walk_at "tr"))
  | ((with_reducible refine' SqL.of ?tra); (case tra => walk_at "tr")))
local macro_rules | `(tactic| walk_at "al") => `(tactic| (refine ⟨by first | (show _ ≤ sizeLine; decide) | walk_at "sz", ?_⟩; intro alp aln; generalize alG : upd _ alp _ = alH; obtain ⟨aln2, alx, alh⟩ := al_of (T := T) aln alG; clear alG aln))
local macro_rules | `(tactic| walk_at "al0") => `(tactic| (intro alp aln; generalize alG : upd _ alp _ = alH; obtain ⟨aln2, alx, alh⟩ := al_of (T := T) aln alG; clear alG aln))

theorem sum_ids {cs : List Str} (h : ∀ x ∈ cs, idB x = true) : (cs.map (·.length)).sum ≤ 4 * cs.length := by
  induction cs with
  | nil => exact Nat.le_refl _
  | cons x r ih =>
    have := ih (fun y hy => h y (List.mem_cons_of_mem _ hy))
    have := id_len (h x List.mem_cons_self)
    simp only [List.map_cons, List.sum_cons, List.length_cons]
    omega
theorem ids_len {cs : List Str} (h : ∀ x ∈ cs, idB x = true) : (idsS cs).length ≤ 5 * cs.length + 1 := by
  unfold idsS
  split
  · show (Str.ofString "-").length ≤ _
    rw [show (Str.ofString "-").length = 1 from by decide +kernel]
    omega
  · have h1 := jn_len 44 cs
    have h2 := sum_ids h
    omega
theorem strsD {H : Hp} {xs : List V} {cs : List Str} (h : ImAll H xs (cs.map .str)) : xs = cs.map V.str := by
  induction cs generalizing xs with
  | nil =>
    cases h
    rfl
  | cons c r ih =>
    cases h with
    | cons a b =>
      cases a
      rw [ih b]
      rfl
theorem rd_joinT {a : Str} {p : Addr} {ys : List Str} {H : Hp} {Q : VK} (h : SqT K H p (ys.map V.str)) (c : (ys.map (·.length)).sum + ys.length * a.length ≤ 16777216) (q : Q (.str (Txt.join a ys)) H) : rJoin K (.str a) [.ref p] H Q := ⟨a, p, ys, rfl, rfl, .inr h, c, q⟩
def spIdsT : Sp := fun vs H Q _ => ∃ (v : V) (cs : List Str), vs = [v] ∧ Im H v (.tuple (cs.map .str)) ∧ (∀ x ∈ cs, idB x = true) ∧ cs.length ≤ 6 ∧ Q (.str (idsS cs)) H
theorem ok_ids_text (D : Def K mg "ids_text" s_ids_text ["ids"]) : Ok P w K mg base 1 "ids_text" ["ids"] spIdsT := by
  refine D.ok sc_ids_text (fun vs H Q E h => ?_) (fun cdv f A outer s H vs Q E hr h => ?_)
  · obtain ⟨v, cs, rfl, _⟩ := h
    rfl
  · obtain ⟨v, cs, rfl, hv, hcs, hcl, q⟩ := h
    obtain ⟨p, xs, rfl, hp, hxi⟩ := hv.tup'
    have hx := strsD hxi
    subst hx
    refine ⟨_, (pss_one (ps_ret (pe_ifExp (pt_truU K rfl (pv 0)) (pe_m1 PySem.F.slot_str_join PySem.F.type_str_join (mt_joinU K rfl) pe_str (pv 0)) pe_str))), ?_⟩
    have hsum := sum_ids hcs
    walk_at "rd"
    refine rd_tru ?_
    walk_at "rd"
    by_cases hne : cs = []
    · subst hne
      refine ⟨false, .inr (.inl ⟨_, SqT.of hp, rfl⟩), ?_⟩
      walk_at "rd"
      exact q
    · refine ⟨true, .inr (.inl ⟨_, SqT.of hp, by
        cases cs with
        | nil => exact absurd rfl hne
        | cons _ _ => rfl⟩), ?_⟩
      walk_at "rd"
      refine rd_joinT (SqT.of hp) (by
        rw [show (Str.ofString ",").length = 1 from by decide +kernel]
        omega) ?_
      rw [join_jn (s := 44) (by decide +kernel)]
      unfold idsS at q
      rw [if_neg hne] at q
      exact q
def spItemT : Sp := fun vs H Q _ => ∃ (v u : V) (s : Sl) (i : Itx), vs = [v, u] ∧ Im H v (slD s) ∧ Im H u (itD2 i) ∧ SlOk s ∧ ItOk2 s i ∧ Q (.str (jn 32 (itW s i))) H
theorem ok_item_text (D : Def K mg "item_text" s_item_text ["slot", "item"]) (G_ids_text : Ok P w K mg base 1 "ids_text" ["ids"] spIdsT) : Ok P w K mg base 2 "item_text" ["slot", "item"] spItemT := by
  refine D.ok sc_item_text (fun vs H Q E h => ?_) (fun cdv f A outer s H vs Q E hr h => ?_)
  · obtain ⟨v, u, s, i, rfl, _⟩ := h
    rfl
  · obtain ⟨v, u, sl, i, rfl, hv, hu, hs, hi, q⟩ := h
    obtain ⟨p, xs, rfl, hp, hxi⟩ := hu.tup'
    obtain ⟨v1, v2, v3, v4, v5, rfl, h1, h3⟩ : ∃ v1 v2 v3 v4 v5, xs = [v1, v2, v3, v4, v5] ∧ (Im H v1 (.tuple (i.c.map .str)) ∧ v2 = .int (i.li : Int)) ∧ Im H v3 (.tuple (i.g.map .str)) ∧ v4 = .int (i.a : Int) ∧ v5 = .int (i.b : Int) := by
      cases hxi with
      | cons a1 r => cases r with
        | cons a2 r => cases r with
          | cons a3 r => cases r with
            | cons a4 r => cases r with
              | cons a5 r =>
                cases r
                cases a2
                cases a4
                cases a5
                exact ⟨_, _, _, _, _, rfl, ⟨a1, rfl⟩, a3, rfl, rfl⟩
    obtain ⟨h1, rfl⟩ := h1
    obtain ⟨h3, rfl, rfl⟩ := h3
    refine ⟨_, (pss_cons (ps_asg (pv 1) (pg_tupU (n := 5) K rfl rfl (pgs_cons (pg_name (i := 2) sc_item_text.nd rfl (.inl rfl)) (pgs_cons (pg_name (i := 3) sc_item_text.nd rfl (.inl rfl)) (pgs_cons (pg_name (i := 4) sc_item_text.nd rfl (.inl rfl)) (pgs_cons (pg_name (i := 5) sc_item_text.nd rfl (.inl rfl)) (pgs_cons (pg_name (i := 6) sc_item_text.nd rfl (.inl rfl)) pgs_nil)))))))
   (pss_cons (ps_set (i := 7) sc_item_text.nd rfl (.inl rfl) (pe_fstr (.cons (pe_fmt (pe_callO G_ids_text (hr.mono (by decide)) (by rfl) (pa_cons (pv 2) pa_nil))) (.cons pe_str (.cons (pe_fmt (pv 3)) PJ.nil)))))
   (pss_cons (ps_if (pt_cmpR (op_eqU K rfl hr.units) (pe_ix (ix_U K rfl) (pv 0) pe_int (fun _ _ => rfl)) pe_str (nomark _)) (pss_one (ps_ret (pv 7))) pss_nil)
   (pss_one (ps_ret (pe_fstr (.cons (pe_fmt (pv 7)) (.cons pe_str (.cons (pe_fmt (pe_callO G_ids_text (hr.mono (by decide)) (by rfl) (pa_cons (pv 4) pa_nil))) (.cons pe_str (.cons (pe_fmt (pv 5)) (.cons pe_str (.cons (pe_fmt (pv 6)) PJ.nil))))))))))))), ?_⟩
    have hcl := ids_len hi.c
    have hgl := ids_len hi.g
    have hcl2 := hi.cl
    have hgl2 := hi.gl
    have hli := num_len hi.li
    have hla := num_len hi.a
    have hlb := num_len hi.b
    have n1 := hi.li
    have n2 := hi.a
    have n3 := hi.b
    walk_at "rdn"
    refine rd_seq ?_
    walk_at "rdn"
    refine rd_gtup (SqT.of hp) rfl (rd_gcons (rd_name (rd_gcons (rd_name (rd_gcons (rd_name (rd_gcons (rd_name (rd_gcons (rd_name (rd_gnil ?_)))))))))))
    walk_at "rdn"
    refine rd_seq ?_
    walk_at "rd"
    refine ⟨v1, i.c, rfl, h1, hi.c, hi.cl, ?_⟩
    walk_at "rd"
    walk_at "fssJ"
    walk_at "fscJ"
    walk_at "fsiJ"
    have eK : ((Str.empty ++ idsS i.c) ++ Str.ofString " life ") ++ Str.ofString (toString ((i.li : Nat) : Int)) = jn 32 [idsS i.c, Str.ofString "life", numS i.li] := sg_inj (by
      simp only [sg_app, sg_em, sg_c_life, sg_jn, sg_num, List.map, TL.joinL, sg_numS, sg_w_life]
      simp)
    rw [eK]
    obtain ⟨wd, r, e2, e3⟩ : ∃ wd r, slD sl = .tuple (.str wd :: r) ∧ (isH sl = true ↔ wd = Str.ofString "hosts") := by
      rcases sl_cases hs with ⟨wd, z, _, _, e2, _, e3⟩ | ⟨n, k, rfl⟩
      · exact ⟨wd, _, e2, e3⟩
      · exact ⟨_, _, rfl, by show (false = true ↔ Str.ofString "set" = Str.ofString "hosts"); decide +kernel⟩
    rw [e2] at hv
    have hkl : (jn 32 [idsS i.c, Str.ofString "life", numS i.li]).length ≤ 60 := by
      rw [← eK]
      simp only [app_len2, em_len, c_life_len]
      omega
    refine rd_ixSs (i := 0) hv (z := wd) (show atI (PyData.str wd :: r) ((0 : Nat) : Int) = some (PyData.str wd) from atI_nat rfl) ?_
    walk_at "rd"
    unfold itW at q
    refine rd_ite (fun c => ?_) (fun c => ?_)
    · have hb := e3.mpr c
      rw [if_pos hb] at q
      walk_at "rd"
      exact q
    · have hb : ¬ isH sl = true := fun z => c (e3.mp z)
      rw [if_neg hb] at q
      walk_at "rd"
      walk_at "fssJ"
      walk_at "fscJ"
      refine ⟨v3, i.g, rfl, h3, hi.g, hi.gl, ?_⟩
      walk_at "rd"
      walk_at "fssJ"
      walk_at "fscJ"
      walk_at "fsiJ"
      walk_at "fscJ"
      walk_at "fsiJ"
      have eW : ((((((Str.empty ++ jn 32 [idsS i.c, Str.ofString "life", numS i.li]) ++ Str.ofString " by ") ++ idsS i.g) ++ Str.ofString " from ") ++ Str.ofString (toString ((i.a : Nat) : Int))) ++ Str.ofString " to ") ++ Str.ofString (toString ((i.b : Nat) : Int)) = jn 32 [idsS i.c, Str.ofString "life", numS i.li, Str.ofString "by", idsS i.g, Str.ofString "from", numS i.a, Str.ofString "to", numS i.b] := sg_inj (by
        simp only [sg_app, sg_em, sg_c_by, sg_c_from, sg_c_to, sg_jn, sg_num, List.map, TL.joinL, sg_numS, sg_w_life, sg_w_by, sg_w_from, sg_w_to]
        simp)
      rw [eW]
      exact q
end

open PySem PySem.Spec PyProof.Rows L2
open PySem.W (EachIs)
section
variable {T : List (Addr × Str)} {P : Program} {w : World} {K : PySem.W.Frag} {mg : Str → Option Value} {base : Heap}
local macro_rules | `(tactic| walk_at "tr") => `(tactic| first
  | assumption
  | exact Ext.refl
  | ((with_reducible refine' Im.x (T := T) (H := ?trH) ?tra ?tre); (case tre => assumption); (case tra => walk_at "tr"))
  | ((with_reducible refine' Im.y (T := T) (H := ?trH) ?tra ?tre ?trt); (case tre => assumption); (case trt => walk_at "tr"); (case tra => walk_at "tr"))
  | ((with_reducible refine' ImAll.x (T := T) (H := ?trH) ?tra ?tre); (case tre => assumption); (case tra => walk_at "tr"))
  | ((with_reducible refine' ImAll.y (T := T) (H := ?trH) ?tra ?tre ?trt); (case tre => assumption); (case trt => walk_at "tr"); (case tra => walk_at "tr"))
  | ((with_reducible refine' Ls.x (T := T) (H := ?trH) ?tra ?tre); (case tre => assumption); (case tra => walk_at "tr"))
  | ((with_reducible refine' Ls.y (T := T) (H := ?trH) ?tra ?tre ?trn ?trt); (case tre => assumption); (case trt => walk_at "tr"); (case trn => walk_at "tr"); (case tra => walk_at "tr"))
  | ((with_reducible refine' SqP.x (T := T) (H := ?trH) ?tra ?tre); (case tre => assumption); (case tra => walk_at "tr"))
  | ((with_reducible refine' SqP.y (T := T) (H := ?trH) ?tra ?tre ?trt); (case tre => assumption); (case trt => walk_at "tr"); (case tra => walk_at "tr"))
  | ((with_reducible refine' StAt.x (T := T) (H := ?trH) ?tra ?tre); (case tre => assumption); (case tra => walk_at "tr"))
  | ((with_reducible refine' StAt.y (T := T) (H := ?trH) ?tra ?tre ?trt); (case tre => assumption); (case trt => walk_at "tr"); (case tra => walk_at "tr"))
  | ((with_reducible refine' Pools.ext0 (T := T) (H := ?trH) ?tra ?tre); (case tre => assumption); (case tra => walk_at "tr"))
  | ((with_reducible refine' Pools.ext (T := T) (H := ?trH) ?tra ?tre ?trt); (case tre => assumption); (case trt => walk_at "tr"); (case tra => walk_at "tr"))
  | ((with_reducible refine' CL.x (T := T) (H := ?trH) ?tra ?tre); (case tre => assumption); (case tra => walk_at "tr"))
  | ((with_reducible refine' CL.y (T := T) (H := ?trH) ?tra ?tre); (case tre => assumption); (case tra => walk_at "tr"))
  | ((with_reducible refine' Tape.ext (T := T) (H := ?trH) ?tra ?tre); (case tre => assumption); (case tra => walk_at "tr"))
  | ((with_reducible refine' lst.x (T := T) (H := ?trH) ?tra ?tre); (case tre => assumption); (case tra => walk_at "tr"))
  | ((with_reducible refine' lst.y (T := T) (H := ?trH) ?tra ?tre ?trn); (case tre => assumption); (case trn => walk_at "tr"); (case tra => walk_at "tr"))
  | ((with_reducible refine' tup.x (T := T) (H := ?trH) ?tra ?tre); (case tre => assumption); (case tra => walk_at "tr"))
  | ((with_reducible refine' tup.y (T := T) (H := ?trH) ?tra ?tre ?trt); (case tre => assumption); (case trt => walk_at "tr"); (case tra => walk_at "tr"))
  | ((with_reducible refine' frz.x (T := T) (H := ?trH) ?tra ?tre); (case tre => assumption); (case tra => walk_at "tr"))
  | ((with_reducible refine' frz.y (T := T) (H := ?trH) ?tra ?tre ?trt); (case tre => assumption); (case trt => walk_at "tr"); (case tra => walk_at "tr"))
  | ((with_reducible refine' Im.z (T := T) (H := ?trH) ?tra ?tre ?trt); (case tre => assumption); (case trt => assumption); (case tra => walk_at "tr"))
  | ((with_reducible refine' ImAll.z (T := T) (H := ?trH) ?tra ?tre ?trt); (case tre => assumption); (case trt => assumption); (case tra => walk_at "tr"))
  | ((with_reducible refine' StAt.z (T := T) (H := ?trH) ?tra ?tre ?trt); (case tre => assumption); (case trt => assumption); (case tra => walk_at "tr"))
  | ((with_reducible refine' SqP.z (T := T) (H := ?trH) ?tra ?tre ?trt); (case tre => assumption); (case trt => assumption); (case tra => walk_at "tr"))
  | ((with_reducible refine' tup.z (T := T) (H := ?trH) ?tra ?tre ?trt); (case tre => assumption); (case trt => assumption); (case tra => walk_at "tr"))
  | ((with_reducible refine' Ls.z (T := T) (H := ?trH) ?tra ?tre ?trt ?trn); (case tre => assumption); (case trt => assumption); (case trn => assumption); (case tra => walk_at "tr"))
  | ((with_reducible refine' lst.z (T := T) (H := ?trH) ?tra ?tre ?trn); (case tre => assumption); (case trn => assumption); (case tra => walk_at "tr"))
  | ((with_reducible refine' CL.z (T := T) (H := ?trH) ?tra ?tre ?trn); (case tre => assumption); (case trn => assumption); (case tra => walk_at "tr"))
  | ((with_reducible refine' Tape.ne1 (H := ?trH) ?trt ?trn); (case trn => assumption); (case trt => walk_at "tr"))
  | ((with_reducible refine' Ext.trans (H1 := ?trH) ?tra (Ext.any ?tre)); (case tre => assumption); (case tra => walk_at "tr"))
  | ((with_reducible refine' Ext.trans (H1 := ?trH) ?tra ?tre); (case tre => assumption); (case tra => walk_at "tr"))
  | ((with_reducible refine' Ext.back1 (T := T) (H1 := ?trH) ?tre ?trn ?tra); (case tra => assumption); (case trn => walk_at "tr"); (case tre => walk_at "tr"))
  | ((with_reducible refine' Ext.back0 (T := T) (H1 := ?trH) ?tre ?tra); (case tra => assumption); (case tre => walk_at "tr"))
  | ((with_reducible refine' SqT.of ?tra); (case tra => walk_at "tr"))
  | ((with_reducible refine' SqL.of ?tra); (case tra => walk_at "tr")))
local macro_rules | `(tactic| walk_at "al") => `(tactic| (refine ⟨by first | (show _ ≤ sizeLine; decide) | walk_at "sz", ?_⟩; intro alp aln; generalize alG : upd _ alp _ = alH; obtain ⟨aln2, alx, alh⟩ := al_of (T := T) aln alG; clear alG aln))
local macro_rules | `(tactic| walk_at "al0") => `(tactic| (intro alp aln; generalize alG : upd _ alp _ = alH; obtain ⟨aln2, alx, alh⟩ := al_of (T := T) aln alG; clear alG aln))

theorem slD_W (s : Sl) : slD s = .tuple ((slW s).map .str) := by cases s <;> rfl
theorem slW_len (s : Sl) : (slW s).length ≤ 3 := by
  cases s <;> simp [slW]
theorem slW_sum {s : Sl} (h : SlOk s) : ((slW s).map (·.length)).sum ≤ 60 := by
  have k1 : (Str.ofString "keys").length = 4 := by decide +kernel
  have k2 : (Str.ofString "link").length = 4 := by decide +kernel
  have k3 : (Str.ofString "hosts").length = 5 := by decide +kernel
  have k4 : (Str.ofString "set").length = 3 := by decide +kernel
  cases s with
  | k z =>
    have := name_len h
    show (Str.ofString "keys").length + (z.length + 0) ≤ 60
    omega
  | l z =>
    have := name_len h
    show (Str.ofString "link").length + (z.length + 0) ≤ 60
    omega
  | h z =>
    have := name_len h
    show (Str.ofString "hosts").length + (z.length + 0) ≤ 60
    omega
  | s n k =>
    have := name_len h.1
    have := NK.id_len h.2
    show (Str.ofString "set").length + (n.length + (k.length + 0)) ≤ 60
    omega
def spPlacedT : Sp := fun vs H Q _ => ∃ (v u : V) (s : Sl) (i : Itx), vs = [v, u] ∧ Im H v (slD s) ∧ Im H u (itD2 i) ∧ SlOk s ∧ ItOk2 s i ∧ Q (.str (jn 32 (slW s ++ Str.ofString "=" :: itW s i))) H
theorem itW_ne (s : Sl) (i : Itx) : itW s i ≠ [] := by
  unfold itW
  split <;> simp
theorem itW_jlen {s : Sl} {i : Itx} (h : ItOk2 s i) : (jn 32 (itW s i)).length ≤ 130 := by
  have h1 := ids_len h.c
  have h2 := ids_len h.g
  have h3 := numS_len h.li
  have h4 := numS_len h.a
  have h5 := numS_len h.b
  have h6 := h.cl
  have h7 := h.gl
  have h8 := jn_len 32 (itW s i)
  have w1 : (Str.ofString "life").length = 4 := by decide +kernel
  have w2 : (Str.ofString "by").length = 2 := by decide +kernel
  have w3 : (Str.ofString "from").length = 4 := by decide +kernel
  have w4 : (Str.ofString "to").length = 2 := by decide +kernel
  have h9 : ((itW s i).map (·.length)).sum ≤ 100 := by
    unfold itW
    split
    · show (idsS i.c).length + ((Str.ofString "life").length + ((numS i.li).length + 0)) ≤ 100
      omega
    · show (idsS i.c).length + ((Str.ofString "life").length + ((numS i.li).length + ((Str.ofString "by").length + ((idsS i.g).length + ((Str.ofString "from").length + ((numS i.a).length + ((Str.ofString "to").length + ((numS i.b).length + 0)))))))) ≤ 100
      omega
  have := itW_len s i
  omega
theorem ok_placed_text (D : Def K mg "placed_text" s_placed_text ["slot", "item"]) (G_item_text : Ok P w K mg base 2 "item_text" ["slot", "item"] spItemT) : Ok P w K mg base 3 "placed_text" ["slot", "item"] spPlacedT := by
  refine D.ok sc_placed_text (fun vs H Q E h => ?_) (fun cdv f A outer s H vs Q E hr h => ?_)
  · obtain ⟨v, u, s, i, rfl, _⟩ := h
    rfl
  · obtain ⟨v, u, sl, i, rfl, hv, hu, hs, hi, q⟩ := h
    have hv2 := hv
    rw [slD_W] at hv2
    obtain ⟨p, xs, rfl, hp, hxi⟩ := hv2.tup'
    have hx := strsD hxi
    subst hx
    refine ⟨_, (pss_one (ps_ret (pe_fstr (.cons (pe_fmt (pe_m1 PySem.F.slot_str_join PySem.F.type_str_join (mt_joinU K rfl) pe_str (pv 0))) (.cons pe_str (.cons (pe_fmt (pe_callO G_item_text (hr.mono (by decide)) (by rfl) (pa_cons (pv 0) (pa_cons (pv 1) pa_nil)))) PJ.nil)))))), ?_⟩
    have hsum := slW_sum hs
    have hsl := slW_len sl
    have hil := itW_jlen hi
    have hjl : (jn 32 (slW sl)).length ≤ 70 := by
      have := jn_len 32 (slW sl)
      omega
    have hsne : slW sl ≠ [] := by cases sl <;> simp [slW]
    walk_at "rd"
    refine rd_joinT (SqT.of hp) (by
      rw [show (Str.ofString " ").length = 1 from by decide +kernel]
      omega) ?_
    rw [join_jn (s := 32) (by decide +kernel)]
    walk_at "rd"
    refine fs_s (Nat.le_trans (show (jn 32 (slW sl)).length ≤ 100 by omega) (by decide)) ?_
    refine fs_y ⟨Nat.le_trans (show _ ≤ 100 by rw [app_len2, em_len]; omega) (by decide), ?_⟩
    walk_at "rd"
    refine ⟨Nat.le_trans (show _ ≤ 100 by rw [app_len2, app_len2, em_len, c_is_len]; omega) (by decide), ?_⟩
    walk_at "rd"
    refine ⟨.ref p, u, sl, i, rfl, hv, hu, hs, hi, ?_⟩
    walk_at "rd"
    refine fs_s (Nat.le_trans (show (jn 32 (itW sl i)).length ≤ 300 by omega) (by decide)) ?_
    refine fs_y ⟨Nat.le_trans (show _ ≤ 300 by rw [app_len2, app_len2, app_len2, em_len, c_is_len]; omega) (by decide), ?_⟩
    walk_at "rd"
    have e : ((Str.empty ++ jn 32 (slW sl)) ++ Str.ofString " = ") ++ jn 32 (itW sl i) = jn 32 (slW sl ++ Str.ofString "=" :: itW sl i) := by
      rw [jn_app 32 hsne (by simp), jn_cons 32 _ (itW_ne sl i)]
      refine sg_inj ?_
      simp only [sg_app, sg_em, sg_c_is, sg_S, sg_w_is]
      simp
    rw [e]
    exact q
theorem nums_sum : ∀ {ps : List Nat}, (∀ p ∈ ps, p < 100000) → ((ps.map numS).map (·.length)).sum ≤ 5 * ps.length
  | [], _ => Nat.le_refl _
  | c :: r, h => by
    have := nums_sum (ps := r) fun y hy => h y (List.mem_cons_of_mem _ hy)
    have := numS_len (h c List.mem_cons_self)
    simp only [List.map_cons, List.sum_cons, List.length_cons]
    omega
end

open PySem PySem.Spec PyProof.Rows L2
open PySem.W (EachIs)
section
variable {T : List (Addr × Str)} {P : Program} {w : World} {K : PySem.W.Frag} {mg : Str → Option Value} {base : Heap}
local macro_rules | `(tactic| walk_at "tr") => `(tactic| first
  | assumption
  | exact Ext.refl
  | ((with_reducible refine' Im.x (T := T) (H := ?trH) ?tra ?tre); (case tre => assumption); (case tra => walk_at "tr"))
  | ((with_reducible refine' Im.y (T := T) (H := ?trH) ?tra ?tre ?trt); (case tre => assumption); (case trt => walk_at "tr"); (case tra => walk_at "tr"))
  | ((with_reducible refine' ImAll.x (T := T) (H := ?trH) ?tra ?tre); (case tre => assumption); (case tra => walk_at "tr"))
  | ((with_reducible refine' ImAll.y (T := T) (H := ?trH) ?tra ?tre ?trt); (case tre => assumption); (case trt => walk_at "tr"); (case tra => walk_at "tr"))
  | ((with_reducible refine' Ls.x (T := T) (H := ?trH) ?tra ?tre); (case tre => assumption); (case tra => walk_at "tr"))
  | ((with_reducible refine' Ls.y (T := T) (H := ?trH) ?tra ?tre ?trn ?trt); (case tre => assumption); (case trt => walk_at "tr"); (case trn => walk_at "tr"); (case tra => walk_at "tr"))
  | ((with_reducible refine' SqP.x (T := T) (H := ?trH) ?tra ?tre); (case tre => assumption); (case tra => walk_at "tr"))
  | ((with_reducible refine' SqP.y (T := T) (H := ?trH) ?tra ?tre ?trt); (case tre => assumption); (case trt => walk_at "tr"); (case tra => walk_at "tr"))
  | ((with_reducible refine' StAt.x (T := T) (H := ?trH) ?tra ?tre); (case tre => assumption); (case tra => walk_at "tr"))
  | ((with_reducible refine' StAt.y (T := T) (H := ?trH) ?tra ?tre ?trt); (case tre => assumption); (case trt => walk_at "tr"); (case tra => walk_at "tr"))
  | ((with_reducible refine' Pools.ext0 (T := T) (H := ?trH) ?tra ?tre); (case tre => assumption); (case tra => walk_at "tr"))
  | ((with_reducible refine' Pools.ext (T := T) (H := ?trH) ?tra ?tre ?trt); (case tre => assumption); (case trt => walk_at "tr"); (case tra => walk_at "tr"))
  | ((with_reducible refine' CL.x (T := T) (H := ?trH) ?tra ?tre); (case tre => assumption); (case tra => walk_at "tr"))
  | ((with_reducible refine' CL.y (T := T) (H := ?trH) ?tra ?tre); (case tre => assumption); (case tra => walk_at "tr"))
  | ((with_reducible refine' Tape.ext (T := T) (H := ?trH) ?tra ?tre); (case tre => assumption); (case tra => walk_at "tr"))
  | ((with_reducible refine' lst.x (T := T) (H := ?trH) ?tra ?tre); (case tre => assumption); (case tra => walk_at "tr"))
  | ((with_reducible refine' lst.y (T := T) (H := ?trH) ?tra ?tre ?trn); (case tre => assumption); (case trn => walk_at "tr"); (case tra => walk_at "tr"))
  | ((with_reducible refine' tup.x (T := T) (H := ?trH) ?tra ?tre); (case tre => assumption); (case tra => walk_at "tr"))
  | ((with_reducible refine' tup.y (T := T) (H := ?trH) ?tra ?tre ?trt); (case tre => assumption); (case trt => walk_at "tr"); (case tra => walk_at "tr"))
  | ((with_reducible refine' frz.x (T := T) (H := ?trH) ?tra ?tre); (case tre => assumption); (case tra => walk_at "tr"))
  | ((with_reducible refine' frz.y (T := T) (H := ?trH) ?tra ?tre ?trt); (case tre => assumption); (case trt => walk_at "tr"); (case tra => walk_at "tr"))
  | ((with_reducible refine' Im.z (T := T) (H := ?trH) ?tra ?tre ?trt); (case tre => assumption); (case trt => assumption); (case tra => walk_at "tr"))
  | ((with_reducible refine' ImAll.z (T := T) (H := ?trH) ?tra ?tre ?trt); (case tre => assumption); (case trt => assumption); (case tra => walk_at "tr"))
  | ((with_reducible refine' StAt.z (T := T) (H := ?trH) ?tra ?tre ?trt); (case tre => assumption); (case trt => assumption); (case tra => walk_at "tr"))
  | ((with_reducible refine' SqP.z (T := T) (H := ?trH) ?tra ?tre ?trt); (case tre => assumption); (case trt => assumption); (case tra => walk_at "tr"))
  | ((with_reducible refine' tup.z (T := T) (H := ?trH) ?tra ?tre ?trt); (case tre => assumption); (case trt => assumption); (case tra => walk_at "tr"))
  | ((with_reducible refine' Ls.z (T := T) (H := ?trH) ?tra ?tre ?trt ?trn); (case tre => assumption); (case trt => assumption); (case trn => assumption); (case tra => walk_at "tr"))
  | ((with_reducible refine' lst.z (T := T) (H := ?trH) ?tra ?tre ?trn); (case tre => assumption); (case trn => assumption); (case tra => walk_at "tr"))
  | ((with_reducible refine' CL.z (T := T) (H := ?trH) ?tra ?tre ?trn); (case tre => assumption); (case trn => assumption); (case tra => walk_at "tr"))
  | ((with_reducible refine' Tape.ne1 (H := ?trH) ?trt ?trn); (case trn => assumption); (case trt => walk_at "tr"))
  | ((with_reducible refine' Ext.trans (H1 := ?trH) ?tra (Ext.any ?tre)); (case tre => assumption); (case tra => walk_at "tr"))
  | ((with_reducible refine' Ext.trans (H1 := ?trH) ?tra ?tre); (case tre => assumption); (case tra => walk_at "tr"))
  | ((with_reducible refine' Ext.back1 (T := T) (H1 := ?trH) ?tre ?trn ?tra); (case tra => assumption); (case trn => walk_at "tr"); (case tre => walk_at "tr"))
  | ((with_reducible refine' Ext.back0 (T := T) (H1 := ?trH) ?tre ?tra); (case tra => assumption); (case tre => walk_at "tr"))
  | ((with_reducible refine' SqT.of ?tra); (case tra => walk_at "tr"))
  | ((with_reducible refine' SqL.of ?tra); (case tra => walk_at "tr")))
local macro_rules | `(tactic| walk_at "al") => `(tactic| (refine ⟨by first | (show _ ≤ sizeLine; decide) | walk_at "sz", ?_⟩; intro alp aln; generalize alG : upd _ alp _ = alH; obtain ⟨aln2, alx, alh⟩ := al_of (T := T) aln alG; clear alG aln))
local macro_rules | `(tactic| walk_at "al0") => `(tactic| (intro alp aln; generalize alG : upd _ alp _ = alH; obtain ⟨aln2, alx, alh⟩ := al_of (T := T) aln alG; clear alG aln))

theorem ok_law_id (D : Def K mg "_law_id" s_law_id ["tape"]) (mb : ∀ x ∈ bltns, mg x = none) (G_law_take : Ok P w K mg base 2 "_law_take" ["tape", "many"] (spTake T)) : Ok P w K mg base 3 "_law_id" ["tape"] (spId T) := by
  refine D.ok sc_law_id (fun vs H Q E h => ?_) (fun cdv f A outer s H vs Q E hr h => ?_)
  · obtain ⟨l, t, rfl, _⟩ := h
    rfl
  · obtain ⟨l, t, rfl, hT, q⟩ := h
    refine ⟨_, (pss_cons (ps_set (i := 1) sc_law_id.nd rfl (.inl rfl) pe_str)
   (pss_cons (ps_set (i := 2) sc_law_id.nd rfl (.inl rfl) pe_str)
   (pss_cons (ps_for PassesOwn.never rfl (pi_range1 (by rfl) (mb _ (by decide)) (pa_cons (pe_op (op_plus K rfl) pe_int (pe_callO G_law_take (hr.mono (by decide)) (by rfl) (pa_cons (pv 0) (pa_cons pe_int pa_nil)))) pa_nil)) (pg_name (i := 3) sc_law_id.nd rfl (.inl rfl)) (pss_one (ps_set (i := 2) sc_law_id.nd rfl (.inl rfl) (pe_op (op_plus K rfl) (pv 2) (pe_ix (ix_U K rfl) (pv 1) (pe_callO G_law_take (hr.mono (by decide)) (by rfl) (pa_cons (pv 0) (pa_cons pe_int pa_nil))) (fun _ _ => rfl))))))
   (pss_one (ps_ret (pv 2)))))), ?_⟩
    walk_at "rd"
    refine ⟨l, t, 4, rfl, by decide, by decide, hT, fun d H1 hd0 hd1 e1 T1 => ?_⟩
    walk_at "rd"
    refine ⟨by omega, by omega, ?_⟩
    refine forg_range (fun i σ H' => Ext T [t] H H' ∧ Tape l H' t ∧ ∃ (z : Str) (k : Option V), σ = [some (.ref t), some (.str lettersS), some (.str z), k] ∧ z.length = i ∧ ∀ c ∈ sg z, c ∈ sg lettersS)
      ⟨e1, T1, _, none, rfl, by decide +kernel, by decide +kernel⟩ (fun i σ H' hi h => ?_) (fun σ H' h => ?_)
    · obtain ⟨e2, T2, z, k, rfl, hz, hc⟩ := h
      have hs36 : (sg lettersS).length = 36 := by decide +kernel
      walk_at "rd"
      refine ⟨l, t, 36, rfl, by decide, by decide, T2, fun d2 H2 h0 h1 e3 T3 => ?_⟩
      obtain ⟨c, hc1, _, hc2⟩ := at_in (l := sg lettersS) h0 (by omega)
      refine rd_ixS (by rw [← sg_len, hs36]; decide) hc1 ?_
      refine rd_plusS ?_ ⟨e2.trans e3, T3, _, _, rfl, ?_, ?_⟩
      · show z.length + 1 ≤ sizeLine
        exact Nat.le_trans (show _ ≤ 101 by omega) (by decide)
      · rw [app_len, hz]
        rfl
      · intro y hy
        rw [sg_app] at hy
        rcases List.mem_append.mp hy with h | h
        · exact hc y h
        · rw [List.mem_singleton.mp (show y ∈ [c] from h)]
          exact hc2
    · obtain ⟨e2, T2, z, k, rfl, hz, hc⟩ := h
      walk_at "rd"
      refine q z H' ?_ e2 T2
      unfold idB wordB
      rw [decide_eq_true (show (1 : Int) ≤ (z.length : Int) by omega), decide_eq_true (show (z.length : Int) ≤ 4 by omega)]
      rw [List.all_eq_true.mpr fun y hy => decide_eq_true (hc y hy)]
      rfl
theorem ok_law_label (D : Def K mg "_law_label" s_law_label ["tape"]) (mb : ∀ x ∈ bltns, mg x = none) (G_law_take : Ok P w K mg base 2 "_law_take" ["tape", "many"] (spTake T)) (G_law_id : Ok P w K mg base 3 "_law_id" ["tape"] (spId T)) : Ok P w K mg base 4 "_law_label" ["tape"] (spLabel T) := by
  refine D.ok sc_law_label (fun vs H Q E h => ?_) (fun cdv f A outer s H vs Q E hr h => ?_)
  · obtain ⟨l, t, rfl, _⟩ := h
    rfl
  · obtain ⟨l, t, rfl, hT, q⟩ := h
    refine ⟨_, (pss_cons (ps_set (i := 1) sc_law_label.nd rfl (.inl rfl) (pe_callO G_law_id (hr.mono (by decide)) (by rfl) (pa_cons (pv 0) pa_nil)))
   (pss_cons (ps_if (pt_cmpR (op_eqU K rfl hr.units) (pe_callO G_law_take (hr.mono (by decide)) (by rfl) (pa_cons (pv 0) (pa_cons pe_int pa_nil))) pe_int (nomark _)) (pss_one (ps_set (i := 1) sc_law_label.nd rfl (.inl rfl) (pe_op (op_plus K rfl) (pv 1) (pe_callO G_law_id (hr.mono (by decide)) (by rfl) (pa_cons (pv 0) pa_nil))))) pss_nil)
   (pss_one (ps_ret (pv 1))))), ?_⟩
    walk_at "rd"
    refine ⟨l, t, rfl, hT, fun z H1 hz e1 T1 => ?_⟩
    walk_at "rd"
    refine ⟨l, t, 4, rfl, by decide, by decide, T1, fun d H2 h0 h1 e2 T2 => ?_⟩
    walk_at "rd"
    refine rd_ite (fun h => ?_) (fun h => ?_)
    · walk_at "rd"
      refine ⟨l, t, rfl, T2, fun z2 H3 hz2 e3 T3 => ?_⟩
      have hl1 := id_len hz
      have hl2 := id_len hz2
      refine rd_plusS (Nat.le_trans (show z.length + z2.length ≤ 100 by omega) (by decide)) ?_
      walk_at "rd"
      exact q _ H3 (word_app hz hz2 (by decide)) ((e1.trans e2).trans e3) T3
    · walk_at "rd"
      exact q z H2 (word_mono hz (by decide)) (e1.trans e2) T2
def spLNum (T : List (Addr × Str)) : Sp := fun vs H Q _ => ∃ (l t : Addr), vs = [.ref t] ∧ Tape l H t ∧ ∀ (n : Nat) H', n < 100000 → Ext T [t] H H' → Tape l H' t → Q (.int (n : Int)) H'
theorem ok_law_number (D : Def K mg "_law_number" s_law_number ["tape"]) (G_law_take : Ok P w K mg base 2 "_law_take" ["tape", "many"] (spTake T)) : Ok P w K mg base 3 "_law_number" ["tape"] (spLNum T) := by
  refine D.ok sc_law_number (fun vs H Q E h => ?_) (fun cdv f A outer s H vs Q E hr h => ?_)
  · obtain ⟨l, t, rfl, _⟩ := h
    rfl
  · obtain ⟨l, t, rfl, hT, q⟩ := h
    refine ⟨_, (pss_one (ps_ret (pe_ix (ix_U K rfl) (pe_lst (pa_cons pe_int (pa_cons pe_int (pa_cons pe_int (pa_cons pe_int (pa_cons pe_int (pa_cons pe_int (pa_cons (pe_callO G_law_take (hr.mono (by decide)) (by rfl) (pa_cons (pv 0) (pa_cons pe_int pa_nil))) (pa_cons (pe_callO G_law_take (hr.mono (by decide)) (by rfl) (pa_cons (pv 0) (pa_cons pe_int pa_nil))) pa_nil))))))))) (pe_callO G_law_take (hr.mono (by decide)) (by rfl) (pa_cons (pv 0) (pa_cons pe_int pa_nil))) (fun _ _ => rfl)))), ?_⟩
    walk_at "rd"
    refine ⟨l, t, 100, rfl, by decide, by decide, hT, fun d1 H1 a0 a1 e1 T1 => ?_⟩
    walk_at "rd"
    refine ⟨l, t, 100000, rfl, by decide, by decide, T1, fun d2 H2 b0 b1 e2 T2 => ?_⟩
    walk_at "rd"
    refine rd_pickL (l := l) rfl T2 rfl (by decide) (by decide) fun c hc H3 e3 T3 => ?_
    have hc2 : ∃ k : Nat, c = .int (k : Int) ∧ k < 100000 := by
      rcases List.mem_cons.mp hc with e | hc
      · exact ⟨0, e, by decide⟩
      rcases List.mem_cons.mp hc with e | hc
      · exact ⟨1, e, by decide⟩
      rcases List.mem_cons.mp hc with e | hc
      · exact ⟨9, e, by decide⟩
      rcases List.mem_cons.mp hc with e | hc
      · exact ⟨10, e, by decide⟩
      rcases List.mem_cons.mp hc with e | hc
      · exact ⟨10000, e, by decide⟩
      rcases List.mem_cons.mp hc with e | hc
      · exact ⟨99999, e, by decide⟩
      rcases List.mem_cons.mp hc with e | hc
      · exact ⟨d1.toNat, by rw [e]; congr 1; omega, by omega⟩
      rcases List.mem_cons.mp hc with e | hc
      · exact ⟨d2.toNat, by rw [e]; congr 1; omega, by omega⟩
      cases hc
    obtain ⟨k, rfl, hk⟩ := hc2
    exact q k H3 hk (e1.trans (e2.trans e3)) T3
theorem join_name {ys : List Str} (hne : ys ≠ []) (hl : ys.length ≤ 4) (h : ∀ y ∈ ys, labelB y = true) : nameB (Txt.join dotS ys) = true := by
  rw [join_jn (s := 46) (by decide +kernel)]
  unfold nameB
  have : partsL (jn 46 ys) = ys := split_jn (by decide +kernel) (by decide +kernel) hne fun y hy => letters_fr (by decide +kernel) (h y hy)
  rw [this, decide_eq_true (show (ys.length : Int) ≤ 4 by omega), List.all_eq_true.mpr h]
  simp
theorem strs_ofQ {P : Str → Prop} : ∀ {vs : List V}, (∀ v ∈ vs, ∃ z : Str, v = .str z ∧ P z) → ∃ zs : List Str, vs = zs.map V.str ∧ ∀ z ∈ zs, P z
  | [], _ => ⟨[], rfl, fun _ h => nomatch h⟩
  | v :: r, h => by
    obtain ⟨zs, e, hz⟩ := strs_ofQ (vs := r) fun x hx => h x (List.mem_cons_of_mem _ hx)
    obtain ⟨z, e1, h1⟩ := h v List.mem_cons_self
    refine ⟨z :: zs, by rw [e, e1]; rfl, fun x hx => ?_⟩
    rcases List.mem_cons.mp hx with e2 | hx
    · rw [e2]
      exact h1
    · exact hz x hx
theorem labels_sum {ys : List Str} (h : ∀ y ∈ ys, labelB y = true) : (ys.map (·.length)).sum ≤ 8 * ys.length := by
  induction ys with
  | nil => exact Nat.le_refl _
  | cons x r ih =>
    have := ih fun y hy => h y (List.mem_cons_of_mem _ hy)
    have := label_len (h x List.mem_cons_self)
    simp only [List.map_cons, List.sum_cons, List.length_cons]
    omega
def spLName (T : List (Addr × Str)) : Sp := fun vs H Q _ => ∃ (l t : Addr), vs = [.ref t] ∧ Tape l H t ∧ ∀ z H', nameB z = true → Ext T [t] H H' → Tape l H' t → Q (.str z) H'
theorem ok_law_name (D : Def K mg "_law_name" s_law_name ["tape"]) (mb : ∀ x ∈ bltns, mg x = none) (G_law_take : Ok P w K mg base 2 "_law_take" ["tape", "many"] (spTake T)) (G_law_label : Ok P w K mg base 4 "_law_label" ["tape"] (spLabel T)) : Ok P w K mg base 5 "_law_name" ["tape"] (spLName T) := by
  refine D.ok sc_law_name (fun vs H Q E h => ?_) (fun cdv f A outer s H vs Q E hr h => ?_)
  · obtain ⟨l, t, rfl, _⟩ := h
    rfl
  · obtain ⟨l, t, rfl, hT, q⟩ := h
    refine ⟨_, (pss_cons (ps_set (i := 1) sc_law_name.nd rfl (.inl rfl) (pe_callO G_law_take (hr.mono (by decide)) (by rfl) (pa_cons (pv 0) (pa_cons pe_int pa_nil))))
   (pss_cons (ps_if (pt_cmpR (op_eqU K rfl hr.units) (pv 1) pe_int (nomark _)) (pss_one (ps_ret pe_str)) pss_nil)
   (pss_one (ps_ret (pe_m1 PySem.F.slot_str_join PySem.F.type_str_join (mt_joinU K rfl) pe_str (pe_lc (own := [("k", 2)]) (g := gName 2) (tt := tYes) rfl sc_law_name.nd (pi_range1 (by rfl) (mb _ (by decide)) (pa_cons (pv 1) pa_nil)) (blkOk_by (N := N_law_name) (sc := defScope s_law_name) (by decide +kernel)) (fun _ _ _ _ _ => (pg_name (i := 2) sc_law_name.nd rfl (Or.inl rfl))) (fun _ _ _ _ _ => pts_nil) (fun _ _ _ _ _ => (pe_callO G_law_label (hr.mono (by decide)) (by rfl) (pa_cons (pv 0) pa_nil))))))))), ?_⟩
    walk_at "rdn"
    refine rd_seq ?_
    walk_at "rd"
    refine ⟨l, t, 5, rfl, by decide, by decide, hT, fun d H1 a0 a1 e1 T1 => ?_⟩
    obtain ⟨d, rfl⟩ := Int.eq_ofNat_of_zero_le a0
    walk_at "rd"
    refine rd_ite (fun c => ?_) (fun c => ?_)
    · walk_at "rd"
      exact q _ _ dot_name e1 T1
    · walk_at "rd"
      refine ⟨by omega, by omega, ?_⟩
      rw [Int.toNat_natCast]
      refine lcg_range_tape T T1 (fun v => ∃ z : Str, v = .str z ∧ labelB z = true) (Nat.lt_of_le_of_lt (show d ≤ 4 by omega) (by decide)) (fun i H' hi e' T' Rk go => ?_) (fun pl H4 vs npl e4 T4 hpl hlen hall => ?_)
      · walk_at "rd"
        exact ⟨l, t, rfl, T', fun z H5 hz e5 T5 => go _ _ ⟨z, rfl, hz⟩ e5 T5⟩
      · obtain ⟨zs, rfl, hz⟩ := strs_ofQ hall
        rw [List.length_map] at hlen
        have hs := labels_sum hz
        walk_at "rd"
        refine rd_join (SqL.of hpl) (by
          rw [show (Str.ofString ".").length = 1 from by decide +kernel]
          omega) ?_
        exact q _ _ (join_name (fun z => by rw [z] at hlen; have : (0 : Nat) = d := hlen; omega) (by omega) hz) (e1.trans e4) T4
def spLSome (T : List (Addr × Str)) : Sp := fun vs H Q _ => ∃ (l t : Addr) (m : Nat), vs = [.ref t, .int (m : Int)] ∧ m ≤ 5 ∧ Tape l H t ∧ ∀ (v : V) (cs : List Str) (H' : Hp), (∀ x ∈ cs, idB x = true) → cs.length ≤ m → Im H' v (.tuple (cs.map .str)) → Ext T [t] H H' → Tape l H' t → Q v H'
theorem ok_law_some (D : Def K mg "_law_some" s_law_some ["tape", "most"]) (mb : ∀ x ∈ bltns, mg x = none) (G_law_take : Ok P w K mg base 2 "_law_take" ["tape", "many"] (spTake T)) (G_law_id : Ok P w K mg base 3 "_law_id" ["tape"] (spId T)) : Ok P w K mg base 4 "_law_some" ["tape", "most"] (spLSome T) := by
  refine D.ok sc_law_some (fun vs H Q E h => ?_) (fun cdv f A outer s H vs Q E hr h => ?_)
  · obtain ⟨l, t, m, rfl, _⟩ := h
    rfl
  · obtain ⟨l, t, m, rfl, hm, hT, q⟩ := h
    refine ⟨_, (pss_one (ps_ret (pe_callTy (call_tupU K rfl) (by rfl) (mb _ (by decide)) (by decide +kernel) (pa_cons (pe_lc (own := [("k", 2)]) (g := gName 2) (tt := tYes) rfl sc_law_some.nd (pi_range1 (by rfl) (mb _ (by decide)) (pa_cons (pe_callO G_law_take (hr.mono (by decide)) (by rfl) (pa_cons (pv 0) (pa_cons (pe_op (op_plus K rfl) (pv 1) pe_int) pa_nil))) pa_nil)) (blkOk_by (N := N_law_some) (sc := defScope s_law_some) (by decide +kernel)) (fun _ _ _ _ _ => (pg_name (i := 2) sc_law_some.nd rfl (Or.inl rfl))) (fun _ _ _ _ _ => pts_nil) (fun _ _ _ _ _ => (pe_callO G_law_id (hr.mono (by decide)) (by rfl) (pa_cons (pv 0) pa_nil)))) pa_nil)))), ?_⟩
    walk_at "rd"
    refine ⟨l, t, _, rfl, by omega, by omega, hT, fun d H1 a0 a1 e1 T1 => ?_⟩
    obtain ⟨d, rfl⟩ := Int.eq_ofNat_of_zero_le a0
    walk_at "rd"
    refine ⟨by omega, by omega, ?_⟩
    rw [Int.toNat_natCast]
    refine lcg_range_tape T T1 (fun v => ∃ z : Str, v = .str z ∧ idB z = true) (Nat.lt_of_le_of_lt (show d ≤ 5 by omega) (by decide)) (fun i H' hi e' T' Rk go => ?_) (fun pl H4 vs npl e4 T4 hpl hlen hall => ?_)
    · walk_at "rd"
      exact ⟨l, t, rfl, T', fun z H5 hz e5 T5 => go _ _ ⟨z, rfl, hz⟩ e5 T5⟩
    · obtain ⟨zs, rfl, hz⟩ := strs_ofQ hall
      rw [List.length_map] at hlen
      walk_at "rd"
      refine rd_tupL (SqL.of hpl) fun l2 nl2 => ?_
      obtain ⟨nl2, e7, hl2⟩ := alT (T := T) nl2 (zs.map V.str)
      exact q _ zs _ hz (by omega) (.tup hl2 (strs_imT fun x hx => id_ok (hz x hx))) (e1.trans (e4.trans e7.any)) (T4.ext e7)
def spLSlot (T : List (Addr × Str)) : Sp := fun vs H Q _ => ∃ (l t : Addr), vs = [.ref t] ∧ Tape l H t ∧ ∀ v s H', SlOk s → Im H' v (slD s) → Ext T [t] H H' → Tape l H' t → Q v H'
theorem ok_law_slot (D : Def K mg "_law_slot" s_law_slot ["tape"]) (mb : ∀ x ∈ bltns, mg x = none) (G_law_take : Ok P w K mg base 2 "_law_take" ["tape", "many"] (spTake T)) (G_law_name : Ok P w K mg base 5 "_law_name" ["tape"] (spLName T)) (G_law_id : Ok P w K mg base 3 "_law_id" ["tape"] (spId T)) : Ok P w K mg base 6 "_law_slot" ["tape"] (spLSlot T) := by
  refine D.ok sc_law_slot (fun vs H Q E h => ?_) (fun cdv f A outer s H vs Q E hr h => ?_)
  · obtain ⟨l, t, rfl, _⟩ := h
    rfl
  · obtain ⟨l, t, rfl, hT, q⟩ := h
    refine ⟨_, (pss_cons (ps_set (i := 1) sc_law_slot.nd rfl (.inl rfl) (pe_callO G_law_take (hr.mono (by decide)) (by rfl) (pa_cons (pv 0) (pa_cons pe_int pa_nil))))
   (pss_cons (ps_if (pt_cmpR op_gt (pv 1) pe_int (nomark _)) (pss_one (ps_ret (pe_tup (pa_cons pe_str (pa_cons (pe_callO G_law_name (hr.mono (by decide)) (by rfl) (pa_cons (pv 0) pa_nil)) (pa_cons (pe_callO G_law_id (hr.mono (by decide)) (by rfl) (pa_cons (pv 0) pa_nil)) pa_nil)))))) pss_nil)
   (pss_one (ps_ret (pe_tup (pa_cons (pe_ix (ix_U K rfl) (pe_lst (pa_cons pe_str (pa_cons pe_str (pa_cons pe_str pa_nil)))) (pv 1) (fun _ _ => rfl)) (pa_cons (pe_callO G_law_name (hr.mono (by decide)) (by rfl) (pa_cons (pv 0) pa_nil)) pa_nil))))))), ?_⟩
    walk_at "rdn"
    refine rd_seq ?_
    walk_at "rd"
    refine ⟨l, t, 5, rfl, by decide, by decide, hT, fun d H1 a0 a1 e1 T1 => ?_⟩
    walk_at "rd"
    refine rd_ite (fun c => ?_) (fun c => ?_)
    · walk_at "rd"
      refine ⟨l, t, rfl, T1, fun n H2 hn e2 T2 => ?_⟩
      walk_at "rd"
      refine ⟨l, t, rfl, T2, fun k H3 hk e3 T3 => ?_⟩
      walk_at "rd"
      refine ⟨by walk_at "sz", fun pr npr => ?_⟩
      obtain ⟨npr, x4, hpr⟩ := alT (T := T) npr [V.str (Str.ofString "set"), .str n, .str k]
      exact q _ (.s n k) _ ⟨hn, hk⟩ (.tup hpr (.cons (.str _ (by decide +kernel)) (.cons (.str _ (name_ok hn)) (.cons (.str _ (id_ok hk)) .nil)))) (e1.trans (e2.trans (e3.trans x4.any))) (T3.ext x4)
    · walk_at "rd"
      refine ⟨by walk_at "sz", fun p1 np1 => ?_⟩
      obtain ⟨np1, x1, hp1⟩ := alL (T := T) np1 [V.str (Str.ofString "keys"), .str (Str.ofString "link"), .str (Str.ofString "hosts")]
      have T1 := T1.ext x1
      generalize upd H1 p1 _ = H2 at x1 hp1 T1 ⊢
      have hd3 : d = 0 ∨ d = 1 ∨ d = 2 := by omega
      have fin : ∀ (wd : Str) (mk : Str → Sl), atI [V.str (Str.ofString "keys"), .str (Str.ofString "link"), .str (Str.ofString "hosts")] d = some (.str wd) → PyData.strOk wd = true → (∀ n, slD (mk n) = .tuple [.str wd, .str n]) → (∀ n, nameB n = true → SlOk (mk n)) → True := fun _ _ _ _ _ _ => trivial
      obtain ⟨wd, mk, f1, f2, f3, f4⟩ : ∃ (wd : Str) (mk : Str → Sl), atI [V.str (Str.ofString "keys"), .str (Str.ofString "link"), .str (Str.ofString "hosts")] d = some (.str wd) ∧ PyData.strOk wd = true ∧ (∀ n, slD (mk n) = .tuple [.str wd, .str n]) ∧ (∀ n, nameB n = true → SlOk (mk n)) := by
        rcases hd3 with rfl | rfl | rfl
        · exact ⟨Str.ofString "keys", .k, rfl, by decide +kernel, fun _ => rfl, fun _ h => h⟩
        · exact ⟨Str.ofString "link", .l, rfl, by decide +kernel, fun _ => rfl, fun _ h => h⟩
        · exact ⟨Str.ofString "hosts", .h, rfl, by decide +kernel, fun _ => rfl, fun _ h => h⟩
      walk_at "rd"
      refine rd_ixL (SqL.of hp1) f1 ?_
      walk_at "rd"
      refine ⟨l, t, rfl, T1, fun n H3 hn e3 T3 => ?_⟩
      walk_at "rd"
      refine ⟨by walk_at "sz", fun pr npr => ?_⟩
      obtain ⟨npr, x4, hpr⟩ := alT (T := T) npr [V.str wd, .str n]
      refine q _ (mk n) _ (f4 n hn) ?_ (e1.trans ((x1.any (ms := [t])).trans (e3.trans x4.any))) (T3.ext x4)
      rw [f3]
      exact .tup hpr (.cons (.str _ f2) (.cons (.str _ (name_ok hn)) .nil))
end

open PySem PySem.Spec PyProof.Rows L2
open PySem.W (EachIs)
section
variable {T : List (Addr × Str)} {P : Program} {w : World} {K : PySem.W.Frag} {mg : Str → Option Value} {base : Heap}
local macro_rules | `(tactic| walk_at "tr") => `(tactic| first
  | assumption
  | exact Ext.refl
  | ((with_reducible refine' Im.x (T := T) (H := ?trH) ?tra ?tre); (case tre => assumption); (case tra => walk_at "tr"))
  | ((with_reducible refine' Im.y (T := T) (H := ?trH) ?tra ?tre ?trt); (case tre => assumption); (case trt => walk_at "tr"); (case tra => walk_at "tr"))
  | ((with_reducible refine' ImAll.x (T := T) (H := ?trH) ?tra ?tre); (case tre => assumption); (case tra => walk_at "tr"))
  | ((with_reducible refine' ImAll.y (T := T) (H := ?trH) ?tra ?tre ?trt); (case tre => assumption); (case trt => walk_at "tr"); (case tra => walk_at "tr"))
  | ((with_reducible refine' Ls.x (T := T) (H := ?trH) ?tra ?tre); (case tre => assumption); (case tra => walk_at "tr"))
  | ((with_reducible refine' Ls.y (T := T) (H := ?trH) ?tra ?tre ?trn ?trt); (case tre => assumption); (case trt => walk_at "tr"); (case trn => walk_at "tr"); (case tra => walk_at "tr"))
  | ((with_reducible refine' SqP.x (T := T) (H := ?trH) ?tra ?tre); (case tre => assumption); (case tra => walk_at "tr"))
  | ((with_reducible refine' SqP.y (T := T) (H := ?trH) ?tra ?tre ?trt); (case tre => assumption); (case trt => walk_at "tr"); (case tra => walk_at "tr"))
  | ((with_reducible refine' StAt.x (T := T) (H := ?trH) ?tra ?tre); (case tre => assumption); (case tra => walk_at "tr"))
  | ((with_reducible refine' StAt.y (T := T) (H := ?trH) ?tra ?tre ?trt); (case tre => assumption); (case trt => walk_at "tr"); (case tra => walk_at "tr"))
  | ((with_reducible refine' Pools.ext0 (T := T) (H := ?trH) ?tra ?tre); (case tre => assumption); (case tra => walk_at "tr"))
  | ((with_reducible refine' Pools.ext (T := T) (H := ?trH) ?tra ?tre ?trt); (case tre => assumption); (case trt => walk_at "tr"); (case tra => walk_at "tr"))
  | ((with_reducible refine' CL.x (T := T) (H := ?trH) ?tra ?tre); (case tre => assumption); (case tra => walk_at "tr"))
  | ((with_reducible refine' CL.y (T := T) (H := ?trH) ?tra ?tre); (case tre => assumption); (case tra => walk_at "tr"))
  | ((with_reducible refine' Tape.ext (T := T) (H := ?trH) ?tra ?tre); (case tre => assumption); (case tra => walk_at "tr"))
  | ((with_reducible refine' lst.x (T := T) (H := ?trH) ?tra ?tre); (case tre => assumption); (case tra => walk_at "tr"))
  | ((with_reducible refine' lst.y (T := T) (H := ?trH) ?tra ?tre ?trn); (case tre => assumption); (case trn => walk_at "tr"); (case tra => walk_at "tr"))
  | ((with_reducible refine' tup.x (T := T) (H := ?trH) ?tra ?tre); (case tre => assumption); (case tra => walk_at "tr"))
  | ((with_reducible refine' tup.y (T := T) (H := ?trH) ?tra ?tre ?trt); (case tre => assumption); (case trt => walk_at "tr"); (case tra => walk_at "tr"))
  | ((with_reducible refine' frz.x (T := T) (H := ?trH) ?tra ?tre); (case tre => assumption); (case tra => walk_at "tr"))
  | ((with_reducible refine' frz.y (T := T) (H := ?trH) ?tra ?tre ?trt); (case tre => assumption); (case trt => walk_at "tr"); (case tra => walk_at "tr"))
  | ((with_reducible refine' Im.z (T := T) (H := ?trH) ?tra ?tre ?trt); (case tre => assumption); (case trt => assumption); (case tra => walk_at "tr"))
  | ((with_reducible refine' ImAll.z (T := T) (H := ?trH) ?tra ?tre ?trt); (case tre => assumption); (case trt => assumption); (case tra => walk_at "tr"))
  | ((with_reducible refine' StAt.z (T := T) (H := ?trH) ?tra ?tre ?trt); (case tre => assumption); (case trt => assumption); (case tra => walk_at "tr"))
  | ((with_reducible refine' SqP.z (T := T) (H := ?trH) ?tra ?tre ?trt); (case tre => assumption); (case trt => assumption); (case tra => walk_at "tr"))
  | ((with_reducible refine' tup.z (T := T) (H := ?trH) ?tra ?tre ?trt); (case tre => assumption); (case trt => assumption); (case tra => walk_at "tr"))
  | ((with_reducible refine' Ls.z (T := T) (H := ?trH) ?tra ?tre ?trt ?trn); (case tre => assumption); (case trt => assumption); (case trn => assumption); (case tra => walk_at "tr"))
  | ((with_reducible refine' lst.z (T := T) (H := ?trH) ?tra ?tre ?trn); (case tre => assumption); (case trn => assumption); (case tra => walk_at "tr"))
  | ((with_reducible refine' CL.z (T := T) (H := ?trH) ?tra ?tre ?trn); (case tre => assumption); (case trn => assumption); (case tra => walk_at "tr"))
  | ((with_reducible refine' Tape.ne1 (H := ?trH) ?trt ?trn); (case trn => assumption); (case trt => walk_at "tr"))
  | ((with_reducible refine' Ext.trans (H1 := ?trH) ?tra (Ext.any ?tre)); (case tre => assumption); (case tra => walk_at "tr"))
  | ((with_reducible refine' Ext.trans (H1 := ?trH) ?tra ?tre); (case tre => assumption); (case tra => walk_at "tr"))
  | ((with_reducible refine' Ext.back1 (T := T) (H1 := ?trH) ?tre ?trn ?tra); (case tra => assumption); (case trn => walk_at "tr"); (case tre => walk_at "tr"))
  | ((with_reducible refine' Ext.back0 (T := T) (H1 := ?trH) ?tre ?tra); (case tra => assumption); (case tre => walk_at "tr"))
  | ((with_reducible refine' SqT.of ?tra); (case tra => walk_at "tr"))
  | ((with_reducible refine' SqL.of ?tra); (case tra => walk_at "tr")))
local macro_rules | `(tactic| walk_at "al") => `(tactic| (refine ⟨by first | (show _ ≤ sizeLine; decide) | walk_at "sz", ?_⟩; intro alp aln; generalize alG : upd _ alp _ = alH; obtain ⟨aln2, alx, alh⟩ := al_of (T := T) aln alG; clear alG aln))
local macro_rules | `(tactic| walk_at "al0") => `(tactic| (intro alp aln; generalize alG : upd _ alp _ = alH; obtain ⟨aln2, alx, alh⟩ := al_of (T := T) aln alG; clear alG aln))

/-- a deed of a text -/
inductive Dx where
  | put (s : Sl) (i : Itx) | on (v z : Str) | off (v z : Str)
def dxD : Dx → PyData
  | .put s i => .tuple [.str (Str.ofString "put"), slD s, itD2 i]
  | .on v z => .tuple [.str (Str.ofString "on"), .str v, .str z]
  | .off v z => .tuple [.str (Str.ofString "off"), .str v, .str z]
def dxW : Dx → List Str
  | .put s i => Str.ofString "put" :: (slW s ++ Str.ofString "=" :: itW s i)
  | .on v z => [Str.ofString "on", v, z]
  | .off v z => [Str.ofString "off", v, z]
def DxOk : Dx → Prop
  | .put s i => SlOk s ∧ ItOk2 s i
  | .on v z => idB v = true ∧ nameB z = true
  | .off v z => idB v = true ∧ nameB z = true
theorem dxW_len (d : Dx) : (dxW d).length ≤ 14 := by
  cases d with
  | put s i =>
    have h1 := itW_len s i
    have h2 : (slW s).length ≤ 3 := by cases s <;> simp [slW]
    show ((slW s ++ Str.ofString "=" :: itW s i).length + 1) ≤ 14
    rw [List.length_append, List.length_cons]
    omega
  | on v z => show 3 ≤ 14; decide
  | off v z => show 3 ≤ 14; decide
def spRDeed (T : List (Addr × Str)) : Sp := fun vs H Q _ => ∃ (a : Addr) (d : Dx), vs = [.ref a] ∧ H a = some (.lst ((dxW d).map V.str)) ∧ DxOk d ∧ ∀ v H', Ext T [] H H' → Im H' v (dxD d) → Q v H'
theorem ok_read_deed (D : Def K mg "read_deed" s_read_deed ["words"]) (mb : ∀ x ∈ bltns, mg x = none) (G_read_placed : Ok P w K mg base 7 "read_placed" ["words"] (spPlaced T)) (G_read_id : Ok P w K mg base 3 "read_id" ["word"] (spRId T)) (G_read_name : Ok P w K mg base 4 "read_name" ["word"] (spRName T)) : Ok P w K mg base 8 "read_deed" ["words"] (spRDeed T) := by
  refine D.ok sc_read_deed (fun vs H Q E h => ?_) (fun cdv f A outer s H vs Q E hr h => ?_)
  · obtain ⟨a, d, rfl, _⟩ := h
    rfl
  · obtain ⟨a, d, rfl, ha, hd, q⟩ := h
    refine ⟨_, (pss_cons (ps_if (pt_cmpR (op_eqU K rfl hr.units) (pe_slice (sl_U K rfl) (pv 0) po_none (po_some pe_int)) (pe_lst (pa_cons pe_str pa_nil)) (nomark _)) (pss_cons (ps_asg (pe_callO G_read_placed (hr.mono (by decide)) (by rfl) (pa_cons (pe_slice (sl_U K rfl) (pv 0) (po_some pe_int) po_none) pa_nil)) (pg_tupU (n := 2) K rfl rfl (pgs_cons (pg_name (i := 1) sc_read_deed.nd rfl (.inl rfl)) (pgs_cons (pg_name (i := 2) sc_read_deed.nd rfl (.inl rfl)) pgs_nil))))
   (pss_one (ps_ret (pe_tup (pa_cons pe_str (pa_cons (pv 1) (pa_cons (pv 2) pa_nil))))))) pss_nil)
   (pss_cons (ps_if (PW.pt (pw_and (pt_cmpR (op_eqU K rfl hr.units) (pe_callB (call_lenU K rfl) (by rfl) (mb _ (by decide)) (by decide +kernel) (pa_cons (pv 0) pa_nil)) pe_int (nomark _)) (pw_and1 (pt_cmpR (op_inW K rfl (Room.units65 hr)) (pe_ix (ix_U K rfl) (pv 0) pe_int (fun _ _ => rfl)) (pe_tup (pa_cons pe_str (pa_cons pe_str pa_nil))) rfl)))) (pss_one (ps_ret (pe_tup (pa_cons (pe_ix (ix_U K rfl) (pv 0) pe_int (fun _ _ => rfl)) (pa_cons (pe_callO G_read_id (hr.mono (by decide)) (by rfl) (pa_cons (pe_ix (ix_U K rfl) (pv 0) pe_int (fun _ _ => rfl)) pa_nil)) (pa_cons (pe_callO G_read_name (hr.mono (by decide)) (by rfl) (pa_cons (pe_ix (ix_U K rfl) (pv 0) pe_int (fun _ _ => rfl)) pa_nil)) pa_nil)))))) pss_nil)
   (pss_one ps_never))), ?_⟩
    have okp : ∀ z ∈ [Str.ofString "put"], PyData.strOk z = true := by
      intro z hz
      rw [List.mem_singleton.mp hz]
      decide +kernel
    have hl := dxW_len d
    have hh : ∃ h0 t0, dxW d = h0 :: t0 ∧ PyData.strOk h0 = true := by
      cases d with
      | put s i => exact ⟨_, _, rfl, by decide +kernel⟩
      | on v z => exact ⟨_, _, rfl, by decide +kernel⟩
      | off v z => exact ⟨_, _, rfl, by decide +kernel⟩
    obtain ⟨h0, t0, e0, hk0⟩ := hh
    have hml : ((dxW d).map V.str).length ≤ 30 := by
      rw [List.length_map]
      omega
    walk_at "rd"
    refine rd_slL (SqL.of ha) fun p1 np1 => ?_
    have ec : cutV ((dxW d).map V.str) none (some 1) = [V.str h0] := by
      rw [cutV_to _ (by decide), e0]
      rfl
    rw [ec]
    obtain ⟨np1, x1, hp1⟩ := alL (T := T) np1 [V.str h0]
    generalize upd H p1 _ = H1 at x1 hp1 ⊢
    walk_at "rd"
    refine ⟨by walk_at "sz", fun p2 np2 => ?_⟩
    obtain ⟨np2, x2, hp2⟩ := alL (T := T) np2 [V.str (Str.ofString "put")]
    have hp1 := lst.x hp1 x2
    have ha := lst.x (lst.x ha x1) x2
    generalize upd H1 p2 _ = H2 at x2 hp1 hp2 ha ⊢
    refine rd_eqLsG (ls_str (zs := [h0]) hp1 (by intro z hz; rw [List.mem_singleton.mp hz]; exact hk0)) (ls_str (zs := [Str.ofString "put"]) hp2 okp) (dep_lstr [h0]) (dep_lstr [Str.ofString "put"]) strs_eq ?_
    have hx := x1.trans x2
    clear x1 x2 hp1 hp2 np1 np2 ec
    cases d with
    | put sl i =>
      have ez : h0 = Str.ofString "put" := (List.cons.inj e0).1.symm
      subst ez
      rw [decide_eq_true rfl]
      walk_at "rd"
      refine rd_slL (SqL.of ha) fun p3 np3 => ?_
      have ec : cutV ((dxW (.put sl i)).map V.str) (some 1) none = (slW sl ++ Str.ofString "=" :: itW sl i).map V.str := by
        rw [cutV_strs _ (by decide)]
        rfl
      rw [ec]
      obtain ⟨np3, x3, hp3⟩ := alL (T := T) np3 ((slW sl ++ Str.ofString "=" :: itW sl i).map V.str)
      generalize upd H2 p3 _ = H3 at x3 hp3 ⊢
      walk_at "rd"
      refine ⟨p3, sl, i, rfl, hp3, hd.1, hd.2, fun t v u H4 x4 ht hv hu => ?_⟩
      refine rd_gtup (SqT.of ht) rfl (rd_gcons (rd_name (rd_gcons (rd_name (rd_gnil ?_)))))
      walk_at "rd"
      refine ⟨by walk_at "sz", fun pr npr => ?_⟩
      obtain ⟨npr, x5, hpr⟩ := alT (T := T) npr [V.str (Str.ofString "put"), v, u]
      exact q _ _ (hx.trans (x3.trans (x4.trans x5))) (.tup hpr (.cons (.str _ (by decide +kernel)) (.cons (hv.x x5) (.cons (hu.x x5) .nil))))
    | on v z =>
      have ez : h0 = Str.ofString "on" := (List.cons.inj e0).1.symm
      subst ez
      rw [decide_eq_false (by decide +kernel)]
      have ha : H2 a = some (.lst [V.str (Str.ofString "on"), V.str v, V.str z]) := ha
      walk_at "rd"
      refine rd_ite (fun c => ?_) (fun c => absurd (show (([V.str (Str.ofString "on"), V.str v, V.str z].length : Nat) : Int) = 3 from rfl) c)
      walk_at "rd"
      refine ⟨by walk_at "sz", fun pt npt => ?_⟩
      obtain ⟨npt, x3, hpt⟩ := alT (T := T) npt [V.str (Str.ofString "on"), .str (Str.ofString "off")]
      have ha := lst.x ha x3
      generalize upd H2 pt _ = H3 at x3 hpt ha ⊢
      refine rd_inWt (zs := [Str.ofString "on", Str.ofString "off"]) (SqT.of hpt) ?_
      rw [decide_eq_true (by simp)]
      walk_at "rd"
      refine ⟨v, rfl, hd.1, fun H4 x4 => ?_⟩
      have ha := lst.x ha x4
      walk_at "rd"
      refine ⟨z, rfl, hd.2, fun H5 x5 => ?_⟩
      walk_at "rd"
      refine ⟨by walk_at "sz", fun pr npr => ?_⟩
      obtain ⟨npr, x6, hpr⟩ := alT (T := T) npr [V.str (Str.ofString "on"), .str v, .str z]
      exact q _ _ (hx.trans (x3.trans (x4.trans (x5.trans x6)))) (.tup hpr (.cons (.str _ (by decide +kernel)) (.cons (.str _ (id_ok hd.1)) (.cons (.str _ (name_ok hd.2)) .nil))))
    | off v z =>
      have ez : h0 = Str.ofString "off" := (List.cons.inj e0).1.symm
      subst ez
      rw [decide_eq_false (by decide +kernel)]
      have ha : H2 a = some (.lst [V.str (Str.ofString "off"), V.str v, V.str z]) := ha
      walk_at "rd"
      refine rd_ite (fun c => ?_) (fun c => absurd (show (([V.str (Str.ofString "off"), V.str v, V.str z].length : Nat) : Int) = 3 from rfl) c)
      walk_at "rd"
      refine ⟨by walk_at "sz", fun pt npt => ?_⟩
      obtain ⟨npt, x3, hpt⟩ := alT (T := T) npt [V.str (Str.ofString "on"), .str (Str.ofString "off")]
      have ha := lst.x ha x3
      generalize upd H2 pt _ = H3 at x3 hpt ha ⊢
      refine rd_inWt (zs := [Str.ofString "on", Str.ofString "off"]) (SqT.of hpt) ?_
      rw [decide_eq_true (by simp)]
      walk_at "rd"
      refine ⟨v, rfl, hd.1, fun H4 x4 => ?_⟩
      have ha := lst.x ha x4
      walk_at "rd"
      refine ⟨z, rfl, hd.2, fun H5 x5 => ?_⟩
      walk_at "rd"
      refine ⟨by walk_at "sz", fun pr npr => ?_⟩
      obtain ⟨npr, x6, hpr⟩ := alT (T := T) npr [V.str (Str.ofString "off"), .str v, .str z]
      exact q _ _ (hx.trans (x3.trans (x4.trans (x5.trans x6)))) (.tup hpr (.cons (.str _ (by decide +kernel)) (.cons (.str _ (id_ok hd.1)) (.cons (.str _ (name_ok hd.2)) .nil))))
theorem mt_star2 {Q : Option (List V) → Hp → Prop} {H : Hp} {ts : TPs} {x y : V} {r : List V} {a : Addr} (ha : H a = some (.lst (x :: y :: r))) (hl : r.length ≤ 900) (q : ∀ D, H D = none → ts [x, y, .ref D] (upd H D (.lst r)) Q) : tpSeqS K 3 2 ts (.ref a) H Q := by
  refine mt_seqS (SqL.of ha) (by simp only [List.length_cons]; omega) (by simp only [List.length_cons]; omega) fun D nD => ?_
  have e1 : (x :: y :: r).length + 1 - 3 = r.length := by simp only [List.length_cons]; omega
  rw [e1]
  show ts ([x, y] ++ .ref D :: r.drop r.length) (upd H D (.lst (r.take r.length))) Q
  rw [List.drop_length, List.take_length]
  exact q D nD
/-- a line of a plan -/
def stepW (r : Nat × Dx) : List Str := Str.ofString "at" :: numS r.1 :: dxW r.2
def stepD (r : Nat × Dx) : PyData := .tuple [.int ((r.1 : Nat) : Int), dxD r.2]
def StepOk (r : Nat × Dx) : Prop := r.1 < 100000 ∧ DxOk r.2
def spRStep (T : List (Addr × Str)) : Sp := fun vs H Q _ => ∃ (a : Addr) (r : Nat × Dx), vs = [.ref a] ∧ H a = some (.lst ((stepW r).map V.str)) ∧ StepOk r ∧ ∀ v H', Ext T [] H H' → Im H' v (stepD r) → Q v H'
theorem ok_read_step (D : Def K mg "read_step" s_read_step ["words"]) (mb : ∀ x ∈ bltns, mg x = none) (G_read_number : Ok P w K mg base 3 "read_number" ["word"] (spRNum T)) (G_read_deed : Ok P w K mg base 8 "read_deed" ["words"] (spRDeed T)) : Ok P w K mg base 9 "read_step" ["words"] (spRStep T) := by
  refine D.ok sc_read_step (fun vs H Q E h => ?_) (fun cdv f A outer s H vs Q E hr h => ?_)
  · obtain ⟨a, r, rfl, _⟩ := h
    rfl
  · obtain ⟨a, r, rfl, ha, hok, q⟩ := h
    refine ⟨_, (pss_one (ps_match (pv 0) (pc_cons (pm_seqS (i := 2) K rfl rfl (pms_cons (pm_str K rfl hr.units) (pms_cons pm_name (pms_star pms_nil)))) sc_read_step.nd (.cons (i := 1) rfl (.inl rfl) (by first | exact .inl rfl | exact .inr rfl) (.cons (i := 2) rfl (.inl rfl) (by first | exact .inl rfl | exact .inr rfl) .nil)) (pss_one (ps_ret (pe_tup (pa_cons (pe_callO G_read_number (hr.mono (by decide)) (by rfl) (pa_cons (pv 1) pa_nil)) (pa_cons (pe_callO G_read_deed (hr.mono (by decide)) (by rfl) (pa_cons (pv 2) pa_nil)) pa_nil)))))
   (pc_cons pm_any sc_read_step.nd .nil (pss_one ps_never)
   pc_nil)))), ?_⟩
    have hl := dxW_len r.2
    have ha : H a = some (.lst (V.str (Str.ofString "at") :: .str (numS r.1) :: (dxW r.2).map V.str)) := ha
    have hml : ((dxW r.2).map V.str).length ≤ 30 := by
      rw [List.length_map]
      omega
    refine rd_match ?_
    walk_at "rdn"
    refine mt_case ?_
    refine mt_star2 ha (by omega) fun D1 nD1 => mt_eq (mt_nm ⟨_, _, rfl, rfl, ?_⟩)
    dsimp only [setL]
    obtain ⟨nD1, x1, hD1⟩ := alL (T := T) nD1 ((dxW r.2).map V.str)
    generalize upd H D1 _ = H1 at x1 hD1 ⊢
    walk_at "rd"
    refine ⟨r.1, rfl, hok.1, fun H2 x2 => ?_⟩
    have hD1 := lst.x hD1 x2
    walk_at "rd"
    refine ⟨D1, r.2, rfl, hD1, hok.2, fun v H3 x3 hv => ?_⟩
    walk_at "rd"
    refine ⟨by walk_at "sz", fun pr npr => ?_⟩
    obtain ⟨npr, x4, hpr⟩ := alT (T := T) npr [V.int ((r.1 : Nat) : Int), v]
    exact q _ _ (x1.trans (x2.trans (x3.trans x4))) (.tup hpr (.cons (.int _) (.cons (hv.x x4) .nil)))
end

open PySem PySem.Spec PyProof.Rows L2
open PySem.W (EachIs)
section
variable {T : List (Addr × Str)} {P : Program} {w : World} {K : PySem.W.Frag} {mg : Str → Option Value} {base : Heap}
local macro_rules | `(tactic| walk_at "tr") => `(tactic| first
  | assumption
  | exact Ext.refl
  | ((with_reducible refine' Im.x (T := T) (H := ?trH) ?tra ?tre); (case tre => assumption); (case tra => walk_at "tr"))
  | ((with_reducible refine' Im.y (T := T) (H := ?trH) ?tra ?tre ?trt); (case tre => assumption); (case trt => walk_at "tr"); (case tra => walk_at "tr"))
  | ((with_reducible refine' ImAll.x (T := T) (H := ?trH) ?tra ?tre); (case tre => assumption); (case tra => walk_at "tr"))
  | ((with_reducible refine' ImAll.y (T := T) (H := ?trH) ?tra ?tre ?trt); (case tre => assumption); (case trt => walk_at "tr"); (case tra => walk_at "tr"))
  | ((with_reducible refine' Ls.x (T := T) (H := ?trH) ?tra ?tre); (case tre => assumption); (case tra => walk_at "tr"))
  | ((with_reducible refine' Ls.y (T := T) (H := ?trH) ?tra ?tre ?trn ?trt); (case tre => assumption); (case trt => walk_at "tr"); (case trn => walk_at "tr"); (case tra => walk_at "tr"))
  | ((with_reducible refine' SqP.x (T := T) (H := ?trH) ?tra ?tre); (case tre => assumption); (case tra => walk_at "tr"))
  | ((with_reducible refine' SqP.y (T := T) (H := ?trH) ?tra ?tre ?trt); (case tre => assumption); (case trt => walk_at "tr"); (case tra => walk_at "tr"))
  | ((with_reducible refine' StAt.x (T := T) (H := ?trH) ?tra ?tre); (case tre => assumption); (case tra => walk_at "tr"))
  | ((with_reducible refine' StAt.y (T := T) (H := ?trH) ?tra ?tre ?trt); (case tre => assumption); (case trt => walk_at "tr"); (case tra => walk_at "tr"))
  | ((with_reducible refine' Pools.ext0 (T := T) (H := ?trH) ?tra ?tre); (case tre => assumption); (case tra => walk_at "tr"))
  | ((with_reducible refine' Pools.ext (T := T) (H := ?trH) ?tra ?tre ?trt); (case tre => assumption); (case trt => walk_at "tr"); (case tra => walk_at "tr"))
  | ((with_reducible refine' CL.x (T := T) (H := ?trH) ?tra ?tre); (case tre => assumption); (case tra => walk_at "tr"))
  | ((with_reducible refine' CL.y (T := T) (H := ?trH) ?tra ?tre); (case tre => assumption); (case tra => walk_at "tr"))
  | ((with_reducible refine' Tape.ext (T := T) (H := ?trH) ?tra ?tre); (case tre => assumption); (case tra => walk_at "tr"))
  | ((with_reducible refine' lst.x (T := T) (H := ?trH) ?tra ?tre); (case tre => assumption); (case tra => walk_at "tr"))
  | ((with_reducible refine' lst.y (T := T) (H := ?trH) ?tra ?tre ?trn); (case tre => assumption); (case trn => walk_at "tr"); (case tra => walk_at "tr"))
  | ((with_reducible refine' tup.x (T := T) (H := ?trH) ?tra ?tre); (case tre => assumption); (case tra => walk_at "tr"))
  | ((with_reducible refine' tup.y (T := T) (H := ?trH) ?tra ?tre ?trt); (case tre => assumption); (case trt => walk_at "tr"); (case tra => walk_at "tr"))
  | ((with_reducible refine' frz.x (T := T) (H := ?trH) ?tra ?tre); (case tre => assumption); (case tra => walk_at "tr"))
  | ((with_reducible refine' frz.y (T := T) (H := ?trH) ?tra ?tre ?trt); (case tre => assumption); (case trt => walk_at "tr"); (case tra => walk_at "tr"))
  | ((with_reducible refine' Im.z (T := T) (H := ?trH) ?tra ?tre ?trt); (case tre => assumption); (case trt => assumption); (case tra => walk_at "tr"))
  | ((with_reducible refine' ImAll.z (T := T) (H := ?trH) ?tra ?tre ?trt); (case tre => assumption); (case trt => assumption); (case tra => walk_at "tr"))
  | ((with_reducible refine' StAt.z (T := T) (H := ?trH) ?tra ?tre ?trt); (case tre => assumption); (case trt => assumption); (case tra => walk_at "tr"))
  | ((with_reducible refine' SqP.z (T := T) (H := ?trH) ?tra ?tre ?trt); (case tre => assumption); (case trt => assumption); (case tra => walk_at "tr"))
  | ((with_reducible refine' tup.z (T := T) (H := ?trH) ?tra ?tre ?trt); (case tre => assumption); (case trt => assumption); (case tra => walk_at "tr"))
  | ((with_reducible refine' Ls.z (T := T) (H := ?trH) ?tra ?tre ?trt ?trn); (case tre => assumption); (case trt => assumption); (case trn => assumption); (case tra => walk_at "tr"))
  | ((with_reducible refine' lst.z (T := T) (H := ?trH) ?tra ?tre ?trn); (case tre => assumption); (case trn => assumption); (case tra => walk_at "tr"))
  | ((with_reducible refine' CL.z (T := T) (H := ?trH) ?tra ?tre ?trn); (case tre => assumption); (case trn => assumption); (case tra => walk_at "tr"))
  | ((with_reducible refine' Tape.ne1 (H := ?trH) ?trt ?trn); (case trn => assumption); (case trt => walk_at "tr"))
  | ((with_reducible refine' Ext.trans (H1 := ?trH) ?tra (Ext.any ?tre)); (case tre => assumption); (case tra => walk_at "tr"))
  | ((with_reducible refine' Ext.trans (H1 := ?trH) ?tra ?tre); (case tre => assumption); (case tra => walk_at "tr"))
  | ((with_reducible refine' Ext.back1 (T := T) (H1 := ?trH) ?tre ?trn ?tra); (case tra => assumption); (case trn => walk_at "tr"); (case tre => walk_at "tr"))
  | ((with_reducible refine' Ext.back0 (T := T) (H1 := ?trH) ?tre ?tra); (case tra => assumption); (case tre => walk_at "tr"))
  | ((with_reducible refine' SqT.of ?tra); (case tra => walk_at "tr"))
  | ((with_reducible refine' SqL.of ?tra); (case tra => walk_at "tr")))
local macro_rules | `(tactic| walk_at "al") => `(tactic| (refine ⟨by first | (show _ ≤ sizeLine; decide) | walk_at "sz", ?_⟩; intro alp aln; generalize alG : upd _ alp _ = alH; obtain ⟨aln2, alx, alh⟩ := al_of (T := T) aln alG; clear alG aln))
local macro_rules | `(tactic| walk_at "al0") => `(tactic| (intro alp aln; generalize alG : upd _ alp _ = alH; obtain ⟨aln2, alx, alh⟩ := al_of (T := T) aln alG; clear alG aln))

/-- a line of a case -/
inductive CR where
  | zone (z : Str) (n : Nat) | anchor (k : Str) | set (n k : Str) | item (s : Sl) (i : Itx) | on (v z : Str) | deed (a b : Nat) (d : Dx) | before (a b : Nat) | fin (m : Nat)
def crG : CR → Nat
  | .zone _ _ => 0
  | .anchor _ => 1
  | .set _ _ => 2
  | .item _ _ => 3
  | .on _ _ => 4
  | .deed _ _ _ => 5
  | .before _ _ => 6
  | .fin _ => 7
def crW : CR → List Str
  | .zone z n => [Str.ofString "zone", z, Str.ofString "lag", numS n]
  | .anchor k => [Str.ofString "anchor", k]
  | .set n k => [Str.ofString "set", n, k]
  | .item s i => slW s ++ Str.ofString "=" :: itW s i
  | .on v z => [Str.ofString "on", v, z]
  | .deed a b d => Str.ofString "deed" :: numS a :: numS b :: dxW d
  | .before a b => [Str.ofString "before", numS a, numS b]
  | .fin m => [Str.ofString "end", numS m]
def crD : CR → PyData
  | .zone z n => .tuple [.str z, .int ((n : Nat) : Int)]
  | .anchor k => .str k
  | .set n k => .tuple [.str n, .str k]
  | .item s i => .tuple [slD s, itD2 i]
  | .on v z => .tuple [.str v, .str z]
  | .deed a b d => .tuple [dxD d, .tuple [.int ((a : Nat) : Int), .int ((b : Nat) : Int)]]
  | .before a b => .tuple [.int ((a : Nat) : Int), .int ((b : Nat) : Int)]
  | .fin m => .int ((m : Nat) : Int)
def CrOk : CR → Prop
  | .zone z n => nameB z = true ∧ n < 100000
  | .anchor k => idB k = true
  | .set n k => nameB n = true ∧ idB k = true
  | .item s i => SlOk s ∧ ItOk2 s i
  | .on v z => idB v = true ∧ nameB z = true
  | .deed a b d => a < 100000 ∧ b < 100000 ∧ DxOk d
  | .before a b => a < 100000 ∧ b < 100000
  | .fin m => m < 100000
def rowD (r : CR) : PyData := .tuple [.int ((crG r : Nat) : Int), crD r]
def spRCase (T : List (Addr × Str)) : Sp := fun vs H Q _ => ∃ (a : Addr) (r : CR), vs = [.ref a] ∧ H a = some (.lst ((crW r).map V.str)) ∧ CrOk r ∧ ∀ v H', Ext T [] H H' → Im H' v (rowD r) → Q v H'
theorem ok_read_case_line (D : Def K mg "read_case_line" s_read_case_line ["words"]) (mb : ∀ x ∈ bltns, mg x = none) (M : Cst mg) (G_read_name : Ok P w K mg base 4 "read_name" ["word"] (spRName T)) (G_read_number : Ok P w K mg base 3 "read_number" ["word"] (spRNum T)) (G_read_id : Ok P w K mg base 3 "read_id" ["word"] (spRId T))
    (G_read_deed : Ok P w K mg base 8 "read_deed" ["words"] (spRDeed T)) (G_read_placed : Ok P w K mg base 7 "read_placed" ["words"] (spPlaced T)) : Ok P w K mg base 9 "read_case_line" ["words"] (spRCase T) := by
  refine D.ok sc_read_case_line (fun vs H Q E h => ?_) (fun cdv f A outer s H vs Q E hr h => ?_)
  · obtain ⟨a, r, rfl, _⟩ := h
    rfl
  · obtain ⟨a, r, rfl, hp, hok, q⟩ := h
    refine ⟨_, (pss_one (ps_match (pv 0) (pc_cons (pm_seq K rfl rfl (pms_cons (pm_str K rfl hr.units) (pms_cons pm_name (pms_cons (pm_str K rfl hr.units) (pms_cons pm_name pms_nil))))) sc_read_case_line.nd (.cons (i := 1) rfl (.inl rfl) (by first | exact .inl rfl | exact .inr rfl) (.cons (i := 2) rfl (.inl rfl) (by first | exact .inl rfl | exact .inr rfl) .nil)) (pss_one (ps_ret (pe_tup (pa_cons (pe_glI (by rfl) M.c_ZONES) (pa_cons (pe_tup (pa_cons (pe_callO G_read_name (hr.mono (by decide)) (by rfl) (pa_cons (pv 1) pa_nil)) (pa_cons (pe_callO G_read_number (hr.mono (by decide)) (by rfl) (pa_cons (pv 2) pa_nil)) pa_nil))) pa_nil)))))
   (pc_cons (pm_seq K rfl rfl (pms_cons (pm_str K rfl hr.units) (pms_cons pm_name pms_nil))) sc_read_case_line.nd (.cons (i := 3) rfl (.inl rfl) (by first | exact .inl rfl | exact .inr rfl) .nil) (pss_one (ps_ret (pe_tup (pa_cons (pe_glI (by rfl) M.c_ANCHORS) (pa_cons (pe_callO G_read_id (hr.mono (by decide)) (by rfl) (pa_cons (pv 3) pa_nil)) pa_nil)))))
   (pc_cons (pm_seq K rfl rfl (pms_cons (pm_str K rfl hr.units) (pms_cons pm_name (pms_cons pm_name pms_nil)))) sc_read_case_line.nd (.cons (i := 4) rfl (.inl rfl) (by first | exact .inl rfl | exact .inr rfl) (.cons (i := 5) rfl (.inl rfl) (by first | exact .inl rfl | exact .inr rfl) .nil)) (pss_one (ps_ret (pe_tup (pa_cons (pe_glI (by rfl) M.c_SETS) (pa_cons (pe_tup (pa_cons (pe_callO G_read_name (hr.mono (by decide)) (by rfl) (pa_cons (pv 4) pa_nil)) (pa_cons (pe_callO G_read_id (hr.mono (by decide)) (by rfl) (pa_cons (pv 5) pa_nil)) pa_nil))) pa_nil)))))
   (pc_cons (pm_seq K rfl rfl (pms_cons (pm_str K rfl hr.units) (pms_cons pm_name (pms_cons pm_name pms_nil)))) sc_read_case_line.nd (.cons (i := 6) rfl (.inl rfl) (by first | exact .inl rfl | exact .inr rfl) (.cons (i := 1) rfl (.inl rfl) (by first | exact .inl rfl | exact .inr rfl) .nil)) (pss_one (ps_ret (pe_tup (pa_cons (pe_glI (by rfl) M.c_SERVERS) (pa_cons (pe_tup (pa_cons (pe_callO G_read_id (hr.mono (by decide)) (by rfl) (pa_cons (pv 6) pa_nil)) (pa_cons (pe_callO G_read_name (hr.mono (by decide)) (by rfl) (pa_cons (pv 1) pa_nil)) pa_nil))) pa_nil)))))
   (pc_cons (pm_seqS (i := 3) K rfl rfl (pms_cons (pm_str K rfl hr.units) (pms_cons pm_name (pms_cons pm_name (pms_star pms_nil))))) sc_read_case_line.nd (.cons (i := 7) rfl (.inl rfl) (by first | exact .inl rfl | exact .inr rfl) (.cons (i := 8) rfl (.inl rfl) (by first | exact .inl rfl | exact .inr rfl) (.cons (i := 9) rfl (.inl rfl) (by first | exact .inl rfl | exact .inr rfl) .nil))) (pss_one (ps_ret (pe_tup (pa_cons (pe_glI (by rfl) M.c_DEEDS) (pa_cons (pe_tup (pa_cons (pe_callO G_read_deed (hr.mono (by decide)) (by rfl) (pa_cons (pv 9) pa_nil)) (pa_cons (pe_tup (pa_cons (pe_callO G_read_number (hr.mono (by decide)) (by rfl) (pa_cons (pv 7) pa_nil)) (pa_cons (pe_callO G_read_number (hr.mono (by decide)) (by rfl) (pa_cons (pv 8) pa_nil)) pa_nil))) pa_nil))) pa_nil)))))
   (pc_cons (pm_seq K rfl rfl (pms_cons (pm_str K rfl hr.units) (pms_cons pm_name (pms_cons pm_name pms_nil)))) sc_read_case_line.nd (.cons (i := 10) rfl (.inl rfl) (by first | exact .inl rfl | exact .inr rfl) (.cons (i := 11) rfl (.inl rfl) (by first | exact .inl rfl | exact .inr rfl) .nil)) (pss_one (ps_ret (pe_tup (pa_cons (pe_glI (by rfl) M.c_PAIRS) (pa_cons (pe_tup (pa_cons (pe_callO G_read_number (hr.mono (by decide)) (by rfl) (pa_cons (pv 10) pa_nil)) (pa_cons (pe_callO G_read_number (hr.mono (by decide)) (by rfl) (pa_cons (pv 11) pa_nil)) pa_nil))) pa_nil)))))
   (pc_cons (pm_seq K rfl rfl (pms_cons (pm_str K rfl hr.units) (pms_cons pm_name pms_nil))) sc_read_case_line.nd (.cons (i := 12) rfl (.inl rfl) (by first | exact .inl rfl | exact .inr rfl) .nil) (pss_one (ps_ret (pe_tup (pa_cons (pe_glI (by rfl) M.c_END) (pa_cons (pe_callO G_read_number (hr.mono (by decide)) (by rfl) (pa_cons (pv 12) pa_nil)) pa_nil)))))
   (pc_cons pm_any sc_read_case_line.nd .nil (pss_one (ps_ret (pe_tup (pa_cons (pe_glI (by rfl) M.c_ITEMS) (pa_cons (pe_callO G_read_placed (hr.mono (by decide)) (by rfl) (pa_cons (pv 0) pa_nil)) pa_nil)))))
   pc_nil)))))))))), ?_⟩
    refine rd_match ?_
    walk_at "rdn"
    refine mt_case ?_
    cases r with
    | zone z n =>
      have hp : H a = some (.lst [V.str (Str.ofString "zone"), .str z, .str (Str.ofString "lag"), .str (numS n)]) := hp
      refine mt_seq (SqL.of hp) rfl (mt_eq (mt_nm (mt_eq (mt_nm ⟨rfl, ?_⟩))))
      dsimp only [setL]
      walk_at "rd"
      refine ⟨z, rfl, hok.1, fun H1 x1 => ?_⟩
      walk_at "rd"
      refine ⟨n, rfl, hok.2, fun H2 x2 => ?_⟩
      walk_at "rd"
      refine ⟨by walk_at "sz", fun p1 np1 => ?_⟩
      obtain ⟨np1, x3, hp1⟩ := alT (T := T) np1 [V.str z, .int (n : Int)]
      generalize upd H2 p1 _ = H3 at x3 hp1 ⊢
      walk_at "rd"
      refine ⟨by walk_at "sz", fun p2 np2 => ?_⟩
      obtain ⟨np2, x4, hp2⟩ := alT (T := T) np2 [V.int 0, .ref p1]
      exact q _ _ (x1.trans (x2.trans (x3.trans x4))) (.tup hp2 (.cons (.int _) (.cons (.tup (tup.x hp1 x4) (.cons (.str _ (name_ok hok.1)) (.cons (.int _) .nil))) .nil)))
    | anchor k =>
      have hp : H a = some (.lst [V.str (Str.ofString "anchor"), .str k]) := hp
      have hok : idB k = true := hok
      refine mt_off (SqL.of hp) (by show ¬ (2 = 4); decide) ?_
      dsimp only
      refine mt_case ?_
      refine mt_seq (SqL.of hp) rfl (mt_eq (mt_nm ⟨rfl, ?_⟩))
      dsimp only [setL]
      walk_at "rd"
      refine ⟨k, rfl, hok, fun H1 x1 => ?_⟩
      walk_at "rd"
      refine ⟨by walk_at "sz", fun p2 np2 => ?_⟩
      obtain ⟨np2, x4, hp2⟩ := alT (T := T) np2 [V.int 1, .str k]
      exact q _ _ (x1.trans x4) (.tup hp2 (.cons (.int _) (.cons (.str _ (id_ok hok)) .nil)))
    | set n k =>
      have hp : H a = some (.lst [V.str (Str.ofString "set"), .str n, .str k]) := hp
      refine mt_off (SqL.of hp) (by show ¬ (3 = 4); decide) ?_
      dsimp only
      refine mt_case ?_
      refine mt_off (SqL.of hp) (by show ¬ (3 = 2); decide) ?_
      dsimp only
      refine mt_case ?_
      refine mt_seq (SqL.of hp) rfl (mt_eq (mt_nm (mt_nm ⟨rfl, ?_⟩)))
      dsimp only [setL]
      walk_at "rd"
      refine ⟨n, rfl, hok.1, fun H1 x1 => ?_⟩
      walk_at "rd"
      refine ⟨k, rfl, hok.2, fun H2 x2 => ?_⟩
      walk_at "rd"
      refine ⟨by walk_at "sz", fun p1 np1 => ?_⟩
      obtain ⟨np1, x3, hp1⟩ := alT (T := T) np1 [V.str n, .str k]
      generalize upd H2 p1 _ = H3 at x3 hp1 ⊢
      walk_at "rd"
      refine ⟨by walk_at "sz", fun p2 np2 => ?_⟩
      obtain ⟨np2, x4, hp2⟩ := alT (T := T) np2 [V.int 2, .ref p1]
      exact q _ _ (x1.trans (x2.trans (x3.trans x4))) (.tup hp2 (.cons (.int _) (.cons (.tup (tup.x hp1 x4) (.cons (.str _ (name_ok hok.1)) (.cons (.str _ (id_ok hok.2)) .nil))) .nil)))
    | on v z =>
      have hp : H a = some (.lst [V.str (Str.ofString "on"), .str v, .str z]) := hp
      refine mt_off (SqL.of hp) (by show ¬ (3 = 4); decide) ?_
      dsimp only
      refine mt_case ?_
      refine mt_off (SqL.of hp) (by show ¬ (3 = 2); decide) ?_
      dsimp only
      refine mt_case ?_
      refine mt_seq (SqL.of hp) rfl (mt_no (by decide +kernel) ?_)
      dsimp only
      refine mt_case ?_
      refine mt_seq (SqL.of hp) rfl (mt_eq (mt_nm (mt_nm ⟨rfl, ?_⟩)))
      dsimp only [setL]
      walk_at "rd"
      refine ⟨v, rfl, hok.1, fun H1 x1 => ?_⟩
      walk_at "rd"
      refine ⟨z, rfl, hok.2, fun H2 x2 => ?_⟩
      walk_at "rd"
      refine ⟨by walk_at "sz", fun p1 np1 => ?_⟩
      obtain ⟨np1, x3, hp1⟩ := alT (T := T) np1 [V.str v, .str z]
      generalize upd H2 p1 _ = H3 at x3 hp1 ⊢
      walk_at "rd"
      refine ⟨by walk_at "sz", fun p2 np2 => ?_⟩
      obtain ⟨np2, x4, hp2⟩ := alT (T := T) np2 [V.int 4, .ref p1]
      exact q _ _ (x1.trans (x2.trans (x3.trans x4))) (.tup hp2 (.cons (.int _) (.cons (.tup (tup.x hp1 x4) (.cons (.str _ (id_ok hok.1)) (.cons (.str _ (name_ok hok.2)) .nil))) .nil)))
    | deed m n d =>
      have hp : H a = some (.lst (V.str (Str.ofString "deed") :: .str (numS m) :: .str (numS n) :: (dxW d).map V.str)) := hp
      have hdl := dxW_len d
      have hdg : 3 ≤ (dxW d).length := by
        cases d with
        | put s i =>
          show 3 ≤ (slW s ++ Str.ofString "=" :: itW s i).length + 1
          have h2 : 2 ≤ (slW s).length := by cases s <;> simp [slW]
          rw [List.length_append, List.length_cons]
          omega
        | on v z => exact Nat.le_refl _
        | off v z => exact Nat.le_refl _
      have hml : ((dxW d).map V.str).length ≤ 30 := by
        rw [List.length_map]
        omega
      have hmg : 3 ≤ ((dxW d).map V.str).length := by
        rw [List.length_map]
        omega
      refine mt_off (SqL.of hp) (by simp only [List.length_cons]; show ¬ (_ + 1 + 1 + 1 = 4); omega) ?_
      dsimp only
      refine mt_case ?_
      refine mt_off (SqL.of hp) (by simp only [List.length_cons]; show ¬ (_ + 1 + 1 + 1 = 2); omega) ?_
      dsimp only
      refine mt_case ?_
      refine mt_off (SqL.of hp) (by simp only [List.length_cons]; show ¬ (_ + 1 + 1 + 1 = 3); omega) ?_
      dsimp only
      refine mt_case ?_
      refine mt_off (SqL.of hp) (by simp only [List.length_cons]; show ¬ (_ + 1 + 1 + 1 = 3); omega) ?_
      dsimp only
      refine mt_case ?_
      refine mt_star3 hp (by omega) fun D1 nD1 => mt_eq (mt_nm (mt_nm ⟨_, _, rfl, rfl, ?_⟩))
      dsimp only [setL]
      obtain ⟨nD1, x1, hD1⟩ := alL (T := T) nD1 ((dxW d).map V.str)
      generalize upd H D1 _ = H1 at x1 hD1 ⊢
      walk_at "rd"
      refine ⟨D1, d, rfl, hD1, hok.2.2, fun v H2 x2 hv => ?_⟩
      walk_at "rd"
      refine ⟨m, rfl, hok.1, fun H3 x3 => ?_⟩
      walk_at "rd"
      refine ⟨n, rfl, hok.2.1, fun H4 x4 => ?_⟩
      have hv := (hv.x x3).x x4
      walk_at "rd"
      refine ⟨by walk_at "sz", fun p1 np1 => ?_⟩
      obtain ⟨np1, x5, hp1⟩ := alT (T := T) np1 [V.int (m : Int), .int (n : Int)]
      have hv := hv.x x5
      generalize upd H4 p1 _ = H5 at x5 hp1 hv ⊢
      walk_at "rd"
      refine ⟨by walk_at "sz", fun p2 np2 => ?_⟩
      obtain ⟨np2, x6, hp2⟩ := alT (T := T) np2 [v, .ref p1]
      have hv := hv.x x6
      have hp1 := tup.x hp1 x6
      generalize upd H5 p2 _ = H6 at x6 hp1 hp2 hv ⊢
      have hi : Im H6 (.ref p2) (crD (.deed m n d)) := .tup hp2 (.cons hv (.cons (.tup hp1 (.cons (.int _) (.cons (.int _) .nil))) .nil))
      walk_at "rd"
      refine ⟨by walk_at "sz", fun p3 np3 => ?_⟩
      obtain ⟨np3, x7, hp3⟩ := alT (T := T) np3 [V.int 5, .ref p2]
      exact q _ _ (x1.trans (x2.trans (x3.trans (x4.trans (x5.trans (x6.trans x7)))))) (.tup hp3 (.cons (.int _) (.cons (hi.x x7) .nil)))
    | before m n =>
      have hp : H a = some (.lst [V.str (Str.ofString "before"), .str (numS m), .str (numS n)]) := hp
      refine mt_off (SqL.of hp) (by show ¬ (3 = 4); decide) ?_
      dsimp only
      refine mt_case ?_
      refine mt_off (SqL.of hp) (by show ¬ (3 = 2); decide) ?_
      dsimp only
      refine mt_case ?_
      refine mt_seq (SqL.of hp) rfl (mt_no (by decide +kernel) ?_)
      dsimp only
      refine mt_case ?_
      refine mt_seq (SqL.of hp) rfl (mt_no (by decide +kernel) ?_)
      dsimp only
      refine mt_case ?_
      refine mt_star3 hp (by decide) fun D2 nD2 => mt_no (by decide +kernel) ?_
      obtain ⟨nD2, x0, _⟩ := alL (T := T) nD2 ([] : List V)
      have hp := lst.x hp x0
      generalize upd H D2 _ = H0 at x0 hp ⊢
      dsimp only
      refine mt_case ?_
      refine mt_seq (SqL.of hp) rfl (mt_eq (mt_nm (mt_nm ⟨rfl, ?_⟩)))
      dsimp only [setL]
      walk_at "rd"
      refine ⟨m, rfl, hok.1, fun H1 x1 => ?_⟩
      walk_at "rd"
      refine ⟨n, rfl, hok.2, fun H2 x2 => ?_⟩
      walk_at "rd"
      refine ⟨by walk_at "sz", fun p1 np1 => ?_⟩
      obtain ⟨np1, x3, hp1⟩ := alT (T := T) np1 [V.int (m : Int), .int (n : Int)]
      generalize upd H2 p1 _ = H3 at x3 hp1 ⊢
      walk_at "rd"
      refine ⟨by walk_at "sz", fun p2 np2 => ?_⟩
      obtain ⟨np2, x4, hp2⟩ := alT (T := T) np2 [V.int 6, .ref p1]
      exact q _ _ (x0.trans (x1.trans (x2.trans (x3.trans x4)))) (.tup hp2 (.cons (.int _) (.cons (.tup (tup.x hp1 x4) (.cons (.int _) (.cons (.int _) .nil))) .nil)))
    | fin m =>
      have hp : H a = some (.lst [V.str (Str.ofString "end"), .str (numS m)]) := hp
      have hok : m < 100000 := hok
      refine mt_off (SqL.of hp) (by show ¬ (2 = 4); decide) ?_
      dsimp only
      refine mt_case ?_
      refine mt_seq (SqL.of hp) rfl (mt_no (by decide +kernel) ?_)
      dsimp only
      refine mt_case ?_
      refine mt_off (SqL.of hp) (by show ¬ (2 = 3); decide) ?_
      dsimp only
      refine mt_case ?_
      refine mt_off (SqL.of hp) (by show ¬ (2 = 3); decide) ?_
      dsimp only
      refine mt_case ?_
      refine mt_few (SqL.of hp) (by show 2 ≤ 1000; decide) (by show 2 + 1 < 4; decide) ?_
      dsimp only
      refine mt_case ?_
      refine mt_off (SqL.of hp) (by show ¬ (2 = 3); decide) ?_
      dsimp only
      refine mt_case ?_
      refine mt_seq (SqL.of hp) rfl (mt_eq (mt_nm ⟨rfl, ?_⟩))
      dsimp only [setL]
      walk_at "rd"
      refine ⟨m, rfl, hok, fun H1 x1 => ?_⟩
      walk_at "rd"
      refine ⟨by walk_at "sz", fun p2 np2 => ?_⟩
      obtain ⟨np2, x4, hp2⟩ := alT (T := T) np2 [V.int 7, .int (m : Int)]
      exact q _ _ (x1.trans x4) (.tup hp2 (.cons (.int _) (.cons (.int _) .nil)))
    | item sl i =>
      obtain ⟨hs, hi⟩ := hok
      have hil := itW_len sl i
      have hig : 3 ≤ (itW sl i).length := by
        unfold itW
        split
        · exact Nat.le_refl _
        · show 3 ≤ 9
          decide
      obtain ⟨x0, y, z, r, hyz, hrl, hx0⟩ : ∃ x y z r, slW sl ++ Str.ofString "=" :: itW sl i = x :: y :: z :: r ∧ (3 ≤ r.length ∧ r.length ≤ 10) ∧ x ≠ Str.ofString "deed" := by
        cases sl with
        | k n => exact ⟨_, _, _, _, rfl, by omega, by decide +kernel⟩
        | l n => exact ⟨_, _, _, _, rfl, by omega, by decide +kernel⟩
        | h n => exact ⟨_, _, _, _, rfl, by omega, by decide +kernel⟩
        | s n k => exact ⟨_, _, _, Str.ofString "=" :: itW (.s n k) i, rfl, by rw [List.length_cons]; omega, by decide +kernel⟩
      have hp0 : H a = some (.lst ((slW sl ++ Str.ofString "=" :: itW sl i).map V.str)) := hp
      have hp : H a = some (.lst (V.str x0 :: .str y :: .str z :: r.map V.str)) := by
        rw [hp0, hyz]
        rfl
      have hml : (r.map V.str).length ≤ 10 := by
        rw [List.length_map]
        exact hrl.2
      have hmg : 3 ≤ (r.map V.str).length := by
        rw [List.length_map]
        exact hrl.1
      refine mt_off (SqL.of hp) (by simp only [List.length_cons]; show ¬ (_ + 1 + 1 + 1 = 4); omega) ?_
      dsimp only
      refine mt_case ?_
      refine mt_off (SqL.of hp) (by simp only [List.length_cons]; show ¬ (_ + 1 + 1 + 1 = 2); omega) ?_
      dsimp only
      refine mt_case ?_
      refine mt_off (SqL.of hp) (by simp only [List.length_cons]; show ¬ (_ + 1 + 1 + 1 = 3); omega) ?_
      dsimp only
      refine mt_case ?_
      refine mt_off (SqL.of hp) (by simp only [List.length_cons]; show ¬ (_ + 1 + 1 + 1 = 3); omega) ?_
      dsimp only
      refine mt_case ?_
      refine mt_star3 hp (by omega) fun D1 nD1 => mt_no hx0 ?_
      obtain ⟨nD1, x1, _⟩ := alL (T := T) nD1 (r.map V.str)
      have hp := lst.x hp x1
      have hp0 := lst.x hp0 x1
      generalize upd H D1 _ = H1 at x1 hp hp0 ⊢
      dsimp only
      refine mt_case ?_
      refine mt_off (SqL.of hp) (by simp only [List.length_cons]; show ¬ (_ + 1 + 1 + 1 = 3); omega) ?_
      dsimp only
      refine mt_case ?_
      refine mt_off (SqL.of hp) (by simp only [List.length_cons]; show ¬ (_ + 1 + 1 + 1 = 2); omega) ?_
      dsimp only
      refine mt_case ?_
      dsimp only [setL]
      walk_at "rd"
      refine ⟨a, sl, i, rfl, hp0, hs, hi, fun t v u H2 x2 ht hv hu => ?_⟩
      walk_at "rd"
      refine ⟨by walk_at "sz", fun p3 np3 => ?_⟩
      obtain ⟨np3, x3, hp3⟩ := alT (T := T) np3 [V.int 3, .ref t]
      exact q _ _ (x1.trans (x2.trans x3)) (.tup hp3 (.cons (.int _) (.cons (.tup (tup.x ht x3) (.cons (hv.x x3) (.cons (hu.x x3) .nil))) .nil)))
end

open PySem PySem.Spec PyProof.Rows L2
open PySem.W (EachIs)
section
variable {T : List (Addr × Str)} {P : Program} {w : World} {K : PySem.W.Frag} {mg : Str → Option Value} {base : Heap}
local macro_rules | `(tactic| walk_at "tr") => `(tactic| first
  | assumption
  | exact Ext.refl
  | ((with_reducible refine' Im.x (T := T) (H := ?trH) ?tra ?tre); (case tre => assumption); (case tra => walk_at "tr"))
  | ((with_reducible refine' Im.y (T := T) (H := ?trH) ?tra ?tre ?trt); (case tre => assumption); (case trt => walk_at "tr"); (case tra => walk_at "tr"))
  | ((with_reducible refine' ImAll.x (T := T) (H := ?trH) ?tra ?tre); (case tre => assumption); (case tra => walk_at "tr"))
  | ((with_reducible refine' ImAll.y (T := T) (H := ?trH) ?tra ?tre ?trt); (case tre => assumption); (case trt => walk_at "tr"); (case tra => walk_at "tr"))
  | ((with_reducible refine' Ls.x (T := T) (H := ?trH) ?tra ?tre); (case tre => assumption); (case tra => walk_at "tr"))
  | ((with_reducible refine' Ls.y (T := T) (H := ?trH) ?tra ?tre ?trn ?trt); (case tre => assumption); (case trt => walk_at "tr"); (case trn => walk_at "tr"); (case tra => walk_at "tr"))
  | ((with_reducible refine' SqP.x (T := T) (H := ?trH) ?tra ?tre); (case tre => assumption); (case tra => walk_at "tr"))
  | ((with_reducible refine' SqP.y (T := T) (H := ?trH) ?tra ?tre ?trt); (case tre => assumption); (case trt => walk_at "tr"); (case tra => walk_at "tr"))
  | ((with_reducible refine' StAt.x (T := T) (H := ?trH) ?tra ?tre); (case tre => assumption); (case tra => walk_at "tr"))
  | ((with_reducible refine' StAt.y (T := T) (H := ?trH) ?tra ?tre ?trt); (case tre => assumption); (case trt => walk_at "tr"); (case tra => walk_at "tr"))
  | ((with_reducible refine' Pools.ext0 (T := T) (H := ?trH) ?tra ?tre); (case tre => assumption); (case tra => walk_at "tr"))
  | ((with_reducible refine' Pools.ext (T := T) (H := ?trH) ?tra ?tre ?trt); (case tre => assumption); (case trt => walk_at "tr"); (case tra => walk_at "tr"))
  | ((with_reducible refine' CL.x (T := T) (H := ?trH) ?tra ?tre); (case tre => assumption); (case tra => walk_at "tr"))
  | ((with_reducible refine' CL.y (T := T) (H := ?trH) ?tra ?tre); (case tre => assumption); (case tra => walk_at "tr"))
  | ((with_reducible refine' Tape.ext (T := T) (H := ?trH) ?tra ?tre); (case tre => assumption); (case tra => walk_at "tr"))
  | ((with_reducible refine' lst.x (T := T) (H := ?trH) ?tra ?tre); (case tre => assumption); (case tra => walk_at "tr"))
  | ((with_reducible refine' lst.y (T := T) (H := ?trH) ?tra ?tre ?trn); (case tre => assumption); (case trn => walk_at "tr"); (case tra => walk_at "tr"))
  | ((with_reducible refine' tup.x (T := T) (H := ?trH) ?tra ?tre); (case tre => assumption); (case tra => walk_at "tr"))
  | ((with_reducible refine' tup.y (T := T) (H := ?trH) ?tra ?tre ?trt); (case tre => assumption); (case trt => walk_at "tr"); (case tra => walk_at "tr"))
  | ((with_reducible refine' frz.x (T := T) (H := ?trH) ?tra ?tre); (case tre => assumption); (case tra => walk_at "tr"))
  | ((with_reducible refine' frz.y (T := T) (H := ?trH) ?tra ?tre ?trt); (case tre => assumption); (case trt => walk_at "tr"); (case tra => walk_at "tr"))
  | ((with_reducible refine' Im.z (T := T) (H := ?trH) ?tra ?tre ?trt); (case tre => assumption); (case trt => assumption); (case tra => walk_at "tr"))
  | ((with_reducible refine' ImAll.z (T := T) (H := ?trH) ?tra ?tre ?trt); (case tre => assumption); (case trt => assumption); (case tra => walk_at "tr"))
  | ((with_reducible refine' StAt.z (T := T) (H := ?trH) ?tra ?tre ?trt); (case tre => assumption); (case trt => assumption); (case tra => walk_at "tr"))
  | ((with_reducible refine' SqP.z (T := T) (H := ?trH) ?tra ?tre ?trt); (case tre => assumption); (case trt => assumption); (case tra => walk_at "tr"))
  | ((with_reducible refine' tup.z (T := T) (H := ?trH) ?tra ?tre ?trt); (case tre => assumption); (case trt => assumption); (case tra => walk_at "tr"))
  | ((with_reducible refine' Ls.z (T := T) (H := ?trH) ?tra ?tre ?trt ?trn); (case tre => assumption); (case trt => assumption); (case trn => assumption); (case tra => walk_at "tr"))
  | ((with_reducible refine' lst.z (T := T) (H := ?trH) ?tra ?tre ?trn); (case tre => assumption); (case trn => assumption); (case tra => walk_at "tr"))
  | ((with_reducible refine' CL.z (T := T) (H := ?trH) ?tra ?tre ?trn); (case tre => assumption); (case trn => assumption); (case tra => walk_at "tr"))
  | ((with_reducible refine' Tape.ne1 (H := ?trH) ?trt ?trn); (case trn => assumption); (case trt => walk_at "tr"))
  | ((with_reducible refine' Ext.trans (H1 := ?trH) ?tra (Ext.any ?tre)); (case tre => assumption); (case tra => walk_at "tr"))
  | ((with_reducible refine' Ext.trans (H1 := ?trH) ?tra ?tre); (case tre => assumption); (case tra => walk_at "tr"))
  | ((with_reducible refine' Ext.back1 (T := T) (H1 := ?trH) ?tre ?trn ?tra); (case tra => assumption); (case trn => walk_at "tr"); (case tre => walk_at "tr"))
  | ((with_reducible refine' Ext.back0 (T := T) (H1 := ?trH) ?tre ?tra); (case tra => assumption); (case tre => walk_at "tr"))
  | ((with_reducible refine' SqT.of ?tra); (case tra => walk_at "tr"))
  | ((with_reducible refine' SqL.of ?tra); (case tra => walk_at "tr")))
local macro_rules | `(tactic| walk_at "al") => `(tactic| (refine ⟨by first | (show _ ≤ sizeLine; decide) | walk_at "sz", ?_⟩; intro alp aln; generalize alG : upd _ alp _ = alH; obtain ⟨aln2, alx, alh⟩ := al_of (T := T) aln alG; clear alG aln))
local macro_rules | `(tactic| walk_at "al0") => `(tactic| (intro alp aln; generalize alG : upd _ alp _ = alH; obtain ⟨aln2, alx, alh⟩ := al_of (T := T) aln alG; clear alG aln))

theorem Ext.news {as : List Addr} {H H' : Hp} (e : Ext T as H H') (h : ∀ a ∈ as, Nw H a) : Ext T [] H H' := ⟨fun b o _ hn hb => by
  by_cases hm : b ∈ as
  · obtain ⟨ps, e1⟩ := h b hm o hb
    exact absurd e1 (hn ps)
  · exact e.keep b o hm hn hb, e.tabs⟩
theorem imAll_app2 {H : Hp} : ∀ {xs ys : List V} {ds es : List PyData}, ImAll H xs ds → ImAll H ys es → ImAll H (xs ++ ys) (ds ++ es)
  | _, _, _, _, .nil, h => h
  | _, _, _, _, .cons a b, h => .cons a (imAll_app2 b h)
/-- a list of new empty lists -/
theorem lcg_lists (T : List (Addr × Str)) {σ : L2.St} {H : Hp} {Q : VK} {te : TE} {n k : Nat} (hn : n < sizeLine)
    (step : ∀ (i : Nat) H', i < n → ∀ F : VK, (∀ p, H' p = none → F (.ref p) (upd H' p (.lst []))) → te ((wipe σ [k]).set k (some (.int (0 + (i : Int))))) H' F)
    (q : ∀ D H2 (as : List Addr), Ext T [] H H2 → H2 D = some (.lst (as.map V.ref)) → as.length = n → as.Nodup → D ∉ as → Nw H D → (∀ a ∈ as, Nw H a ∧ H2 a = some (.lst [])) → Q (.ref D) H2) : LcG (Itr 0 n) (gName k) tYes te [k] σ H Q := fun D hD => by
  refine lc_it walk_range (fun i H2 => Ext T [] H H2 ∧ ∃ as : List Addr, H2 D = some (.lst (as.map V.ref)) ∧ as.length = i ∧ as.Nodup ∧ D ∉ as ∧ ∀ a ∈ as, Nw H a ∧ H2 a = some (.lst [])) ⟨.new hD, [], upd_same, rfl, List.nodup_nil, by simp, fun a h => by simp at h⟩ (fun _ _ _ _ => True.intro) (fun i x H1 H' hi h y => ?_) (fun H1 h => ?_)
  · obtain ⟨e1, e2⟩ := y
    subst e1
    subst e2
    obtain ⟨h1, as, h3, h4, h5, h6, h7⟩ := h
    refine ⟨wipe1, step i H' hi _ fun p hp => ?_⟩
    have hpD : D ≠ p := fun z => by
      rw [← z, h3] at hp
      cases hp
    have hpn : p ∉ as := fun z => by
      rw [(h7 p z).2] at hp
      cases hp
    have x1 : Ext T [] H' (upd H' p (.lst [])) := .new hp
    have h3' : upd H' p (.lst []) D = some (.lst (as.map V.ref)) := by rw [upd_ne hpD]; exact h3
    refine ⟨as.map V.ref, h3', by rw [List.length_map]; omega, (h1.trans x1).own (.of hD) h3', as ++ [p], by rw [List.map_append]; exact upd_same, by rw [List.length_append, h4]; rfl, ?_, ?_, fun a ha => ?_⟩
    · rw [List.nodup_append]
      refine ⟨h5, by simp, fun a ha b hb => ?_⟩
      rw [List.mem_singleton.mp hb]
      intro z
      exact hpn (z ▸ ha)
    · rw [List.mem_append, List.mem_singleton]
      exact fun z => z.elim h6 hpD
    · rcases List.mem_append.mp ha with ha | ha
      · have hne : a ≠ D := fun z => h6 (z ▸ ha)
        refine ⟨(h7 a ha).1, ?_⟩
        rw [upd_ne hne]
        exact x1.lst (by simp) (h7 a ha).2
      · rw [List.mem_singleton.mp ha]
        refine ⟨h1.back (by simp) (.of hp), ?_⟩
        rw [upd_ne (Ne.symm hpD)]
        exact upd_same
  · obtain ⟨h1, as, h3, h4, h5, h6, h7⟩ := h
    exact q D H1 as h1 h3 h4 h5 h6 (.of hD) h7
/-- rows in the order of their groups, and the end at the end -/
structure OrdR (rs : List CR) : Prop where
  step : ∀ (i : Nat) a b, rs[i]? = some a → rs[i + 1]? = some b → crG a ≤ crG b ∧ crG a < 7
  last : ∃ m, rs.getLast? = some (.fin m)
def lastG (rs : List CR) (i : Nat) : Nat := match i with
  | 0 => 0
  | i + 1 => (rs[i]?.map crG).getD 0
theorem lastG_ok {rs : List CR} (h : OrdR rs) {i : Nat} {r : CR} (hr : rs[i]? = some r) : lastG rs i ≤ crG r ∧ lastG rs i < 7 := by
  cases i with
  | zero => exact ⟨Nat.zero_le _, by show 0 < 7; decide⟩
  | succ i =>
    have hi : i < rs.length := by
      have := (List.getElem?_eq_some_iff.mp hr).1
      omega
    have e : rs[i]? = some rs[i] := List.getElem?_eq_getElem hi
    have := h.step i rs[i] r e hr
    show (rs[i]?.map crG).getD 0 ≤ crG r ∧ (rs[i]?.map crG).getD 0 < 7
    rw [e]
    exact this
theorem lastG_end {rs : List CR} (h : OrdR rs) : lastG rs rs.length = 7 := by
  obtain ⟨m, hm⟩ := h.last
  rw [List.getLast?_eq_getElem?] at hm
  have hl := (List.getElem?_eq_some_iff.mp hm).1
  obtain ⟨n, hn⟩ : ∃ n, rs.length = n + 1 := ⟨rs.length - 1, by omega⟩
  rw [hn] at hm ⊢
  show (rs[n]?.map crG).getD 0 = 7
  rw [show rs[n]? = some (.fin m) from hm]
  rfl
theorem crG_lt (r : CR) : crG r < 8 := by cases r <;> simp [crG]
def grpR (rs : List CR) (j : Nat) : List CR := rs.filter fun r => decide (crG r = j)
theorem grpR_snoc {rs : List CR} {i : Nat} {r : CR} (hr : rs[i]? = some r) (j : Nat) : grpR (rs.take (i + 1)) j = if crG r = j then grpR (rs.take i) j ++ [r] else grpR (rs.take i) j := by
  have e : rs.take (i + 1) = rs.take i ++ [r] := by
    rw [List.take_succ, hr]
    rfl
  unfold grpR
  rw [e, List.filter_append]
  by_cases h : crG r = j
  · rw [if_pos h]
    simp [h]
  · rw [if_neg h]
    simp [h]
def Grps (H : Hp) (as : List Addr) (rs : List CR) : Prop := ∀ (j : Nat) a, as[j]? = some a → ∃ xs, H a = some (.lst xs) ∧ ImAll H xs ((grpR rs j).map crD)
def spRGroups (T : List (Addr × Str)) : Sp := fun vs H Q _ => ∃ rs : List CR, vs = [.str (rowsS (rs.map crW))] ∧ RowsOk (rs.map crW) ∧ rs.length ≤ 30 ∧ (∀ r ∈ rs, CrOk r) ∧ OrdR rs ∧
  ∀ (g : Addr) (as : List Addr) (H' : Hp), Ext T [] H H' → H' g = some (.lst (as.map V.ref)) → as.length = 8 → Grps H' as rs → Q (.ref g) H'
theorem ok_read_groups {fc : Addr} (D : Def K mg "read_groups" s_read_groups ["text"]) (mb : ∀ x ∈ bltns, mg x = none) (M : Cst mg) (m_read_case_line : mg "read_case_line" = some (.ref fc)) (G_split_lines : Ok P w K mg base 1 "split_lines" ["text"] (spSplitL T)) (G_read_line : Ok P w K mg base 10 "read_line" ["read", "words", "at"] (spLine (oneS fc (spRCase T)))) : Ok P w K mg base 11 "read_groups" ["text"] (spRGroups T) := by
  refine D.ok sc_read_groups (fun vs H Q E h => ?_) (fun cdv f A outer s H vs Q E hr h => ?_)
  · obtain ⟨rs, rfl, _⟩ := h
    rfl
  · obtain ⟨rs, rfl, hR, hl30, hok, hO, q⟩ := h
    refine ⟨_, (pss_cons (ps_set (i := 1) sc_read_groups.nd rfl (.inl rfl) (pe_callO G_split_lines (hr.mono (by decide)) (by rfl) (pa_cons (pv 0) pa_nil)))
   (pss_cons (ps_setLc (i := 2) (own := [("_", 8)]) (g := gName 8) (tt := tYes) rfl sc_read_groups.nd rfl rfl (sw_true rfl rfl rfl (by decide +kernel)) (pi_range1 (by rfl) (mb _ (by decide)) (pa_cons (pe_op (op_plus K rfl) (pe_glI (by rfl) M.c_END) pe_int) pa_nil)) (blkOk_by (N := N_read_groups) (sc := defScope s_read_groups) (by decide +kernel)) (fun _ _ _ _ _ => (pg_name (i := 8) sc_read_groups.nd rfl (Or.inl rfl))) (fun _ _ _ _ _ => pts_nil) (fun _ _ _ _ _ => (pe_lst pa_nil)))
   (pss_cons (ps_set (i := 3) sc_read_groups.nd rfl (.inl rfl) (pe_glI (by rfl) M.c_ZONES))
   (pss_cons (ps_for PassesOwn.never rfl (pi_enum1 (by rfl) (mb _ (by decide)) (pa_cons (pv 1) pa_nil)) (pg_tupU (n := 2) K rfl rfl (pgs_cons (pg_name (i := 4) sc_read_groups.nd rfl (.inl rfl)) (pgs_cons (pg_name (i := 5) sc_read_groups.nd rfl (.inl rfl)) pgs_nil))) (pss_cons (ps_asg (pe_callO G_read_line (hr.mono (by decide)) (by rfl) (pa_cons (pe_glF (by rfl) m_read_case_line) (pa_cons (pv 5) (pa_cons (pv 4) pa_nil)))) (pg_tupU (n := 2) K rfl rfl (pgs_cons (pg_name (i := 6) sc_read_groups.nd rfl (.inl rfl)) (pgs_cons (pg_name (i := 7) sc_read_groups.nd rfl (.inl rfl)) pgs_nil))))
   (pss_cons (ps_if (PW.pt (pw_or (pt_cmpR op_lt (pv 6) (pv 3) (nomark _)) (pw_or1 (pt_cmpR (op_eqU K rfl hr.units) (pv 3) (pe_glI (by rfl) M.c_END) (nomark _))))) (pss_one ps_never) pss_nil)
   (pss_cons (ps_expr (pe_bm PySem.F.plainAttrs_list PySem.F.slot_list_append PySem.F.type_list_append mt_append (pe_ix (ix_U K rfl) (pv 2) (pv 6) (fun _ _ => rfl)) (pa_cons (pv 7) pa_nil)))
   (pss_one (ps_set (i := 3) sc_read_groups.nd rfl (.inl rfl) (pv 6)))))))
   (pss_cons (ps_if (pt_cmpR (op_neU K rfl hr.units) (pv 3) (pe_glI (by rfl) M.c_END) (nomark _)) (pss_one ps_never) pss_nil)
   (pss_one (ps_ret (pv 2)))))))), ?_⟩
    walk_at "rdn"
    refine rd_seq ?_
    walk_at "rdn"
    refine ⟨rs.map crW, rfl, hR, by rw [List.length_map]; exact hl30, fun p ys H1 x1 hp hyl hys => ?_⟩
    rw [List.length_map] at hyl
    walk_at "rdn"
    refine rd_seq ?_
    walk_at "rd"
    refine ⟨by decide, by decide, ?_⟩
    rw [show ((7 : Int) + 1).toNat = 8 from rfl]
    refine lcg_lists T (n := 8) (by decide) (fun i H' hi F go => ?_) (fun gr H2 as x2 hg hal hnd hga nwg hnew => ?_)
    · walk_at "rd"
      refine ⟨by walk_at "sz", fun p np => ?_⟩
      exact go p np
    have hal : as.length = 8 := hal
    have hp2 := lst.x hp x2
    have hys2 : ∀ (i : Nat) (y : V), ys[i]? = some y → ∃ (a : Addr) (r : CR), y = V.ref a ∧ rs[i]? = some r ∧ a ∉ as ∧ H2 a = some (.lst ((crW r).map V.str)) := fun i y hy => by
      obtain ⟨a, ws, h1, h2, h3⟩ := hys i y hy
      rw [List.getElem?_map] at h2
      obtain ⟨r, hr, rfl⟩ := Option.map_eq_some_iff.mp h2
      exact ⟨a, r, h1, hr, fun z => (hnew a z).1.lst h3 rfl, lst.x h3 x2⟩
    have hpa : p ∉ as := fun z => (hnew p z).1.lst hp rfl
    have h0 : Grps H2 as (rs.take 0) := fun j a ha => ⟨[], (hnew a (List.mem_of_getElem? ha)).2, .nil⟩
    have hX : ∀ H', Ext T as H2 H' → Ext T [] H H' := fun H' e => x1.trans ((x2.any.trans e).news fun a ha => (hnew a ha).1)
    clear hys hp x1 x2 hnew
    walk_at "rdn"
    refine rd_seq ?_
    walk_at "rd"
    refine rd_enum1 ?_
    walk_at "rd"
    refine ⟨p, ys, rfl, SqL.of hp2, ?_⟩
    refine forg_it (walk_enum1 (xs := ys)) (fun i σ H' => ∃ o4 o5 o6 o7, σ = [some (.str (rowsS (rs.map crW))), some (.ref p), some (.ref gr), some (.int ((lastG rs i : Nat) : Int)), o4, o5, o6, o7, none] ∧ Ext T as H2 H' ∧ Grps H' as (rs.take i)) ⟨none, none, none, none, rfl, .refl, h0⟩ (fun i σ H' hi h => ?_) (fun i x σ H' H'' hi h hx => ?_) (fun σ H' h => ?_)
    · obtain ⟨_, _, _, _, _, e, _⟩ := h
      exact SqL.of (e.lst hpa hp2)
    · obtain ⟨o4, o5, o6, o7, rfl, e3, hG⟩ := h
      obtain ⟨tq, v1, v2, rfl, ntq, rfl, e1v, e2v⟩ := hx
      cases Option.some.inj e1v
      obtain ⟨a, r, rfl, hr, haa, ha⟩ := hys2 i v2 e2v
      obtain ⟨ntq, x5, htq⟩ := alT (T := T) ntq [V.int ((i : Nat) + 1), .ref a]
      have ha := lst.x (e3.lst haa ha) x5
      have e5 : Ext T as H2 (upd H' tq _) := e3.trans x5.any
      have hG : Grps (upd H' tq _) as (rs.take i) := fun j b hb => by
        obtain ⟨xs, g1, g2⟩ := hG j b hb
        exact ⟨xs, lst.x g1 x5, g2.x x5⟩
      generalize upd H' tq _ = H5 at x5 htq ha e5 hG ⊢
      refine rd_gtup (SqT.of htq) rfl (rd_gcons (rd_name (rd_gcons (rd_name (rd_gnil ?_)))))
      clear x5 e3 htq
      walk_at "rdn"
      refine rd_seq ?_
      walk_at "rd"
      refine ⟨fc, a, _, spRCase T, rfl, oneS_eq _ _, a, r, rfl, ha, hok r (List.mem_of_getElem? hr), fun v H6 x6 hv => ?_⟩
      have e6 := e5.trans x6.any
      have hG : Grps H6 as (rs.take i) := fun j b hb => by
        obtain ⟨xs, g1, g2⟩ := hG j b hb
        exact ⟨xs, lst.x g1 x6, g2.x x6⟩
      clear e5 x6 ha
      obtain ⟨pt, ws, rfl, hpt, hws⟩ := hv.tup'
      have hws2 : ∃ u, ws = [.int ((crG r : Nat) : Int), u] ∧ Im H6 u (crD r) := by
        cases hws with
        | cons k1 k2 =>
          cases k1
          cases k2 with
          | cons k3 k4 =>
            cases k4
            exact ⟨_, rfl, k3⟩
      obtain ⟨u, rfl, hu⟩ := hws2
      refine rd_gtup (SqT.of hpt) rfl (rd_gcons (rd_name (rd_gcons (rd_name (rd_gnil ?_)))))
      obtain ⟨hl1, hl2⟩ := lastG_ok hO hr
      walk_at "rdn"
      refine rd_seq ?_
      walk_at "rd"
      rw [decide_eq_false (show ¬ (((crG r : Nat) : Int) < ((lastG rs i : Nat) : Int)) by omega)]
      walk_at "rd"
      rw [decide_eq_false (show ¬ (((lastG rs i : Nat) : Int) = 7) by omega)]
      walk_at "rd"
      have hg6 := e6.lst hga hg
      have hgi : crG r < as.length := by
        rw [hal]
        exact crG_lt r
      have hat : (as.map V.ref)[crG r]? = some (V.ref as[crG r]) := by
        rw [List.getElem?_map, List.getElem?_eq_getElem hgi]
        rfl
      refine rd_ixL (SqL.of hg6) (atI_nat hat) ?_
      obtain ⟨xs, hxs, hxi⟩ := hG (crG r) as[crG r] (List.getElem?_eq_getElem hgi)
      have hxl : xs.length ≤ 30 := by
        rw [hxi.len, List.length_map]
        have h1 : (grpR (rs.take i) (crG r)).length ≤ (rs.take i).length := List.length_filter_le _ _
        have h2 : (rs.take i).length ≤ rs.length := List.length_take_le' _ _
        omega
      walk_at "rd"
      have e7 : Ext T as H2 (upd H6 as[crG r] (.lst (xs ++ [u]))) := e6.trans (.mut (List.getElem_mem hgi) hxs)
      have lo : Lsts H6 [as[crG r]] := fun b hb => by
        rw [List.mem_singleton.mp hb]
        exact ⟨_, hxs⟩
      have eo : Ext T [as[crG r]] H6 (upd H6 as[crG r] (.lst (xs ++ [u]))) := .mut (by simp) hxs
      have hG7 : Grps (upd H6 as[crG r] (.lst (xs ++ [u]))) as (rs.take (i + 1)) := fun j b hb => by
        rw [grpR_snoc hr]
        by_cases hj : crG r = j
        · subst hj
          rw [List.getElem?_eq_getElem hgi] at hb
          cases Option.some.inj hb
          refine ⟨xs ++ [u], upd_same, ?_⟩
          rw [if_pos rfl, List.map_append]
          exact imAll_app2 (ImAll.ext eo lo _ _ hxi) (.cons (Im.ext eo lo _ _ hu) .nil)
        · have hne : b ≠ as[crG r] := fun z => by
            have hjl := (List.getElem?_eq_some_iff.mp hb).1
            have hb2 := (List.getElem?_eq_some_iff.mp hb).2
            exact hj ((List.getElem_inj hnd).mp (hb2.trans z)).symm
          obtain ⟨zs, g1, g2⟩ := hG j b hb
          rw [if_neg hj]
          exact ⟨zs, by rw [upd_ne hne]; exact g1, ImAll.ext eo lo _ _ g2⟩
      refine ⟨some (.int ((i : Nat) + 1)), some (.ref a), some (.int ((crG r : Nat) : Int)), some u, ?_, e7, hG7⟩
      have el : lastG rs (i + 1) = crG r := by
        show (rs[i]?.map crG).getD 0 = crG r
        rw [hr]
        rfl
      rw [el]
      rfl
    · obtain ⟨o4, o5, o6, o7, rfl, e3, hG⟩ := h
      rw [hyl, lastG_end hO]
      rw [hyl, List.take_length] at hG
      walk_at "rd"
      rw [decide_eq_true (show (((7 : Nat) : Int) = 7) from rfl)]
      walk_at "rd"
      exact q gr as H' (hX H' e3) (e3.lst hga hg) hal hG
end

open PySem PySem.Spec PyProof.Rows L2
open PySem.W (EachIs)
section
variable {T : List (Addr × Str)} {P : Program} {w : World} {K : PySem.W.Frag} {mg : Str → Option Value} {base : Heap}
local macro_rules | `(tactic| walk_at "tr") => `(tactic| first
  | assumption
  | exact Ext.refl
  | ((with_reducible refine' Im.x (T := T) (H := ?trH) ?tra ?tre); (case tre => assumption); (case tra => walk_at "tr"))
  | ((with_reducible refine' Im.y (T := T) (H := ?trH) ?tra ?tre ?trt); (case tre => assumption); (case trt => walk_at "tr"); (case tra => walk_at "tr"))
  | ((with_reducible refine' ImAll.x (T := T) (H := ?trH) ?tra ?tre); (case tre => assumption); (case tra => walk_at "tr"))
  | ((with_reducible refine' ImAll.y (T := T) (H := ?trH) ?tra ?tre ?trt); (case tre => assumption); (case trt => walk_at "tr"); (case tra => walk_at "tr"))
  | ((with_reducible refine' Ls.x (T := T) (H := ?trH) ?tra ?tre); (case tre => assumption); (case tra => walk_at "tr"))
  | ((with_reducible refine' Ls.y (T := T) (H := ?trH) ?tra ?tre ?trn ?trt); (case tre => assumption); (case trt => walk_at "tr"); (case trn => walk_at "tr"); (case tra => walk_at "tr"))
  | ((with_reducible refine' SqP.x (T := T) (H := ?trH) ?tra ?tre); (case tre => assumption); (case tra => walk_at "tr"))
  | ((with_reducible refine' SqP.y (T := T) (H := ?trH) ?tra ?tre ?trt); (case tre => assumption); (case trt => walk_at "tr"); (case tra => walk_at "tr"))
  | ((with_reducible refine' StAt.x (T := T) (H := ?trH) ?tra ?tre); (case tre => assumption); (case tra => walk_at "tr"))
  | ((with_reducible refine' StAt.y (T := T) (H := ?trH) ?tra ?tre ?trt); (case tre => assumption); (case trt => walk_at "tr"); (case tra => walk_at "tr"))
  | ((with_reducible refine' Pools.ext0 (T := T) (H := ?trH) ?tra ?tre); (case tre => assumption); (case tra => walk_at "tr"))
  | ((with_reducible refine' Pools.ext (T := T) (H := ?trH) ?tra ?tre ?trt); (case tre => assumption); (case trt => walk_at "tr"); (case tra => walk_at "tr"))
  | ((with_reducible refine' CL.x (T := T) (H := ?trH) ?tra ?tre); (case tre => assumption); (case tra => walk_at "tr"))
  | ((with_reducible refine' CL.y (T := T) (H := ?trH) ?tra ?tre); (case tre => assumption); (case tra => walk_at "tr"))
  | ((with_reducible refine' Tape.ext (T := T) (H := ?trH) ?tra ?tre); (case tre => assumption); (case tra => walk_at "tr"))
  | ((with_reducible refine' lst.x (T := T) (H := ?trH) ?tra ?tre); (case tre => assumption); (case tra => walk_at "tr"))
  | ((with_reducible refine' lst.y (T := T) (H := ?trH) ?tra ?tre ?trn); (case tre => assumption); (case trn => walk_at "tr"); (case tra => walk_at "tr"))
  | ((with_reducible refine' tup.x (T := T) (H := ?trH) ?tra ?tre); (case tre => assumption); (case tra => walk_at "tr"))
  | ((with_reducible refine' tup.y (T := T) (H := ?trH) ?tra ?tre ?trt); (case tre => assumption); (case trt => walk_at "tr"); (case tra => walk_at "tr"))
  | ((with_reducible refine' frz.x (T := T) (H := ?trH) ?tra ?tre); (case tre => assumption); (case tra => walk_at "tr"))
  | ((with_reducible refine' frz.y (T := T) (H := ?trH) ?tra ?tre ?trt); (case tre => assumption); (case trt => walk_at "tr"); (case tra => walk_at "tr"))
  | ((with_reducible refine' Im.z (T := T) (H := ?trH) ?tra ?tre ?trt); (case tre => assumption); (case trt => assumption); (case tra => walk_at "tr"))
  | ((with_reducible refine' ImAll.z (T := T) (H := ?trH) ?tra ?tre ?trt); (case tre => assumption); (case trt => assumption); (case tra => walk_at "tr"))
  | ((with_reducible refine' StAt.z (T := T) (H := ?trH) ?tra ?tre ?trt); (case tre => assumption); (case trt => assumption); (case tra => walk_at "tr"))
  | ((with_reducible refine' SqP.z (T := T) (H := ?trH) ?tra ?tre ?trt); (case tre => assumption); (case trt => assumption); (case tra => walk_at "tr"))
  | ((with_reducible refine' tup.z (T := T) (H := ?trH) ?tra ?tre ?trt); (case tre => assumption); (case trt => assumption); (case tra => walk_at "tr"))
  | ((with_reducible refine' Ls.z (T := T) (H := ?trH) ?tra ?tre ?trt ?trn); (case tre => assumption); (case trt => assumption); (case trn => assumption); (case tra => walk_at "tr"))
  | ((with_reducible refine' lst.z (T := T) (H := ?trH) ?tra ?tre ?trn); (case tre => assumption); (case trn => assumption); (case tra => walk_at "tr"))
  | ((with_reducible refine' CL.z (T := T) (H := ?trH) ?tra ?tre ?trn); (case tre => assumption); (case trn => assumption); (case tra => walk_at "tr"))
  | ((with_reducible refine' Tape.ne1 (H := ?trH) ?trt ?trn); (case trn => assumption); (case trt => walk_at "tr"))
  | ((with_reducible refine' Ext.trans (H1 := ?trH) ?tra (Ext.any ?tre)); (case tre => assumption); (case tra => walk_at "tr"))
  | ((with_reducible refine' Ext.trans (H1 := ?trH) ?tra ?tre); (case tre => assumption); (case tra => walk_at "tr"))
  | ((with_reducible refine' Ext.back1 (T := T) (H1 := ?trH) ?tre ?trn ?tra); (case tra => assumption); (case trn => walk_at "tr"); (case tre => walk_at "tr"))
  | ((with_reducible refine' Ext.back0 (T := T) (H1 := ?trH) ?tre ?tra); (case tra => assumption); (case tre => walk_at "tr"))
  | ((with_reducible refine' SqT.of ?tra); (case tra => walk_at "tr"))
  | ((with_reducible refine' SqL.of ?tra); (case tra => walk_at "tr")))
local macro_rules | `(tactic| walk_at "al") => `(tactic| (refine ⟨by first | (show _ ≤ sizeLine; decide) | walk_at "sz", ?_⟩; intro alp aln; generalize alG : upd _ alp _ = alH; obtain ⟨aln2, alx, alh⟩ := al_of (T := T) aln alG; clear alG aln))
local macro_rules | `(tactic| walk_at "al0") => `(tactic| (intro alp aln; generalize alG : upd _ alp _ = alH; obtain ⟨aln2, alx, alh⟩ := al_of (T := T) aln alG; clear alG aln))

/-! ### the words of a case's lines -/
theorem jn_head (s : Nat) (w : Str) (r : List Str) : w.length ≤ (jn s (w :: r)).length := by
  by_cases hr : r = []
  · subst hr
    rw [jn_one]
    exact Nat.le_refl _
  · rw [jn_cons s w hr, app_len2]
    omega
def kwsC : List Str := [Str.ofString "zone", Str.ofString "lag", Str.ofString "anchor", Str.ofString "set", Str.ofString "on", Str.ofString "off", Str.ofString "deed", Str.ofString "before", Str.ofString "end", Str.ofString "put", Str.ofString "at", Str.ofString "=", Str.ofString "life", Str.ofString "by", Str.ofString "from", Str.ofString "to"]
theorem kw_fr {c : Nat} (hc : c = 32 ∨ c = 10) : ∀ z ∈ kwsC, Fr c z := by
  intro z hz
  unfold Fr
  simp only [kwsC, List.mem_cons, List.not_mem_nil, or_false] at hz
  rcases hc with rfl | rfl <;> (rcases hz with rfl | rfl | rfl | rfl | rfl | rfl | rfl | rfl | rfl | rfl | rfl | rfl | rfl | rfl | rfl | rfl <;> decide +kernel)
theorem pl_fr {s : Sl} {i : Itx} (hs : SlOk s) (hi : ItOk2 s i) {c : Nat} (hc : c = 32 ∨ c = 10) : ∀ x ∈ slW s ++ Str.ofString "=" :: itW s i, Fr c x := by
  have hl : c ∉ sg lettersS := by rcases hc with rfl | rfl <;> decide +kernel
  have kw := kw_fr hc
  have nm : ∀ n, Fr c (numS n) := fun n => num_fr (by omega)
  have f1 := ids_fr hl (by omega) (by omega) hi.c
  have f2 := ids_fr hl (by omega) (by omega) hi.g
  intro x hx
  rcases List.mem_append.mp hx with hx | hx
  · exact slW_fr hs hc x hx
  rcases List.mem_cons.mp hx with rfl | hx
  · exact kw _ (by simp [kwsC])
  unfold itW at hx
  split at hx
  · rcases List.mem_cons.mp hx with rfl | hx
    · exact f1
    rcases List.mem_cons.mp hx with rfl | hx
    · exact kw _ (by simp [kwsC])
    · rw [List.mem_singleton.mp hx]
      exact nm _
  · rcases List.mem_cons.mp hx with rfl | hx
    · exact f1
    rcases List.mem_cons.mp hx with rfl | hx
    · exact kw _ (by simp [kwsC])
    rcases List.mem_cons.mp hx with rfl | hx
    · exact nm _
    rcases List.mem_cons.mp hx with rfl | hx
    · exact kw _ (by simp [kwsC])
    rcases List.mem_cons.mp hx with rfl | hx
    · exact f2
    rcases List.mem_cons.mp hx with rfl | hx
    · exact kw _ (by simp [kwsC])
    rcases List.mem_cons.mp hx with rfl | hx
    · exact nm _
    rcases List.mem_cons.mp hx with rfl | hx
    · exact kw _ (by simp [kwsC])
    · rw [List.mem_singleton.mp hx]
      exact nm _
theorem dx_fr {d : Dx} (h : DxOk d) {c : Nat} (hc : c = 32 ∨ c = 10) : ∀ x ∈ dxW d, Fr c x := by
  have hl : c ∉ sg lettersS := by rcases hc with rfl | rfl <;> decide +kernel
  have h46 : c ≠ 46 := by omega
  have kw := kw_fr hc
  intro x hx
  cases d with
  | put s i =>
    rcases List.mem_cons.mp hx with rfl | hx
    · exact kw _ (by simp [kwsC])
    · exact pl_fr h.1 h.2 hc x hx
  | on v z =>
    rcases List.mem_cons.mp hx with rfl | hx
    · exact kw _ (by simp [kwsC])
    rcases List.mem_cons.mp hx with rfl | hx
    · exact id_fr hl h.1
    · rw [List.mem_singleton.mp hx]
      exact name_fr hl h46 h.2
  | off v z =>
    rcases List.mem_cons.mp hx with rfl | hx
    · exact kw _ (by simp [kwsC])
    rcases List.mem_cons.mp hx with rfl | hx
    · exact id_fr hl h.1
    · rw [List.mem_singleton.mp hx]
      exact name_fr hl h46 h.2
theorem cr_fr {r : CR} (h : CrOk r) {c : Nat} (hc : c = 32 ∨ c = 10) : ∀ x ∈ crW r, Fr c x := by
  have hl : c ∉ sg lettersS := by rcases hc with rfl | rfl <;> decide +kernel
  have h46 : c ≠ 46 := by omega
  have kw := kw_fr hc
  have nm : ∀ n, Fr c (numS n) := fun n => num_fr (by omega)
  intro x hx
  cases r with
  | zone z n =>
    rcases List.mem_cons.mp hx with rfl | hx
    · exact kw _ (by simp [kwsC])
    rcases List.mem_cons.mp hx with rfl | hx
    · exact name_fr hl h46 h.1
    rcases List.mem_cons.mp hx with rfl | hx
    · exact kw _ (by simp [kwsC])
    · rw [List.mem_singleton.mp hx]
      exact nm _
  | anchor k =>
    rcases List.mem_cons.mp hx with rfl | hx
    · exact kw _ (by simp [kwsC])
    · rw [List.mem_singleton.mp hx]
      exact id_fr hl h
  | set n k =>
    rcases List.mem_cons.mp hx with rfl | hx
    · exact kw _ (by simp [kwsC])
    rcases List.mem_cons.mp hx with rfl | hx
    · exact name_fr hl h46 h.1
    · rw [List.mem_singleton.mp hx]
      exact id_fr hl h.2
  | item s i => exact pl_fr h.1 h.2 hc x hx
  | on v z =>
    rcases List.mem_cons.mp hx with rfl | hx
    · exact kw _ (by simp [kwsC])
    rcases List.mem_cons.mp hx with rfl | hx
    · exact id_fr hl h.1
    · rw [List.mem_singleton.mp hx]
      exact name_fr hl h46 h.2
  | deed a b d =>
    rcases List.mem_cons.mp hx with rfl | hx
    · exact kw _ (by simp [kwsC])
    rcases List.mem_cons.mp hx with rfl | hx
    · exact nm _
    rcases List.mem_cons.mp hx with rfl | hx
    · exact nm _
    · exact dx_fr h.2.2 hc x hx
  | before a b =>
    rcases List.mem_cons.mp hx with rfl | hx
    · exact kw _ (by simp [kwsC])
    rcases List.mem_cons.mp hx with rfl | hx
    · exact nm _
    · rw [List.mem_singleton.mp hx]
      exact nm _
  | fin m =>
    rcases List.mem_cons.mp hx with rfl | hx
    · exact kw _ (by simp [kwsC])
    · rw [List.mem_singleton.mp hx]
      exact nm _
theorem itW_sum {s : Sl} {i : Itx} (h : ItOk2 s i) : ((itW s i).map (·.length)).sum ≤ 100 := by
  have h1 := ids_len h.c
  have h2 := ids_len h.g
  have h3 := numS_len h.li
  have h4 := numS_len h.a
  have h5 := numS_len h.b
  have h6 := h.cl
  have h7 := h.gl
  have w1 : (Str.ofString "life").length = 4 := by decide +kernel
  have w2 : (Str.ofString "by").length = 2 := by decide +kernel
  have w3 : (Str.ofString "from").length = 4 := by decide +kernel
  have w4 : (Str.ofString "to").length = 2 := by decide +kernel
  unfold itW
  split
  · show (idsS i.c).length + ((Str.ofString "life").length + ((numS i.li).length + 0)) ≤ 100
    omega
  · show (idsS i.c).length + ((Str.ofString "life").length + ((numS i.li).length + ((Str.ofString "by").length + ((idsS i.g).length + ((Str.ofString "from").length + ((numS i.a).length + ((Str.ofString "to").length + ((numS i.b).length + 0)))))))) ≤ 100
    omega
theorem pl_sum {s : Sl} {i : Itx} (hs : SlOk s) (hi : ItOk2 s i) : ((slW s ++ Str.ofString "=" :: itW s i).map (·.length)).sum ≤ 161 ∧ (slW s ++ Str.ofString "=" :: itW s i).length ≤ 13 := by
  have a1 := slW_sum hs
  have a2 := slW_len s
  have a3 := itW_sum hi
  have a4 := itW_len s i
  rw [List.map_append, List.sum_append, List.length_append, List.map_cons, List.sum_cons, List.length_cons, show (Str.ofString "=").length = 1 from by decide +kernel]
  omega
theorem dx_sum {d : Dx} (h : DxOk d) : ((dxW d).map (·.length)).sum ≤ 164 := by
  cases d with
  | put s i =>
    have := (pl_sum h.1 h.2).1
    show (Str.ofString "put").length + ((slW s ++ Str.ofString "=" :: itW s i).map (·.length)).sum ≤ 164
    rw [show (Str.ofString "put").length = 3 from by decide +kernel]
    omega
  | on v z =>
    have := NK.id_len h.1
    have := name_len h.2
    show (Str.ofString "on").length + (v.length + (z.length + 0)) ≤ 164
    rw [show (Str.ofString "on").length = 2 from by decide +kernel]
    omega
  | off v z =>
    have := NK.id_len h.1
    have := name_len h.2
    show (Str.ofString "off").length + (v.length + (z.length + 0)) ≤ 164
    rw [show (Str.ofString "off").length = 3 from by decide +kernel]
    omega
theorem cr_len {r : CR} (h : CrOk r) : (jn 32 (crW r)).length ≤ 200 := by
  refine Nat.le_trans (jn_len 32 (crW r)) ?_
  cases r with
  | zone z n =>
    have := name_len h.1
    have := numS_len h.2
    show (Str.ofString "zone").length + (z.length + ((Str.ofString "lag").length + ((numS n).length + 0))) + 4 ≤ 200
    rw [show (Str.ofString "zone").length = 4 from by decide +kernel, show (Str.ofString "lag").length = 3 from by decide +kernel]
    omega
  | anchor k =>
    have := NK.id_len h
    show (Str.ofString "anchor").length + (k.length + 0) + 2 ≤ 200
    rw [show (Str.ofString "anchor").length = 6 from by decide +kernel]
    omega
  | set n k =>
    have := name_len h.1
    have := NK.id_len h.2
    show (Str.ofString "set").length + (n.length + (k.length + 0)) + 3 ≤ 200
    rw [show (Str.ofString "set").length = 3 from by decide +kernel]
    omega
  | item s i =>
    have := pl_sum h.1 h.2
    show ((slW s ++ Str.ofString "=" :: itW s i).map (·.length)).sum + (slW s ++ Str.ofString "=" :: itW s i).length ≤ 200
    omega
  | on v z =>
    have := NK.id_len h.1
    have := name_len h.2
    show (Str.ofString "on").length + (v.length + (z.length + 0)) + 3 ≤ 200
    rw [show (Str.ofString "on").length = 2 from by decide +kernel]
    omega
  | deed a b d =>
    have := numS_len h.1
    have := numS_len h.2.1
    have := dx_sum h.2.2
    have := dxW_len d
    show (Str.ofString "deed").length + ((numS a).length + ((numS b).length + ((dxW d).map (·.length)).sum)) + ((dxW d).length + 1 + 1 + 1) ≤ 200
    rw [show (Str.ofString "deed").length = 4 from by decide +kernel]
    omega
  | before a b =>
    have := numS_len h.1
    have := numS_len h.2
    show (Str.ofString "before").length + ((numS a).length + ((numS b).length + 0)) + 3 ≤ 200
    rw [show (Str.ofString "before").length = 6 from by decide +kernel]
    omega
  | fin m =>
    have := numS_len h
    show (Str.ofString "end").length + ((numS m).length + 0) + 2 ≤ 200
    rw [show (Str.ofString "end").length = 3 from by decide +kernel]
    omega
theorem sl_hd (s : Sl) : ∃ w t, slW s = w :: t ∧ 1 ≤ w.length := by
  cases s with
  | k z => exact ⟨Str.ofString "keys", _, rfl, by decide +kernel⟩
  | l z => exact ⟨Str.ofString "link", _, rfl, by decide +kernel⟩
  | h z => exact ⟨Str.ofString "hosts", _, rfl, by decide +kernel⟩
  | s n k => exact ⟨Str.ofString "set", _, rfl, by decide +kernel⟩
theorem cr_hd (r : CR) : ∃ w t, crW r = w :: t ∧ 1 ≤ w.length := by
  cases r with
  | zone z n => exact ⟨_, _, rfl, by decide +kernel⟩
  | anchor k => exact ⟨_, _, rfl, by decide +kernel⟩
  | set n k => exact ⟨_, _, rfl, by decide +kernel⟩
  | item s i =>
    obtain ⟨w, t, e, h⟩ := sl_hd s
    exact ⟨w, t ++ Str.ofString "=" :: itW s i, by show slW s ++ _ = _; rw [e]; rfl, h⟩
  | on v z => exact ⟨_, _, rfl, by decide +kernel⟩
  | deed a b d => exact ⟨_, _, rfl, by decide +kernel⟩
  | before a b => exact ⟨_, _, rfl, by decide +kernel⟩
  | fin m => exact ⟨_, _, rfl, by decide +kernel⟩
theorem cr_rows {rs : List CR} (h : ∀ r ∈ rs, CrOk r) : RowsOk (rs.map crW) := fun ws hw => by
  obtain ⟨r, hr, rfl⟩ := List.mem_map.mp hw
  obtain ⟨w, t, e, hl⟩ := cr_hd r
  exact ⟨by rw [e]; simp, fun x hx => ⟨cr_fr (h r hr) (.inl rfl) x hx, cr_fr (h r hr) (.inr rfl) x hx⟩, cr_len (h r hr), by rw [e]; exact Nat.le_trans hl (jn_head 32 w t)⟩
/-! ### a case -/
structure Cs where
  zs : List (Str × Nat)
  an : List Str
  ss : List (Str × Str)
  its : List (Sl × Itx)
  on : List (Str × Str)
  ds : List (Dx × Nat × Nat)
  bf : List (Nat × Nat)
  fin : Nat
def csR (c : Cs) : List CR := c.zs.map (fun z => .zone z.1 z.2) ++ (c.an.map (fun k => .anchor k) ++ (c.ss.map (fun s => .set s.1 s.2) ++ (c.its.map (fun i => .item i.1 i.2) ++ (c.on.map (fun s => .on s.1 s.2) ++ (c.ds.map (fun d => .deed d.2.1 d.2.2 d.1) ++ (c.bf.map (fun b => .before b.1 b.2) ++ [.fin c.fin]))))))
def zsD (z : Str × Nat) : PyData := .tuple [.str z.1, .int ((z.2 : Nat) : Int)]
def stsD (s : Str × Str) : PyData := .tuple [.str s.1, .str s.2]
def itsD (i : Sl × Itx) : PyData := .tuple [slD i.1, itD2 i.2]
def bfD (b : Nat × Nat) : PyData := .tuple [.int ((b.1 : Nat) : Int), .int ((b.2 : Nat) : Int)]
def csD (c : Cs) : PyData := .tuple [.tuple [.tuple (c.zs.map zsD), .tuple (c.an.map .str), .tuple (c.ss.map stsD)], .tuple [.tuple (c.its.map itsD), .tuple (c.on.map stsD)], .tuple (c.ds.map fun d => dxD d.1), .tuple (c.ds.map fun d => bfD d.2), .tuple (c.bf.map bfD), .int ((c.fin : Nat) : Int)]
theorem filt_yes {α : Type} {f : α → CR} {j : Nat} (h : ∀ x, crG (f x) = j) (l : List α) : grpR (l.map f) j = l.map f := by
  unfold grpR
  rw [List.filter_eq_self]
  intro r hr
  obtain ⟨x, _, rfl⟩ := List.mem_map.mp hr
  exact decide_eq_true (h x)
theorem filt_no {α : Type} {f : α → CR} {j : Nat} (h : ∀ x, crG (f x) ≠ j) (l : List α) : grpR (l.map f) j = [] := by
  unfold grpR
  rw [List.filter_eq_nil_iff]
  intro r hr
  obtain ⟨x, _, rfl⟩ := List.mem_map.mp hr
  simpa using h x
theorem grpR_app (a b : List CR) (j : Nat) : grpR (a ++ b) j = grpR a j ++ grpR b j := List.filter_append ..
theorem grp_cs (c : Cs) : grpR (csR c) 0 = c.zs.map (fun z => .zone z.1 z.2) ∧ grpR (csR c) 1 = c.an.map (fun k => .anchor k) ∧ grpR (csR c) 2 = c.ss.map (fun s => .set s.1 s.2) ∧ grpR (csR c) 3 = c.its.map (fun i => .item i.1 i.2) ∧ grpR (csR c) 4 = c.on.map (fun s => .on s.1 s.2) ∧
    grpR (csR c) 5 = c.ds.map (fun d => .deed d.2.1 d.2.2 d.1) ∧ grpR (csR c) 6 = c.bf.map (fun b => .before b.1 b.2) ∧ grpR (csR c) 7 = [.fin c.fin] := by
  have f7 : ∀ j, grpR [CR.fin c.fin] j = if 7 = j then [.fin c.fin] else [] := fun j => by
    by_cases h : 7 = j
    · subst h
      rfl
    · rw [if_neg h]
      simp [grpR, crG, h]
  unfold csR
  simp only [grpR_app, f7]
  refine ⟨?_, ?_, ?_, ?_, ?_, ?_, ?_, ?_⟩ <;>
    (repeat rw [filt_no (f := fun z : Str × Nat => CR.zone z.1 z.2) (by intro x; show (0 : Nat) ≠ _; decide)]) <;>
    (repeat rw [filt_no (f := fun k : Str => CR.anchor k) (by intro x; show (1 : Nat) ≠ _; decide)]) <;>
    (repeat rw [filt_no (f := fun s : Str × Str => CR.set s.1 s.2) (by intro x; show (2 : Nat) ≠ _; decide)]) <;>
    (repeat rw [filt_no (f := fun i : Sl × Itx => CR.item i.1 i.2) (by intro x; show (3 : Nat) ≠ _; decide)]) <;>
    (repeat rw [filt_no (f := fun s : Str × Str => CR.on s.1 s.2) (by intro x; show (4 : Nat) ≠ _; decide)]) <;>
    (repeat rw [filt_no (f := fun d : Dx × Nat × Nat => CR.deed d.2.1 d.2.2 d.1) (by intro x; show (5 : Nat) ≠ _; decide)]) <;>
    (repeat rw [filt_no (f := fun b : Nat × Nat => CR.before b.1 b.2) (by intro x; show (6 : Nat) ≠ _; decide)])
  · rw [filt_yes (j := 0) (f := fun z : Str × Nat => CR.zone z.1 z.2) fun _ => rfl]; simp
  · rw [filt_yes (j := 1) (f := fun k : Str => CR.anchor k) fun _ => rfl]; simp
  · rw [filt_yes (j := 2) (f := fun s : Str × Str => CR.set s.1 s.2) fun _ => rfl]; simp
  · rw [filt_yes (j := 3) (f := fun i : Sl × Itx => CR.item i.1 i.2) fun _ => rfl]; simp
  · rw [filt_yes (j := 4) (f := fun s : Str × Str => CR.on s.1 s.2) fun _ => rfl]; simp
  · rw [filt_yes (j := 5) (f := fun d : Dx × Nat × Nat => CR.deed d.2.1 d.2.2 d.1) fun _ => rfl]; simp
  · rw [filt_yes (j := 6) (f := fun b : Nat × Nat => CR.before b.1 b.2) fun _ => rfl]; simp
  · simp
def PwR (l : List CR) : Prop := l.Pairwise fun a b => crG a ≤ crG b
theorem ge_app {α : Type} {f : α → CR} {j k : Nat} (h : ∀ x, crG (f x) = k) (hk : j ≤ k) (l : List α) {r : List CR} (hr : ∀ b ∈ r, j ≤ crG b) : ∀ b ∈ l.map f ++ r, j ≤ crG b := fun b hb => by
  rcases List.mem_append.mp hb with hb | hb
  · obtain ⟨x, _, rfl⟩ := List.mem_map.mp hb
    rw [h x]
    exact hk
  · exact hr b hb
theorem pw_app {α : Type} {f : α → CR} {j : Nat} (h : ∀ x, crG (f x) = j) (l : List α) {r : List CR} (hr : ∀ b ∈ r, j ≤ crG b) (hp : PwR r) : PwR (l.map f ++ r) := by
  refine List.pairwise_append.mpr ⟨?_, hp, fun a ha b hb => ?_⟩
  · rw [List.pairwise_map]
    exact List.pairwise_of_forall fun x y => by rw [h x, h y]; exact Nat.le_refl _
  · obtain ⟨x, _, rfl⟩ := List.mem_map.mp ha
    rw [h x]
    exact hr b hb
theorem csR_ord (c : Cs) : OrdR (csR c) := by
  have g7 : ∀ j, j ≤ 7 → ∀ b ∈ [CR.fin c.fin], j ≤ crG b := fun j hj b hb => by
    rw [List.mem_singleton.mp hb]
    exact hj
  have g6 := fun j hj => ge_app (f := fun b : Nat × Nat => CR.before b.1 b.2) (j := j) (fun _ => rfl) (hj : j ≤ 6) c.bf (g7 j (by omega))
  have g5 := fun j hj => ge_app (f := fun d : Dx × Nat × Nat => CR.deed d.2.1 d.2.2 d.1) (j := j) (fun _ => rfl) (hj : j ≤ 5) c.ds (g6 j (by omega))
  have g4 := fun j hj => ge_app (f := fun s : Str × Str => CR.on s.1 s.2) (j := j) (fun _ => rfl) (hj : j ≤ 4) c.on (g5 j (by omega))
  have g3 := fun j hj => ge_app (f := fun i : Sl × Itx => CR.item i.1 i.2) (j := j) (fun _ => rfl) (hj : j ≤ 3) c.its (g4 j (by omega))
  have g2 := fun j hj => ge_app (f := fun s : Str × Str => CR.set s.1 s.2) (j := j) (fun _ => rfl) (hj : j ≤ 2) c.ss (g3 j (by omega))
  have g1 := fun j hj => ge_app (f := fun k : Str => CR.anchor k) (j := j) (fun _ => rfl) (hj : j ≤ 1) c.an (g2 j (by omega))
  have p7 : PwR [CR.fin c.fin] := List.pairwise_singleton _ _
  have pw : PwR (csR c) := pw_app (j := 0) (f := fun z : Str × Nat => CR.zone z.1 z.2) (fun _ => rfl) c.zs (g1 0 (by decide)) (pw_app (j := 1) (f := fun k : Str => CR.anchor k) (fun _ => rfl) c.an (g2 1 (by decide)) (pw_app (j := 2) (f := fun s : Str × Str => CR.set s.1 s.2) (fun _ => rfl) c.ss (g3 2 (by decide)) (pw_app (j := 3) (f := fun i : Sl × Itx => CR.item i.1 i.2) (fun _ => rfl) c.its (g4 3 (by decide)) (pw_app (j := 4) (f := fun s : Str × Str => CR.on s.1 s.2) (fun _ => rfl) c.on (g5 4 (by decide)) (pw_app (j := 5) (f := fun d : Dx × Nat × Nat => CR.deed d.2.1 d.2.2 d.1) (fun _ => rfl) c.ds (g6 5 (by decide)) (pw_app (j := 6) (f := fun b : Nat × Nat => CR.before b.1 b.2) (fun _ => rfl) c.bf (g7 6 (by decide)) p7))))))
  obtain ⟨ini, hini, hlt⟩ : ∃ ini, csR c = ini ++ [.fin c.fin] ∧ ∀ r ∈ ini, crG r < 7 := by
    refine ⟨c.zs.map (fun z => .zone z.1 z.2) ++ (c.an.map (fun k => .anchor k) ++ (c.ss.map (fun s => .set s.1 s.2) ++ (c.its.map (fun i => .item i.1 i.2) ++ (c.on.map (fun s => .on s.1 s.2) ++ (c.ds.map (fun d => .deed d.2.1 d.2.2 d.1) ++ c.bf.map (fun b => .before b.1 b.2)))))), by simp [csR], fun r hr => ?_⟩
    simp only [List.mem_append, List.mem_map] at hr
    rcases hr with ⟨x, _, rfl⟩ | ⟨x, _, rfl⟩ | ⟨x, _, rfl⟩ | ⟨x, _, rfl⟩ | ⟨x, _, rfl⟩ | ⟨x, _, rfl⟩ | ⟨x, _, rfl⟩ <;> simp [crG]
  refine ⟨fun i a b ha hb => ⟨?_, ?_⟩, c.fin, by rw [hini]; simp⟩
  · obtain ⟨h1, rfl⟩ := List.getElem?_eq_some_iff.mp ha
    obtain ⟨h2, rfl⟩ := List.getElem?_eq_some_iff.mp hb
    exact List.pairwise_iff_getElem.mp pw i (i + 1) h1 h2 (Nat.lt_succ_self i)
  · have h2 := (List.getElem?_eq_some_iff.mp hb).1
    rw [hini] at ha h2
    rw [List.length_append] at h2
    have h3 : i < ini.length := by
      have : [CR.fin c.fin].length = 1 := rfl
      omega
    rw [List.getElem?_append_left h3] at ha
    exact hlt a (List.mem_of_getElem? ha)
end

open PySem PySem.Spec PyProof.Rows L2
open PySem.W (EachIs)
section
variable {T : List (Addr × Str)} {P : Program} {w : World} {K : PySem.W.Frag} {mg : Str → Option Value} {base : Heap}
local macro_rules | `(tactic| walk_at "tr") => `(tactic| first
  | assumption
  | exact Ext.refl
  | ((with_reducible refine' Im.x (T := T) (H := ?trH) ?tra ?tre); (case tre => assumption); (case tra => walk_at "tr"))
  | ((with_reducible refine' Im.y (T := T) (H := ?trH) ?tra ?tre ?trt); (case tre => assumption); (case trt => walk_at "tr"); (case tra => walk_at "tr"))
  | ((with_reducible refine' ImAll.x (T := T) (H := ?trH) ?tra ?tre); (case tre => assumption); (case tra => walk_at "tr"))
  | ((with_reducible refine' ImAll.y (T := T) (H := ?trH) ?tra ?tre ?trt); (case tre => assumption); (case trt => walk_at "tr"); (case tra => walk_at "tr"))
  | ((with_reducible refine' Ls.x (T := T) (H := ?trH) ?tra ?tre); (case tre => assumption); (case tra => walk_at "tr"))
  | ((with_reducible refine' Ls.y (T := T) (H := ?trH) ?tra ?tre ?trn ?trt); (case tre => assumption); (case trt => walk_at "tr"); (case trn => walk_at "tr"); (case tra => walk_at "tr"))
  | ((with_reducible refine' SqP.x (T := T) (H := ?trH) ?tra ?tre); (case tre => assumption); (case tra => walk_at "tr"))
  | ((with_reducible refine' SqP.y (T := T) (H := ?trH) ?tra ?tre ?trt); (case tre => assumption); (case trt => walk_at "tr"); (case tra => walk_at "tr"))
  | ((with_reducible refine' StAt.x (T := T) (H := ?trH) ?tra ?tre); (case tre => assumption); (case tra => walk_at "tr"))
  | ((with_reducible refine' StAt.y (T := T) (H := ?trH) ?tra ?tre ?trt); (case tre => assumption); (case trt => walk_at "tr"); (case tra => walk_at "tr"))
  | ((with_reducible refine' Pools.ext0 (T := T) (H := ?trH) ?tra ?tre); (case tre => assumption); (case tra => walk_at "tr"))
  | ((with_reducible refine' Pools.ext (T := T) (H := ?trH) ?tra ?tre ?trt); (case tre => assumption); (case trt => walk_at "tr"); (case tra => walk_at "tr"))
  | ((with_reducible refine' CL.x (T := T) (H := ?trH) ?tra ?tre); (case tre => assumption); (case tra => walk_at "tr"))
  | ((with_reducible refine' CL.y (T := T) (H := ?trH) ?tra ?tre); (case tre => assumption); (case tra => walk_at "tr"))
  | ((with_reducible refine' Tape.ext (T := T) (H := ?trH) ?tra ?tre); (case tre => assumption); (case tra => walk_at "tr"))
  | ((with_reducible refine' lst.x (T := T) (H := ?trH) ?tra ?tre); (case tre => assumption); (case tra => walk_at "tr"))
  | ((with_reducible refine' lst.y (T := T) (H := ?trH) ?tra ?tre ?trn); (case tre => assumption); (case trn => walk_at "tr"); (case tra => walk_at "tr"))
  | ((with_reducible refine' tup.x (T := T) (H := ?trH) ?tra ?tre); (case tre => assumption); (case tra => walk_at "tr"))
  | ((with_reducible refine' tup.y (T := T) (H := ?trH) ?tra ?tre ?trt); (case tre => assumption); (case trt => walk_at "tr"); (case tra => walk_at "tr"))
  | ((with_reducible refine' frz.x (T := T) (H := ?trH) ?tra ?tre); (case tre => assumption); (case tra => walk_at "tr"))
  | ((with_reducible refine' frz.y (T := T) (H := ?trH) ?tra ?tre ?trt); (case tre => assumption); (case trt => walk_at "tr"); (case tra => walk_at "tr"))
  | ((with_reducible refine' Im.z (T := T) (H := ?trH) ?tra ?tre ?trt); (case tre => assumption); (case trt => assumption); (case tra => walk_at "tr"))
  | ((with_reducible refine' ImAll.z (T := T) (H := ?trH) ?tra ?tre ?trt); (case tre => assumption); (case trt => assumption); (case tra => walk_at "tr"))
  | ((with_reducible refine' StAt.z (T := T) (H := ?trH) ?tra ?tre ?trt); (case tre => assumption); (case trt => assumption); (case tra => walk_at "tr"))
  | ((with_reducible refine' SqP.z (T := T) (H := ?trH) ?tra ?tre ?trt); (case tre => assumption); (case trt => assumption); (case tra => walk_at "tr"))
  | ((with_reducible refine' tup.z (T := T) (H := ?trH) ?tra ?tre ?trt); (case tre => assumption); (case trt => assumption); (case tra => walk_at "tr"))
  | ((with_reducible refine' Ls.z (T := T) (H := ?trH) ?tra ?tre ?trt ?trn); (case tre => assumption); (case trt => assumption); (case trn => assumption); (case tra => walk_at "tr"))
  | ((with_reducible refine' lst.z (T := T) (H := ?trH) ?tra ?tre ?trn); (case tre => assumption); (case trn => assumption); (case tra => walk_at "tr"))
  | ((with_reducible refine' CL.z (T := T) (H := ?trH) ?tra ?tre ?trn); (case tre => assumption); (case trn => assumption); (case tra => walk_at "tr"))
  | ((with_reducible refine' Tape.ne1 (H := ?trH) ?trt ?trn); (case trn => assumption); (case trt => walk_at "tr"))
  | ((with_reducible refine' Ext.trans (H1 := ?trH) ?tra (Ext.any ?tre)); (case tre => assumption); (case tra => walk_at "tr"))
  | ((with_reducible refine' Ext.trans (H1 := ?trH) ?tra ?tre); (case tre => assumption); (case tra => walk_at "tr"))
  | ((with_reducible refine' Ext.back1 (T := T) (H1 := ?trH) ?tre ?trn ?tra); (case tra => assumption); (case trn => walk_at "tr"); (case tre => walk_at "tr"))
  | ((with_reducible refine' Ext.back0 (T := T) (H1 := ?trH) ?tre ?tra); (case tra => assumption); (case tre => walk_at "tr"))
  | ((with_reducible refine' SqT.of ?tra); (case tra => walk_at "tr"))
  | ((with_reducible refine' SqL.of ?tra); (case tra => walk_at "tr")))
local macro_rules | `(tactic| walk_at "al") => `(tactic| (refine ⟨by first | (show _ ≤ sizeLine; decide) | walk_at "sz", ?_⟩; intro alp aln; generalize alG : upd _ alp _ = alH; obtain ⟨aln2, alx, alh⟩ := al_of (T := T) aln alG; clear alG aln))
local macro_rules | `(tactic| walk_at "al0") => `(tactic| (intro alp aln; generalize alG : upd _ alp _ = alH; obtain ⟨aln2, alx, alh⟩ := al_of (T := T) aln alG; clear alG aln))

theorem grp_im {α : Type} {H : Hp} {xs : List V} {rs : List CR} {j : Nat} {f : α → CR} {d : α → PyData} {l : List α} (h : ImAll H xs ((grpR rs j).map crD)) (e : grpR rs j = l.map f) (hd : ∀ x, crD (f x) = d x) : ImAll H xs (l.map d) := by
  rw [e, List.map_map] at h
  have : l.map (crD ∘ f) = l.map d := List.map_congr_left fun x _ => hd x
  rw [this] at h
  exact h
def spRCs (T : List (Addr × Str)) : Sp := fun vs H Q _ => ∃ c : Cs, vs = [.str (rowsS ((csR c).map crW))] ∧ (∀ r ∈ csR c, CrOk r) ∧ (csR c).length ≤ 30 ∧ ∀ v H', Ext T [] H H' → Im H' v (csD c) → Q v H'
theorem get_im {α : Type} {H : Hp} {xs : List V} {rs : List α} {d : α → PyData} (h : ImAll H xs (rs.map d)) {i : Nat} {x : V} (hx : xs[i]? = some x) : ∃ r, rs[i]? = some r ∧ Im H x (d r) := by
  have hi : i < rs.length := by
    have := (List.getElem?_eq_some_iff.mp hx).1
    rw [h.len, List.length_map] at this
    exact this
  have e1 : (rs.map d)[i]? = some (d rs[i]) := by rw [List.getElem?_map, List.getElem?_eq_getElem hi]; rfl
  obtain ⟨u, h1, h2⟩ := h.get e1
  rw [hx] at h1
  cases Option.some.inj h1
  exact ⟨_, List.getElem?_eq_getElem hi, h2⟩
theorem imAll_ix {α : Type} {H : Hp} {d : α → PyData} : ∀ {ys : List V} {es : List α}, ys.length = es.length → (∀ (i : Nat) y e, ys[i]? = some y → es[i]? = some e → Im H y (d e)) → ImAll H ys (es.map d)
  | [], [], _, _ => .nil
  | [], _ :: _, h, _ => nomatch h
  | _ :: _, [], h, _ => nomatch h
  | y :: ys, e :: es, h, hh => .cons (hh 0 y e rfl rfl) (imAll_ix (Nat.succ.inj h) fun i y' e' a b => hh (i + 1) y' e' a b)
theorem im2 {H : Hp} {v : V} {d e : PyData} (h : Im H v (.tuple [d, e])) : ∃ p x y, v = .ref p ∧ H p = some (.tup [x, y]) ∧ Im H x d ∧ Im H y e := by
  obtain ⟨p, xs, rfl, hp, hx⟩ := h.tup'
  cases hx with
  | cons a b =>
    cases b with
    | cons c d =>
      cases d
      exact ⟨p, _, _, rfl, hp, a, c⟩
theorem ok_read_case (D : Def K mg "read_case" s_read_case ["text"]) (mb : ∀ x ∈ bltns, mg x = none) (M : Cst mg) (G_read_groups : Ok P w K mg base 11 "read_groups" ["text"] (spRGroups T)) : Ok P w K mg base 12 "read_case" ["text"] (spRCs T) := by
  refine D.ok sc_read_case (fun vs H Q E h => ?_) (fun cdv f A outer s H vs Q E hr h => ?_)
  · obtain ⟨c, rfl, _⟩ := h
    rfl
  · obtain ⟨c, rfl, hok, hl, q⟩ := h
    refine ⟨_, (pss_cons (ps_set (i := 1) sc_read_case.nd rfl (.inl rfl) (pe_callO G_read_groups (hr.mono (by decide)) (by rfl) (pa_cons (pv 0) pa_nil)))
   (pss_cons (ps_set (i := 2) sc_read_case.nd rfl (.inl rfl) (pe_tup (pa_cons (pe_callTy (call_tupU K rfl) (by rfl) (mb _ (by decide)) (by decide +kernel) (pa_cons (pe_ix (ix_U K rfl) (pv 1) (pe_glI (by rfl) M.c_ZONES) (fun _ _ => rfl)) pa_nil)) (pa_cons (pe_callTy (call_tupU K rfl) (by rfl) (mb _ (by decide)) (by decide +kernel) (pa_cons (pe_ix (ix_U K rfl) (pv 1) (pe_glI (by rfl) M.c_ANCHORS) (fun _ _ => rfl)) pa_nil)) (pa_cons (pe_callTy (call_tupU K rfl) (by rfl) (mb _ (by decide)) (by decide +kernel) (pa_cons (pe_ix (ix_U K rfl) (pv 1) (pe_glI (by rfl) M.c_SETS) (fun _ _ => rfl)) pa_nil)) pa_nil)))))
   (pss_cons (ps_set (i := 3) sc_read_case.nd rfl (.inl rfl) (pe_tup (pa_cons (pe_callTy (call_tupU K rfl) (by rfl) (mb _ (by decide)) (by decide +kernel) (pa_cons (pe_ix (ix_U K rfl) (pv 1) (pe_glI (by rfl) M.c_ITEMS) (fun _ _ => rfl)) pa_nil)) (pa_cons (pe_callTy (call_tupU K rfl) (by rfl) (mb _ (by decide)) (by decide +kernel) (pa_cons (pe_ix (ix_U K rfl) (pv 1) (pe_glI (by rfl) M.c_SERVERS) (fun _ _ => rfl)) pa_nil)) pa_nil))))
   (pss_cons (ps_set (i := 4) sc_read_case.nd rfl (.inl rfl) (pe_callTy (call_tupU K rfl) (by rfl) (mb _ (by decide)) (by decide +kernel) (pa_cons (pe_lc (own := [("deed", 6), ("_", 7)]) (tt := tYes) rfl sc_read_case.nd (pi_seq K rfl (pe_ix (ix_U K rfl) (pv 1) (pe_glI (by rfl) M.c_DEEDS) (fun _ _ => rfl))) (blkOk_by (N := N_read_case) (sc := defScope s_read_case) (by decide +kernel)) (fun _ _ _ _ _ => (pg_tupU (n := 2) K rfl rfl (pgs_cons (pg_name (i := 6) sc_read_case.nd rfl (Or.inl rfl)) (pgs_cons (pg_name (i := 7) sc_read_case.nd rfl (Or.inl rfl)) pgs_nil)))) (fun _ _ _ _ _ => pts_nil) (fun _ _ _ _ _ => (pv 6))) pa_nil)))
   (pss_cons (ps_set (i := 5) sc_read_case.nd rfl (.inl rfl) (pe_callTy (call_tupU K rfl) (by rfl) (mb _ (by decide)) (by decide +kernel) (pa_cons (pe_lc (own := [("_", 7), ("pair", 8)]) (tt := tYes) rfl sc_read_case.nd (pi_seq K rfl (pe_ix (ix_U K rfl) (pv 1) (pe_glI (by rfl) M.c_DEEDS) (fun _ _ => rfl))) (blkOk_by (N := N_read_case) (sc := defScope s_read_case) (by decide +kernel)) (fun _ _ _ _ _ => (pg_tupU (n := 2) K rfl rfl (pgs_cons (pg_name (i := 7) sc_read_case.nd rfl (Or.inl rfl)) (pgs_cons (pg_name (i := 8) sc_read_case.nd rfl (Or.inl rfl)) pgs_nil)))) (fun _ _ _ _ _ => pts_nil) (fun _ _ _ _ _ => (pv 8))) pa_nil)))
   (pss_one (ps_ret (pe_tup (pa_cons (pv 2) (pa_cons (pv 3) (pa_cons (pv 4) (pa_cons (pv 5) (pa_cons (pe_callTy (call_tupU K rfl) (by rfl) (mb _ (by decide)) (by decide +kernel) (pa_cons (pe_ix (ix_U K rfl) (pv 1) (pe_glI (by rfl) M.c_PAIRS) (fun _ _ => rfl)) pa_nil)) (pa_cons (pe_ix (ix_U K rfl) (pe_ix (ix_U K rfl) (pv 1) (pe_glI (by rfl) M.c_END) (fun _ _ => rfl)) pe_int (fun _ _ => rfl)) pa_nil)))))))))))))), ?_⟩
    obtain ⟨c0, c1, c2, c3, c4, c5, c6, c7⟩ := grp_cs c
    walk_at "rdn"
    refine rd_seq ?_
    walk_at "rdn"
    refine ⟨csR c, rfl, cr_rows hok, hl, hok, csR_ord c, fun g as H1 x1 hg hal hG => ?_⟩
    obtain ⟨a0, a1, a2, a3, a4, a5, a6, a7, rfl⟩ : ∃ a0 a1 a2 a3 a4 a5 a6 a7, as = [a0, a1, a2, a3, a4, a5, a6, a7] := by
      match as, hal with
      | [a0, a1, a2, a3, a4, a5, a6, a7], _ => exact ⟨_, _, _, _, _, _, _, _, rfl⟩
    have hg : H1 g = some (.lst [V.ref a0, .ref a1, .ref a2, .ref a3, .ref a4, .ref a5, .ref a6, .ref a7]) := hg
    obtain ⟨z0, h0, i0⟩ := hG 0 a0 rfl
    obtain ⟨z1, h1, i1⟩ := hG 1 a1 rfl
    obtain ⟨z2, h2, i2⟩ := hG 2 a2 rfl
    obtain ⟨z3, h3, i3⟩ := hG 3 a3 rfl
    obtain ⟨z4, h4, i4⟩ := hG 4 a4 rfl
    obtain ⟨z5, h5, i5⟩ := hG 5 a5 rfl
    obtain ⟨z6, h6, i6⟩ := hG 6 a6 rfl
    obtain ⟨z7, h7, i7⟩ := hG 7 a7 rfl
    have i0 := grp_im (d := zsD) i0 c0 fun _ => rfl
    have i1 := grp_im (d := .str) i1 c1 fun _ => rfl
    have i2 := grp_im (d := stsD) i2 c2 fun _ => rfl
    have i3 := grp_im (d := itsD) i3 c3 fun _ => rfl
    have i4 := grp_im (d := stsD) i4 c4 fun _ => rfl
    have i5 := grp_im (d := fun d => PyData.tuple [dxD d.1, bfD d.2]) i5 c5 fun _ => rfl
    have i6 := grp_im (d := bfD) i6 c6 fun _ => rfl
    rw [c7] at i7
    have ez7 : z7 = [.int ((c.fin : Nat) : Int)] := by
      cases i7 with
      | cons k1 k2 =>
        cases k1
        cases k2
        rfl
    subst ez7
    have hl5 : z5.length = c.ds.length := by rw [i5.len, List.length_map]
    have hl5b : c.ds.length ≤ 30 := by
      have : (c.ds.map fun d => CR.deed d.2.1 d.2.2 d.1).length ≤ (csR c).length := by
        rw [← c5]
        exact List.length_filter_le _ _
      rw [List.length_map] at this
      omega
    clear hG c0 c1 c2 c3 c4 c5 c6 c7 i7 hok hl hal
    -- the realm
    walk_at "rdn"
    refine rd_seq ?_
    walk_at "rd"
    refine rd_tupL (SqL.of h0) fun p0 np0 => ?_
    obtain ⟨np0, y0, hp0⟩ := alT (T := T) np0 z0
    have m0 : Im (upd H1 p0 (.tup z0)) (.ref p0) (.tuple (c.zs.map zsD)) := .tup hp0 (i0.x y0)
    generalize upd H1 p0 _ = K0 at y0 m0 ⊢
    have e0 := x1.trans y0
    walk_at "rd"
    refine rd_ixL (i := 1) (SqL.of (lst.x hg y0)) (v := .ref a1) rfl ?_
    walk_at "rd"
    refine rd_tupL (SqL.of (lst.x h1 y0)) fun p1 np1 => ?_
    obtain ⟨np1, y1, hp1⟩ := alT (T := T) np1 z1
    have y01 := y0.trans y1
    have m1 : Im (upd K0 p1 (.tup z1)) (.ref p1) (.tuple (c.an.map .str)) := .tup hp1 (i1.x y01)
    have m0 := m0.x y1
    generalize upd K0 p1 _ = K1 at y1 y01 m0 m1 ⊢
    walk_at "rd"
    refine rd_ixL (i := 2) (SqL.of (lst.x hg y01)) (v := .ref a2) rfl ?_
    walk_at "rd"
    refine rd_tupL (SqL.of (lst.x h2 y01)) fun p2 np2 => ?_
    obtain ⟨np2, y2, hp2⟩ := alT (T := T) np2 z2
    have y02 := y01.trans y2
    have m2 : Im (upd K1 p2 (.tup z2)) (.ref p2) (.tuple (c.ss.map stsD)) := .tup hp2 (i2.x y02)
    have m0 := m0.x y2
    have m1 := m1.x y2
    generalize upd K1 p2 _ = K2 at y2 y02 m0 m1 m2 ⊢
    walk_at "rd"
    refine ⟨by walk_at "sz", fun pr npr => ?_⟩
    obtain ⟨npr, y3, hpr⟩ := alT (T := T) npr [V.ref p0, .ref p1, .ref p2]
    have y03 := y02.trans y3
    have mR : Im (upd K2 pr _) (.ref pr) (.tuple [.tuple (c.zs.map zsD), .tuple (c.an.map .str), .tuple (c.ss.map stsD)]) := .tup hpr (.cons (m0.x y3) (.cons (m1.x y3) (.cons (m2.x y3) .nil)))
    generalize upd K2 pr _ = K3 at y3 y03 mR ⊢
    clear y0 y1 y2 y3 y01 y02 m0 m1 m2 hp0 hp1 hp2 hpr e0
    -- the state
    walk_at "rdn"
    refine rd_seq ?_
    walk_at "rd"
    refine rd_ixL (i := 3) (SqL.of (lst.x hg y03)) (v := .ref a3) rfl ?_
    walk_at "rd"
    refine rd_tupL (SqL.of (lst.x h3 y03)) fun p3 np3 => ?_
    obtain ⟨np3, y4, hp3⟩ := alT (T := T) np3 z3
    have y04 := y03.trans y4
    have m3 : Im (upd K3 p3 (.tup z3)) (.ref p3) (.tuple (c.its.map itsD)) := .tup hp3 (i3.x y04)
    have mR := mR.x y4
    generalize upd K3 p3 _ = K4 at y4 y04 m3 mR ⊢
    walk_at "rd"
    refine rd_ixL (i := 4) (SqL.of (lst.x hg y04)) (v := .ref a4) rfl ?_
    walk_at "rd"
    refine rd_tupL (SqL.of (lst.x h4 y04)) fun p4 np4 => ?_
    obtain ⟨np4, y5, hp4⟩ := alT (T := T) np4 z4
    have y05 := y04.trans y5
    have m4 : Im (upd K4 p4 (.tup z4)) (.ref p4) (.tuple (c.on.map stsD)) := .tup hp4 (i4.x y05)
    have m3 := m3.x y5
    have mR := mR.x y5
    generalize upd K4 p4 _ = K5 at y5 y05 m3 m4 mR ⊢
    walk_at "rd"
    refine ⟨by walk_at "sz", fun ps nps => ?_⟩
    obtain ⟨nps, y6, hps⟩ := alT (T := T) nps [V.ref p3, .ref p4]
    have y06 := y05.trans y6
    have mS : Im (upd K5 ps _) (.ref ps) (.tuple [.tuple (c.its.map itsD), .tuple (c.on.map stsD)]) := .tup hps (.cons (m3.x y6) (.cons (m4.x y6) .nil))
    have mR := mR.x y6
    generalize upd K5 ps _ = K6 at y6 y06 mS mR ⊢
    clear y4 y5 y6 y03 y04 y05 m3 m4 hp3 hp4 hps
    -- the deeds
    have hg6 := lst.x hg y06
    have h56 := lst.x h5 y06
    have i56 := i5.x y06
    walk_at "rdn"
    refine rd_seq ?_
    walk_at "rd"
    refine lcg_gen T (walk_list (xs := z5)) (fun H' e => SqL.of (lst.x h56 e)) (Nat.lt_of_le_of_lt (show z5.length ≤ 30 by omega) (by decide)) (fun i D H y => ∀ d, c.ds[i]? = some d → Im H y (dxD d.1)) (fun i D H1 H2 y xs x hD h e he => Im.ext x (lsts_one hD) _ _ (h e he)) (fun i x D H3' H4 hi x3 nD hD hx F go => ?_) (fun D zs K7 nD y7 hD hzl hzs => ?_)
    · obtain ⟨rfl, hx⟩ := hx
      obtain ⟨d, hd, hxd⟩ := get_im i56 hx
      obtain ⟨pq, u1, u2, rfl, hpq, hu1, hu2⟩ := im2 hxd
      refine rd_gtup (SqT.of (tup.x hpq x3)) rfl (rd_gcons (rd_name (rd_gcons (rd_name (rd_gnil ?_)))))
      refine ⟨rfl, ?_⟩
      walk_at "rd"
      refine go _ _ (fun d' hd' => ?_) .refl
      rw [hd] at hd'
      cases Option.some.inj hd'
      exact hu1.x x3
    walk_at "rd"
    refine rd_tupL (SqL.of hD) fun pd npd => ?_
    obtain ⟨npd, y8, hpd⟩ := alT (T := T) npd zs
    have y78 := y7.trans y8
    have mD : Im (upd K7 pd _) (.ref pd) (.tuple (c.ds.map fun d => dxD d.1)) := .tup hpd ((imAll_ix (d := fun d => dxD d.1) (by omega) fun i y e h1 h2 => hzs i y h1 e h2).x y8)
    have mR := mR.x y78
    have mS := mS.x y78
    have y08 := y06.trans y78
    generalize upd K7 pd _ = K8 at y8 y08 y78 mD mR mS ⊢
    clear y7 y8 y78 y06 hg6 h56 i56 hD hzs hpd nD
    -- the bounds
    have hg8 := lst.x hg y08
    have h58 := lst.x h5 y08
    have i58 := i5.x y08
    walk_at "rdn"
    refine rd_seq ?_
    walk_at "rd"
    refine lcg_gen T (walk_list (xs := z5)) (fun H' e => SqL.of (lst.x h58 e)) (Nat.lt_of_le_of_lt (show z5.length ≤ 30 by omega) (by decide)) (fun i D H y => ∀ d, c.ds[i]? = some d → Im H y (bfD d.2)) (fun i D H1 H2 y xs x hD h e he => Im.ext x (lsts_one hD) _ _ (h e he)) (fun i x D H3' H4 hi x3 nD hD hx F go => ?_) (fun D zb K9 nD y9 hD hzl2 hzs => ?_)
    · obtain ⟨rfl, hx⟩ := hx
      obtain ⟨d, hd, hxd⟩ := get_im i58 hx
      obtain ⟨pq, u1, u2, rfl, hpq, hu1, hu2⟩ := im2 hxd
      refine rd_gtup (SqT.of (tup.x hpq x3)) rfl (rd_gcons (rd_name (rd_gcons (rd_name (rd_gnil ?_)))))
      refine ⟨rfl, ?_⟩
      walk_at "rd"
      refine go _ _ (fun d' hd' => ?_) .refl
      rw [hd] at hd'
      cases Option.some.inj hd'
      exact hu2.x x3
    walk_at "rd"
    refine rd_tupL (SqL.of hD) fun pb npb => ?_
    obtain ⟨npb, ya, hpb⟩ := alT (T := T) npb zb
    have y9a := y9.trans ya
    have mB : Im (upd K9 pb _) (.ref pb) (.tuple (c.ds.map fun d => bfD d.2)) := .tup hpb ((imAll_ix (d := fun d => bfD d.2) (by omega) fun i y e h1 h2 => hzs i y h1 e h2).x ya)
    have mR := mR.x y9a
    have mS := mS.x y9a
    have mD := mD.x y9a
    have y0a := y08.trans y9a
    generalize upd K9 pb _ = Ka at ya y0a y9a mB mD mR mS ⊢
    clear y9 ya y9a y08 hg8 h58 i58 hD hzs hpb nD
    -- the rest
    walk_at "rd"
    refine rd_ixL (i := 6) (SqL.of (lst.x hg y0a)) (v := .ref a6) rfl ?_
    walk_at "rd"
    refine rd_tupL (SqL.of (lst.x h6 y0a)) fun p6 np6 => ?_
    obtain ⟨np6, yb, hp6⟩ := alT (T := T) np6 z6
    have y0b := y0a.trans yb
    have m6 : Im (upd Ka p6 (.tup z6)) (.ref p6) (.tuple (c.bf.map bfD)) := .tup hp6 (i6.x y0b)
    have mR := mR.x yb
    have mS := mS.x yb
    have mD := mD.x yb
    have mB := mB.x yb
    generalize upd Ka p6 _ = Kb at yb y0b m6 mB mD mR mS ⊢
    walk_at "rd"
    refine rd_ixL (i := 7) (SqL.of (lst.x hg y0b)) (v := .ref a7) rfl ?_
    walk_at "rd"
    refine rd_ixL (i := 0) (SqL.of (lst.x h7 y0b)) (v := .int ((c.fin : Nat) : Int)) rfl ?_
    walk_at "rd"
    refine ⟨by walk_at "sz", fun pf npf => ?_⟩
    obtain ⟨npf, yc, hpf⟩ := alT (T := T) npf [V.ref pr, .ref ps, .ref pd, .ref pb, .ref p6, .int ((c.fin : Nat) : Int)]
    exact q _ _ (x1.trans (y0b.trans yc)) (.tup hpf (.cons (mR.x yc) (.cons (mS.x yc) (.cons (mD.x yc) (.cons (mB.x yc) (.cons (m6.x yc) (.cons (.int _) .nil)))))))
end

open PySem PySem.Spec PyProof.Rows L2
open PySem.W (EachIs)
theorem c_put_len : (Str.ofString "put ").length = 4 := by decide +kernel
theorem c_zone_len : (Str.ofString "zone ").length = 5 := by decide +kernel
theorem c_lag_len : (Str.ofString " lag ").length = 5 := by decide +kernel
theorem c_anchor_len : (Str.ofString "anchor ").length = 7 := by decide +kernel
theorem c_set_len : (Str.ofString "set ").length = 4 := by decide +kernel
theorem c_on_len : (Str.ofString "on ").length = 3 := by decide +kernel
theorem sg_c_put : sg (Str.ofString "put ") = sg (Str.ofString "put") ++ [32] := by decide +kernel
theorem sg_c_zone : sg (Str.ofString "zone ") = sg (Str.ofString "zone") ++ [32] := by decide +kernel
theorem sg_c_lag : sg (Str.ofString " lag ") = [32] ++ (sg (Str.ofString "lag") ++ [32]) := by decide +kernel
theorem sg_c_anchor : sg (Str.ofString "anchor ") = sg (Str.ofString "anchor") ++ [32] := by decide +kernel
theorem sg_c_set : sg (Str.ofString "set ") = sg (Str.ofString "set") ++ [32] := by decide +kernel
theorem sg_c_on : sg (Str.ofString "on ") = sg (Str.ofString "on") ++ [32] := by decide +kernel
local macro_rules | `(tactic| walk_at "fslQ") => `(tactic| (refine Nat.le_trans (?_ : _ ≤ 100000) (by decide); (try simp only [app_len2, sp_len, nl_len, em_len, c_put_len, c_zone_len, c_lag_len, c_anchor_len, c_set_len, c_on_len]); omega))
local macro_rules | `(tactic| walk_at "fssQ") => `(tactic| (refine fs_s (by walk_at "fslQ") ?_; refine fs_y ⟨by walk_at "fslQ", ?_⟩; walk_at "rd"))
local macro_rules | `(tactic| walk_at "fsiQ") => `(tactic| (refine fs_i (by omega) ?_; refine fs_y ⟨by walk_at "fslQ", ?_⟩; walk_at "rd"))
local macro_rules | `(tactic| walk_at "fscQ") => `(tactic| (refine ⟨by walk_at "fslQ", ?_⟩; walk_at "rd"))
section
variable {T : List (Addr × Str)} {P : Program} {w : World} {K : PySem.W.Frag} {mg : Str → Option Value} {base : Heap}
local macro_rules | `(tactic| walk_at "tr") => `(tactic| first
  | assumption
  | exact Ext.refl
  | ((with_reducible refine' Im.x (T := T) (H := ?trH) ?tra ?tre); (case tre => assumption); (case tra => walk_at "tr"))
  | ((with_reducible refine' Im.y (T := T) (H := ?trH) ?tra ?tre ?trt); (case tre => assumption); (case trt => walk_at "tr"); (case tra => walk_at "tr"))
  | ((with_reducible refine' ImAll.x (T := T) (H := ?trH) ?tra ?tre); (case tre => assumption); (case tra => walk_at "tr"))
  | ((with_reducible refine' ImAll.y (T := T) (H := ?trH) ?tra ?tre ?trt); (case tre => assumption); (case trt => walk_at "tr"); (case tra => walk_at "tr"))
  | ((with_reducible refine' Ls.x (T := T) (H := ?trH) ?tra ?tre); (case tre => assumption); (case tra => walk_at "tr"))
  | ((with_reducible refine' Ls.y (T := T) (H := ?trH) ?tra ?tre ?trn ?trt); (case tre => assumption); (case trt => walk_at "tr"); (case trn => walk_at "tr"); (case tra => walk_at "tr"))
  | ((with_reducible refine' SqP.x (T := T) (H := ?trH) ?tra ?tre); (case tre => assumption); (case tra => walk_at "tr"))
  | ((with_reducible refine' SqP.y (T := T) (H := ?trH) ?tra ?tre ?trt); (case tre => assumption); (case trt => walk_at "tr"); (case tra => walk_at "tr"))
  | ((with_reducible refine' StAt.x (T := T) (H := ?trH) ?tra ?tre); (case tre => assumption); (case tra => walk_at "tr"))
  | ((with_reducible refine' StAt.y (T := T) (H := ?trH) ?tra ?tre ?trt); (case tre => assumption); (case trt => walk_at "tr"); (case tra => walk_at "tr"))
  | ((with_reducible refine' Pools.ext0 (T := T) (H := ?trH) ?tra ?tre); (case tre => assumption); (case tra => walk_at "tr"))
  | ((with_reducible refine' Pools.ext (T := T) (H := ?trH) ?tra ?tre ?trt); (case tre => assumption); (case trt => walk_at "tr"); (case tra => walk_at "tr"))
  | ((with_reducible refine' CL.x (T := T) (H := ?trH) ?tra ?tre); (case tre => assumption); (case tra => walk_at "tr"))
  | ((with_reducible refine' CL.y (T := T) (H := ?trH) ?tra ?tre); (case tre => assumption); (case tra => walk_at "tr"))
  | ((with_reducible refine' Tape.ext (T := T) (H := ?trH) ?tra ?tre); (case tre => assumption); (case tra => walk_at "tr"))
  | ((with_reducible refine' lst.x (T := T) (H := ?trH) ?tra ?tre); (case tre => assumption); (case tra => walk_at "tr"))
  | ((with_reducible refine' lst.y (T := T) (H := ?trH) ?tra ?tre ?trn); (case tre => assumption); (case trn => walk_at "tr"); (case tra => walk_at "tr"))
  | ((with_reducible refine' tup.x (T := T) (H := ?trH) ?tra ?tre); (case tre => assumption); (case tra => walk_at "tr"))
  | ((with_reducible refine' tup.y (T := T) (H := ?trH) ?tra ?tre ?trt); (case tre => assumption); (case trt => walk_at "tr"); (case tra => walk_at "tr"))
  | ((with_reducible refine' frz.x (T := T) (H := ?trH) ?tra ?tre); (case tre => assumption); (case tra => walk_at "tr"))
  | ((with_reducible refine' frz.y (T := T) (H := ?trH) ?tra ?tre ?trt); (case tre => assumption); (case trt => walk_at "tr"); (case tra => walk_at "tr"))
  | ((with_reducible refine' Im.z (T := T) (H := ?trH) ?tra ?tre ?trt); (case tre => assumption); (case trt => assumption); (case tra => walk_at "tr"))
  | ((with_reducible refine' ImAll.z (T := T) (H := ?trH) ?tra ?tre ?trt); (case tre => assumption); (case trt => assumption); (case tra => walk_at "tr"))
  | ((with_reducible refine' StAt.z (T := T) (H := ?trH) ?tra ?tre ?trt); (case tre => assumption); (case trt => assumption); (case tra => walk_at "tr"))
  | ((with_reducible refine' SqP.z (T := T) (H := ?trH) ?tra ?tre ?trt); (case tre => assumption); (case trt => assumption); (case tra => walk_at "tr"))
  | ((with_reducible refine' tup.z (T := T) (H := ?trH) ?tra ?tre ?trt); (case tre => assumption); (case trt => assumption); (case tra => walk_at "tr"))
  | ((with_reducible refine' Ls.z (T := T) (H := ?trH) ?tra ?tre ?trt ?trn); (case tre => assumption); (case trt => assumption); (case trn => assumption); (case tra => walk_at "tr"))
  | ((with_reducible refine' lst.z (T := T) (H := ?trH) ?tra ?tre ?trn); (case tre => assumption); (case trn => assumption); (case tra => walk_at "tr"))
  | ((with_reducible refine' CL.z (T := T) (H := ?trH) ?tra ?tre ?trn); (case tre => assumption); (case trn => assumption); (case tra => walk_at "tr"))
  | ((with_reducible refine' Tape.ne1 (H := ?trH) ?trt ?trn); (case trn => assumption); (case trt => walk_at "tr"))
  | ((with_reducible refine' Ext.trans (H1 := ?trH) ?tra (Ext.any ?tre)); (case tre => assumption); (case tra => walk_at "tr"))
  | ((with_reducible refine' Ext.trans (H1 := ?trH) ?tra ?tre); (case tre => assumption); (case tra => walk_at "tr"))
  | ((with_reducible refine' Ext.back1 (T := T) (H1 := ?trH) ?tre ?trn ?tra); (case tra => assumption); (case trn => walk_at "tr"); (case tre => walk_at "tr"))
  | ((with_reducible refine' Ext.back0 (T := T) (H1 := ?trH) ?tre ?tra); (case tra => assumption); (case tre => walk_at "tr"))
  | ((with_reducible refine' SqT.of ?tra); (case tra => walk_at "tr"))
  | ((with_reducible refine' SqL.of ?tra); (case tra => walk_at "tr")))
local macro_rules | `(tactic| walk_at "al") => `(tactic| (refine ⟨by first | (show _ ≤ sizeLine; decide) | walk_at "sz", ?_⟩; intro alp aln; generalize alG : upd _ alp _ = alH; obtain ⟨aln2, alx, alh⟩ := al_of (T := T) aln alG; clear alG aln))
local macro_rules | `(tactic| walk_at "al0") => `(tactic| (intro alp aln; generalize alG : upd _ alp _ = alH; obtain ⟨aln2, alx, alh⟩ := al_of (T := T) aln alG; clear alG aln))

theorem imS' {H : Hp} {v : V} {z : Str} (h : Im H v (.str z)) : v = .str z := by
  cases h
  rfl
theorem imI' {H : Hp} {v : V} {z : Int} (h : Im H v (.int z)) : v = .int z := by
  cases h
  rfl
theorem im3 {H : Hp} {v : V} {d e g : PyData} (h : Im H v (.tuple [d, e, g])) : ∃ p x y z, v = .ref p ∧ H p = some (.tup [x, y, z]) ∧ Im H x d ∧ Im H y e ∧ Im H z g := by
  obtain ⟨p, xs, rfl, hp, hx⟩ := h.tup'
  cases hx with
  | cons a b =>
    cases b with
    | cons c d =>
      cases d with
      | cons e f =>
        cases f
        exact ⟨p, _, _, _, rfl, hp, a, c, e⟩
def spDxT : Sp := fun vs H Q _ => ∃ (v : V) (d : Dx), vs = [v] ∧ Im H v (dxD d) ∧ DxOk d ∧ Q (.str (jn 32 (dxW d))) H
theorem dx_jlen {d : Dx} (h : DxOk d) : (jn 32 (dxW d)).length ≤ 178 := by
  have := jn_len 32 (dxW d)
  have := dx_sum h
  have := dxW_len d
  omega
theorem ok_deed_text (D : Def K mg "deed_text" s_deed_text ["deed"]) (G_placed_text : Ok P w K mg base 3 "placed_text" ["slot", "item"] spPlacedT) : Ok P w K mg base 4 "deed_text" ["deed"] spDxT := by
  refine D.ok sc_deed_text (fun vs H Q E h => ?_) (fun cdv f A outer s H vs Q E hr h => ?_)
  · obtain ⟨v, d, rfl, _⟩ := h
    rfl
  · obtain ⟨v, d, rfl, hv, hd, q⟩ := h
    refine ⟨_, (pss_cons (ps_asg (pv 0) (pg_tupU (n := 3) K rfl rfl (pgs_cons (pg_name (i := 1) sc_deed_text.nd rfl (.inl rfl)) (pgs_cons (pg_name (i := 2) sc_deed_text.nd rfl (.inl rfl)) (pgs_cons (pg_name (i := 3) sc_deed_text.nd rfl (.inl rfl)) pgs_nil)))))
   (pss_cons (ps_if (pt_cmpR (op_eqU K rfl hr.units) (pv 1) pe_str (nomark _)) (pss_one (ps_ret (pe_fstr (.cons pe_str (.cons (pe_fmt (pe_callO G_placed_text (hr.mono (by decide)) (by rfl) (pa_cons (pv 2) (pa_cons (pv 3) pa_nil)))) PJ.nil))))) pss_nil)
   (pss_one (ps_ret (pe_fstr (.cons (pe_fmt (pv 1)) (.cons pe_str (.cons (pe_fmt (pv 2)) (.cons pe_str (.cons (pe_fmt (pv 3)) PJ.nil)))))))))), ?_⟩
    cases d with
    | put sl i =>
      obtain ⟨p, x, y, z, rfl, hp, hx, hy, hz⟩ := im3 hv
      obtain rfl := imS' hx
      have hj : (jn 32 (slW sl ++ Str.ofString "=" :: itW sl i)).length ≤ 180 := by
        have h1 := jn_len 32 (slW sl ++ Str.ofString "=" :: itW sl i)
        have h2 := pl_sum hd.1 hd.2
        omega
      walk_at "rdn"
      refine rd_seq ?_
      walk_at "rdn"
      refine rd_gtup (SqT.of hp) rfl (rd_gcons (rd_name (rd_gcons (rd_name (rd_gcons (rd_name (rd_gnil ?_)))))))
      walk_at "rd"
      rw [decide_eq_true rfl]
      walk_at "rd"
      walk_at "fscQ"
      refine ⟨y, z, sl, i, rfl, hy, hz, hd.1, hd.2, ?_⟩
      walk_at "rd"
      walk_at "fssQ"
      have e : (Str.empty ++ Str.ofString "put ") ++ jn 32 (slW sl ++ Str.ofString "=" :: itW sl i) = jn 32 (dxW (.put sl i)) := by
        show _ = jn 32 (Str.ofString "put" :: (slW sl ++ Str.ofString "=" :: itW sl i))
        rw [jn_cons 32 _ (by simp)]
        refine sg_inj ?_
        simp only [sg_app, sg_em, sg_c_put, sg_S]
        simp
      rw [e]
      exact q
    | on a b =>
      obtain ⟨p, x, y, z, rfl, hp, hx, hy, hz⟩ := im3 hv
      obtain rfl := imS' hx
      obtain rfl := imS' hy
      obtain rfl := imS' hz
      have l0 : (Str.ofString "on").length = 2 := by decide +kernel
      have l1 := NK.id_len hd.1
      have l2 := name_len hd.2
      walk_at "rdn"
      refine rd_seq ?_
      walk_at "rdn"
      refine rd_gtup (SqT.of hp) rfl (rd_gcons (rd_name (rd_gcons (rd_name (rd_gcons (rd_name (rd_gnil ?_)))))))
      walk_at "rd"
      rw [decide_eq_false (by decide +kernel)]
      walk_at "rd"
      walk_at "fssQ"
      walk_at "fscQ"
      walk_at "fssQ"
      walk_at "fscQ"
      walk_at "fssQ"
      have e : ((((Str.empty ++ Str.ofString "on") ++ Str.ofString " ") ++ a) ++ Str.ofString " ") ++ b = jn 32 (dxW (.on a b)) := sg_inj (by
        show _ = TL.joinL [32] ([Str.ofString "on", a, b].map sg)
        simp only [sg_app, sg_em, sg_sp, List.map, TL.joinL]
        simp)
      rw [e]
      exact q
    | off a b =>
      obtain ⟨p, x, y, z, rfl, hp, hx, hy, hz⟩ := im3 hv
      obtain rfl := imS' hx
      obtain rfl := imS' hy
      obtain rfl := imS' hz
      have l0 : (Str.ofString "off").length = 3 := by decide +kernel
      have l1 := NK.id_len hd.1
      have l2 := name_len hd.2
      walk_at "rdn"
      refine rd_seq ?_
      walk_at "rdn"
      refine rd_gtup (SqT.of hp) rfl (rd_gcons (rd_name (rd_gcons (rd_name (rd_gcons (rd_name (rd_gnil ?_)))))))
      walk_at "rd"
      rw [decide_eq_false (by decide +kernel)]
      walk_at "rd"
      walk_at "fssQ"
      walk_at "fscQ"
      walk_at "fssQ"
      walk_at "fscQ"
      walk_at "fssQ"
      have e : ((((Str.empty ++ Str.ofString "off") ++ Str.ofString " ") ++ a) ++ Str.ofString " ") ++ b = jn 32 (dxW (.off a b)) := sg_inj (by
        show _ = TL.joinL [32] ([Str.ofString "off", a, b].map sg)
        simp only [sg_app, sg_em, sg_sp, List.map, TL.joinL]
        simp)
      rw [e]
      exact q
/-- a plan -/
def stepsOk (rs : List (Nat × Dx)) : Prop := ∀ r ∈ rs, StepOk r
theorem step_rows {rs : List (Nat × Dx)} (h : stepsOk rs) : RowsOk (rs.map stepW) := fun ws hw => by
  obtain ⟨r, hr, rfl⟩ := List.mem_map.mp hw
  obtain ⟨h1, h2⟩ := h r hr
  have a1 := numS_len h1
  have a2 := dx_sum h2
  have a3 := dxW_len r.2
  have fr : ∀ c, c = 32 ∨ c = 10 → ∀ x ∈ stepW r, Fr c x := fun c hc x hx => by
    rcases List.mem_cons.mp hx with rfl | hx
    · exact kw_fr hc _ (by simp [kwsC])
    rcases List.mem_cons.mp hx with rfl | hx
    · exact num_fr (by omega)
    · exact dx_fr h2 hc x hx
  refine ⟨by simp [stepW], fun x hx => ⟨fr 32 (.inl rfl) x hx, fr 10 (.inr rfl) x hx⟩, Nat.le_trans (jn_len 32 (stepW r)) ?_, Nat.le_trans (by decide +kernel : 1 ≤ (Str.ofString "at").length) (jn_head 32 _ _)⟩
  show (Str.ofString "at").length + ((numS r.1).length + ((dxW r.2).map (·.length)).sum) + ((dxW r.2).length + 1 + 1) ≤ 200
  rw [show (Str.ofString "at").length = 2 from by decide +kernel]
  omega
def spRPlan (T : List (Addr × Str)) : Sp := fun vs H Q _ => ∃ rs : List (Nat × Dx), vs = [.str (rowsS (rs.map stepW))] ∧ stepsOk rs ∧ rs.length ≤ 8 ∧ ∀ v H', Ext T [] H H' → Im H' v (.tuple (rs.map stepD)) → Q v H'
theorem ok_read_plan {fs : Addr} (D : Def K mg "read_plan" s_read_plan ["text"]) (m_read_step : mg "read_step" = some (.ref fs)) (G_read_lines : Ok P w K mg base 11 "read_lines" ["read", "text"] (spLinesR T (oneS fs (spRStep T)))) : Ok P w K mg base 12 "read_plan" ["text"] (spRPlan T) := by
  refine D.ok sc_read_plan (fun vs H Q E h => ?_) (fun cdv f A outer s H vs Q E hr h => ?_)
  · obtain ⟨rs, rfl, _⟩ := h
    rfl
  · obtain ⟨rs, rfl, hrs, hl, q⟩ := h
    refine ⟨_, (pss_one (ps_ret (pe_callO G_read_lines (hr.mono (by decide)) (by rfl) (pa_cons (pe_glF (by rfl) m_read_step) (pa_cons (pv 0) pa_nil))))), ?_⟩
    walk_at "rd"
    refine ⟨fs, spRStep T, rs.map stepW, rs.map stepD, rfl, oneS_eq _ _, step_rows hrs, by rw [List.length_map]; exact hl, by rw [List.length_map, List.length_map], fun i ws d a H1 h1 h2 h3 F go => ?_, fun v H' x hv => ?_⟩
    · rw [List.getElem?_map] at h1 h2
      obtain ⟨r, hr, rfl⟩ := Option.map_eq_some_iff.mp h1
      rw [hr] at h2
      cases Option.some.inj h2
      exact ⟨a, r, rfl, h3, hrs r (List.mem_of_getElem? hr), go⟩
    · walk_at "rd"
      exact q v H' x hv
end

open PySem PySem.Spec PyProof.Rows L2
open PySem.W (EachIs)
local macro_rules | `(tactic| walk_at "fslR") => `(tactic| (refine Nat.le_trans (?_ : _ ≤ 100000) (by decide); (try simp only [app_len2, sp_len, nl_len, em_len, c_put_len, c_zone_len, c_lag_len, c_anchor_len, c_set_len, c_on_len]); omega))
local macro_rules | `(tactic| walk_at "fssR") => `(tactic| (refine fs_s (by walk_at "fslR") ?_; refine fs_y ⟨by walk_at "fslR", ?_⟩; walk_at "rd"))
local macro_rules | `(tactic| walk_at "fsiR") => `(tactic| (refine fs_i (by omega) ?_; refine fs_y ⟨by walk_at "fslR", ?_⟩; walk_at "rd"))
local macro_rules | `(tactic| walk_at "fscR") => `(tactic| (refine ⟨by walk_at "fslR", ?_⟩; walk_at "rd"))
section
variable {T : List (Addr × Str)} {P : Program} {w : World} {K : PySem.W.Frag} {mg : Str → Option Value} {base : Heap}
local macro_rules | `(tactic| walk_at "tr") => `(tactic| first
  | assumption
  | exact Ext.refl
  | ((with_reducible refine' Im.x (T := T) (H := ?trH) ?tra ?tre); (case tre => assumption); (case tra => walk_at "tr"))
  | ((with_reducible refine' Im.y (T := T) (H := ?trH) ?tra ?tre ?trt); (case tre => assumption); (case trt => walk_at "tr"); (case tra => walk_at "tr"))
  | ((with_reducible refine' ImAll.x (T := T) (H := ?trH) ?tra ?tre); (case tre => assumption); (case tra => walk_at "tr"))
  | ((with_reducible refine' ImAll.y (T := T) (H := ?trH) ?tra ?tre ?trt); (case tre => assumption); (case trt => walk_at "tr"); (case tra => walk_at "tr"))
  | ((with_reducible refine' Ls.x (T := T) (H := ?trH) ?tra ?tre); (case tre => assumption); (case tra => walk_at "tr"))
  | ((with_reducible refine' Ls.y (T := T) (H := ?trH) ?tra ?tre ?trn ?trt); (case tre => assumption); (case trt => walk_at "tr"); (case trn => walk_at "tr"); (case tra => walk_at "tr"))
  | ((with_reducible refine' SqP.x (T := T) (H := ?trH) ?tra ?tre); (case tre => assumption); (case tra => walk_at "tr"))
  | ((with_reducible refine' SqP.y (T := T) (H := ?trH) ?tra ?tre ?trt); (case tre => assumption); (case trt => walk_at "tr"); (case tra => walk_at "tr"))
  | ((with_reducible refine' StAt.x (T := T) (H := ?trH) ?tra ?tre); (case tre => assumption); (case tra => walk_at "tr"))
  | ((with_reducible refine' StAt.y (T := T) (H := ?trH) ?tra ?tre ?trt); (case tre => assumption); (case trt => walk_at "tr"); (case tra => walk_at "tr"))
  | ((with_reducible refine' Pools.ext0 (T := T) (H := ?trH) ?tra ?tre); (case tre => assumption); (case tra => walk_at "tr"))
  | ((with_reducible refine' Pools.ext (T := T) (H := ?trH) ?tra ?tre ?trt); (case tre => assumption); (case trt => walk_at "tr"); (case tra => walk_at "tr"))
  | ((with_reducible refine' CL.x (T := T) (H := ?trH) ?tra ?tre); (case tre => assumption); (case tra => walk_at "tr"))
  | ((with_reducible refine' CL.y (T := T) (H := ?trH) ?tra ?tre); (case tre => assumption); (case tra => walk_at "tr"))
  | ((with_reducible refine' Tape.ext (T := T) (H := ?trH) ?tra ?tre); (case tre => assumption); (case tra => walk_at "tr"))
  | ((with_reducible refine' lst.x (T := T) (H := ?trH) ?tra ?tre); (case tre => assumption); (case tra => walk_at "tr"))
  | ((with_reducible refine' lst.y (T := T) (H := ?trH) ?tra ?tre ?trn); (case tre => assumption); (case trn => walk_at "tr"); (case tra => walk_at "tr"))
  | ((with_reducible refine' tup.x (T := T) (H := ?trH) ?tra ?tre); (case tre => assumption); (case tra => walk_at "tr"))
  | ((with_reducible refine' tup.y (T := T) (H := ?trH) ?tra ?tre ?trt); (case tre => assumption); (case trt => walk_at "tr"); (case tra => walk_at "tr"))
  | ((with_reducible refine' frz.x (T := T) (H := ?trH) ?tra ?tre); (case tre => assumption); (case tra => walk_at "tr"))
  | ((with_reducible refine' frz.y (T := T) (H := ?trH) ?tra ?tre ?trt); (case tre => assumption); (case trt => walk_at "tr"); (case tra => walk_at "tr"))
  | ((with_reducible refine' Im.z (T := T) (H := ?trH) ?tra ?tre ?trt); (case tre => assumption); (case trt => assumption); (case tra => walk_at "tr"))
  | ((with_reducible refine' ImAll.z (T := T) (H := ?trH) ?tra ?tre ?trt); (case tre => assumption); (case trt => assumption); (case tra => walk_at "tr"))
  | ((with_reducible refine' StAt.z (T := T) (H := ?trH) ?tra ?tre ?trt); (case tre => assumption); (case trt => assumption); (case tra => walk_at "tr"))
  | ((with_reducible refine' SqP.z (T := T) (H := ?trH) ?tra ?tre ?trt); (case tre => assumption); (case trt => assumption); (case tra => walk_at "tr"))
  | ((with_reducible refine' tup.z (T := T) (H := ?trH) ?tra ?tre ?trt); (case tre => assumption); (case trt => assumption); (case tra => walk_at "tr"))
  | ((with_reducible refine' Ls.z (T := T) (H := ?trH) ?tra ?tre ?trt ?trn); (case tre => assumption); (case trt => assumption); (case trn => assumption); (case tra => walk_at "tr"))
  | ((with_reducible refine' lst.z (T := T) (H := ?trH) ?tra ?tre ?trn); (case tre => assumption); (case trn => assumption); (case tra => walk_at "tr"))
  | ((with_reducible refine' CL.z (T := T) (H := ?trH) ?tra ?tre ?trn); (case tre => assumption); (case trn => assumption); (case tra => walk_at "tr"))
  | ((with_reducible refine' Tape.ne1 (H := ?trH) ?trt ?trn); (case trn => assumption); (case trt => walk_at "tr"))
  | ((with_reducible refine' Ext.trans (H1 := ?trH) ?tra (Ext.any ?tre)); (case tre => assumption); (case tra => walk_at "tr"))
  | ((with_reducible refine' Ext.trans (H1 := ?trH) ?tra ?tre); (case tre => assumption); (case tra => walk_at "tr"))
  | ((with_reducible refine' Ext.back1 (T := T) (H1 := ?trH) ?tre ?trn ?tra); (case tra => assumption); (case trn => walk_at "tr"); (case tre => walk_at "tr"))
  | ((with_reducible refine' Ext.back0 (T := T) (H1 := ?trH) ?tre ?tra); (case tra => assumption); (case tre => walk_at "tr"))
  | ((with_reducible refine' SqT.of ?tra); (case tra => walk_at "tr"))
  | ((with_reducible refine' SqL.of ?tra); (case tra => walk_at "tr")))
local macro_rules | `(tactic| walk_at "al") => `(tactic| (refine ⟨by first | (show _ ≤ sizeLine; decide) | walk_at "sz", ?_⟩; intro alp aln; generalize alG : upd _ alp _ = alH; obtain ⟨aln2, alx, alh⟩ := al_of (T := T) aln alG; clear alG aln))
local macro_rules | `(tactic| walk_at "al0") => `(tactic| (intro alp aln; generalize alG : upd _ alp _ = alH; obtain ⟨aln2, alx, alh⟩ := al_of (T := T) aln alG; clear alG aln))

theorem ys_eq {α : Type} {ys : List V} {rs : List α} {g : α → V} (hl : ys.length = rs.length) (h : ∀ (i : Nat) (y : V), ys[i]? = some y → ∀ r, rs[i]? = some r → y = g r) : ys = rs.map g := by
  refine List.ext_getElem? fun i => ?_
  rw [List.getElem?_map]
  by_cases hi : i < ys.length
  · have hr : i < rs.length := by omega
    rw [List.getElem?_eq_getElem hi, List.getElem?_eq_getElem hr, h i _ (List.getElem?_eq_getElem hi) _ (List.getElem?_eq_getElem hr)]
    rfl
  · rw [List.getElem?_eq_none (by omega), List.getElem?_eq_none (by omega)]
    rfl
def crS (r : CR) : V := .str (jn 32 (crW r))
theorem tS_zone (z : Str) (n : Nat) : (((Str.empty ++ Str.ofString "zone ") ++ z) ++ Str.ofString " lag ") ++ Str.ofString (toString ((n : Nat) : Int)) = jn 32 (crW (.zone z n)) := sg_inj (by
  show _ = TL.joinL [32] ([Str.ofString "zone", z, Str.ofString "lag", numS n].map sg)
  simp only [sg_app, sg_em, sg_c_zone, sg_c_lag, sg_num, List.map, TL.joinL, sg_numS]
  simp)
theorem tS_anchor (k : Str) : (Str.empty ++ Str.ofString "anchor ") ++ k = jn 32 (crW (.anchor k)) := sg_inj (by
  show _ = TL.joinL [32] ([Str.ofString "anchor", k].map sg)
  simp only [sg_app, sg_em, sg_c_anchor, List.map, TL.joinL]
  simp)
theorem tS_set (n k : Str) : (((Str.empty ++ Str.ofString "set ") ++ n) ++ Str.ofString " ") ++ k = jn 32 (crW (.set n k)) := sg_inj (by
  show _ = TL.joinL [32] ([Str.ofString "set", n, k].map sg)
  simp only [sg_app, sg_em, sg_c_set, sg_sp, List.map, TL.joinL]
  simp)
theorem tS_on (n k : Str) : (((Str.empty ++ Str.ofString "on ") ++ n) ++ Str.ofString " ") ++ k = jn 32 (crW (.on n k)) := sg_inj (by
  show _ = TL.joinL [32] ([Str.ofString "on", n, k].map sg)
  simp only [sg_app, sg_em, sg_c_on, sg_sp, List.map, TL.joinL]
  simp)
def spRealmT (T : List (Addr × Str)) : Sp := fun vs H Q _ => ∃ (v : V) (zs : List (Str × Nat)) (an : List Str) (ss : List (Str × Str)), vs = [v] ∧ Im H v (.tuple [.tuple (zs.map zsD), .tuple (an.map .str), .tuple (ss.map stsD)]) ∧ (∀ z ∈ zs, nameB z.1 = true ∧ z.2 < 100000) ∧ (∀ k ∈ an, idB k = true) ∧ (∀ s ∈ ss, nameB s.1 = true ∧ idB s.2 = true) ∧ zs.length ≤ 8 ∧ an.length ≤ 8 ∧ ss.length ≤ 8 ∧
  ∀ p H', Ext T [] H H' → Nw H p → H' p = some (.lst (zs.map (fun z => crS (.zone z.1 z.2)) ++ (an.map (fun k => crS (.anchor k)) ++ ss.map (fun s => crS (.set s.1 s.2))))) → Q (.ref p) H'
theorem ok_realm_lines (D : Def K mg "realm_lines" s_realm_lines ["realm"]) (mb : ∀ x ∈ bltns, mg x = none) : Ok P w K mg base 1 "realm_lines" ["realm"] (spRealmT T) := by
  refine D.ok sc_realm_lines (fun vs H Q E h => ?_) (fun cdv f A outer s H vs Q E hr h => ?_)
  · obtain ⟨v, zs, an, ss, rfl, _⟩ := h
    rfl
  · obtain ⟨v, zs, an, ss, rfl, hv, hz, ha, hs, lz, la, ls, q⟩ := h
    refine ⟨_, (pss_cons (ps_asg (pv 0) (pg_tupU (n := 3) K rfl rfl (pgs_cons (pg_name (i := 1) sc_realm_lines.nd rfl (.inl rfl)) (pgs_cons (pg_name (i := 2) sc_realm_lines.nd rfl (.inl rfl)) (pgs_cons (pg_name (i := 3) sc_realm_lines.nd rfl (.inl rfl)) pgs_nil)))))
   (pss_cons (ps_setLc (i := 4) (own := [("zone", 5), ("lag", 6)]) (tt := tYes) rfl sc_realm_lines.nd rfl rfl (sw_true rfl rfl rfl (by decide +kernel)) (pi_seq K rfl (pv 1)) (blkOk_by (N := N_realm_lines) (sc := defScope s_realm_lines) (by decide +kernel)) (fun _ _ _ _ _ => (pg_tupU (n := 2) K rfl rfl (pgs_cons (pg_name (i := 5) sc_realm_lines.nd rfl (Or.inl rfl)) (pgs_cons (pg_name (i := 6) sc_realm_lines.nd rfl (Or.inl rfl)) pgs_nil)))) (fun _ _ _ _ _ => pts_nil) (fun _ _ _ _ _ => (pe_fstr (.cons pe_str (.cons (pe_fmt (pv 5)) (.cons pe_str (.cons (pe_fmt (pv 6)) PJ.nil)))))))
   (pss_cons (ps_expr (pe_bm PySem.F.plainAttrs_list PySem.F.slot_list_extend PySem.F.type_list_extend mt_extend (pv 4) (pa_cons (pe_lc (own := [("key", 7)]) (g := gName 7) (tt := tYes) rfl sc_realm_lines.nd (pi_seq K rfl (pv 2)) (blkOk_by (N := N_realm_lines) (sc := defScope s_realm_lines) (by decide +kernel)) (fun _ _ _ _ _ => (pg_name (i := 7) sc_realm_lines.nd rfl (Or.inl rfl))) (fun _ _ _ _ _ => pts_nil) (fun _ _ _ _ _ => (pe_fstr (.cons pe_str (.cons (pe_fmt (pv 7)) PJ.nil))))) pa_nil)))
   (pss_cons (ps_expr (pe_bm PySem.F.plainAttrs_list PySem.F.slot_list_extend PySem.F.type_list_extend mt_extend (pv 4) (pa_cons (pe_lc (own := [("name", 8), ("kind", 9)]) (tt := tYes) rfl sc_realm_lines.nd (pi_seq K rfl (pv 3)) (blkOk_by (N := N_realm_lines) (sc := defScope s_realm_lines) (by decide +kernel)) (fun _ _ _ _ _ => (pg_tupU (n := 2) K rfl rfl (pgs_cons (pg_name (i := 8) sc_realm_lines.nd rfl (Or.inl rfl)) (pgs_cons (pg_name (i := 9) sc_realm_lines.nd rfl (Or.inl rfl)) pgs_nil)))) (fun _ _ _ _ _ => pts_nil) (fun _ _ _ _ _ => (pe_fstr (.cons pe_str (.cons (pe_fmt (pv 8)) (.cons pe_str (.cons (pe_fmt (pv 9)) PJ.nil))))))) pa_nil)))
   (pss_one (ps_ret (pv 4))))))), ?_⟩
    obtain ⟨p, v1, v2, v3, rfl, hp, h1, h2, h3⟩ := im3 hv
    obtain ⟨p1, xs1, rfl, hp1, i1⟩ := h1.tup'
    obtain ⟨p2, xs2, rfl, hp2, i2⟩ := h2.tup'
    obtain ⟨p3, xs3, rfl, hp3, i3⟩ := h3.tup'
    have l1 : xs1.length = zs.length := by rw [i1.len, List.length_map]
    have l2 : xs2.length = an.length := by rw [i2.len, List.length_map]
    have l3 : xs3.length = ss.length := by rw [i3.len, List.length_map]
    walk_at "rdn"
    refine rd_seq ?_
    walk_at "rdn"
    refine rd_gtup (SqT.of hp) rfl (rd_gcons (rd_name (rd_gcons (rd_name (rd_gcons (rd_name (rd_gnil ?_)))))))
    walk_at "rdn"
    refine rd_seq ?_
    walk_at "rd"
    refine rd_seqT (SqT.of hp1) ?_
    refine lcg_gen T (walk_tup (xs := xs1)) (fun H' e => SqT.of (tup.x hp1 e)) (Nat.lt_of_le_of_lt (show xs1.length ≤ 8 by omega) (by decide)) (fun i D H y => ∀ e, zs[i]? = some e → y = crS (.zone e.1 e.2)) (fun i D H1 H2 y xs x hD h => h) (fun i x D H3' H4 hi x3 nD hD hx F go => ?_) (fun D ys H1 nD x1 hD hyl hys => ?_)
    · obtain ⟨rfl, hx⟩ := hx
      obtain ⟨e, he, hxe⟩ := get_im i1 hx
      obtain ⟨g1, g2⟩ := hz e (List.mem_of_getElem? he)
      obtain ⟨pq, u1, u2, rfl, hpq, hu1, hu2⟩ := im2 hxe
      obtain rfl := imS' hu1
      obtain rfl := imI' hu2
      have b1 := name_len g1
      have b2 := num_len g2
      refine rd_gtup (SqT.of (tup.x hpq x3)) rfl (rd_gcons (rd_name (rd_gcons (rd_name (rd_gnil ?_)))))
      refine ⟨rfl, ?_⟩
      walk_at "rd"
      walk_at "fscR"
      walk_at "fssR"
      walk_at "fscR"
      walk_at "fsiR"
      rw [tS_zone]
      refine go _ _ (fun d' hd' => ?_) .refl
      rw [he] at hd'
      cases Option.some.inj hd'
      rfl
    have hy := ys_eq (by omega) hys
    subst hy
    have hp2 := tup.x hp2 x1
    have hp3 := tup.x hp3 x1
    have i2 := i2.x x1
    have i3 := i3.x x1
    have n1 : Nw H D := nD
    clear hys hp hp1 i1 nD h1 h2 h3 hv hyl
    walk_at "rdn"
    refine rd_seq ?_
    walk_at "rd"
    refine rd_seqT (SqT.of hp2) ?_
    refine lcg_gen T (walk_tup (xs := xs2)) (fun H' e => SqT.of (tup.x hp2 e)) (Nat.lt_of_le_of_lt (show xs2.length ≤ 8 by omega) (by decide)) (fun i D H y => ∀ e, an[i]? = some e → y = crS (.anchor e)) (fun i D H1 H2 y xs x hD h => h) (fun i x D H3' H4 hi x3 nD hD hx F go => ?_) (fun D2 ys H2 nD x2 hD2 hyl hys => ?_)
    · obtain ⟨rfl, hx⟩ := hx
      obtain ⟨e, he, hxe⟩ := get_im i2 hx
      have g1 := ha e (List.mem_of_getElem? he)
      obtain rfl := imS' hxe
      have b1 := NK.id_len g1
      walk_at "rd"
      refine ⟨rfl, ?_⟩
      walk_at "rd"
      walk_at "fscR"
      walk_at "fssR"
      rw [tS_anchor]
      refine go _ _ (fun d' hd' => ?_) .refl
      rw [he] at hd'
      cases Option.some.inj hd'
      rfl
    have hy := ys_eq (by omega) hys
    subst hy
    have hD := lst.x hD x2
    walk_at "rd"
    refine ⟨D, D2, _, _, rfl, rfl, hD, hD2, Nat.le_trans (show _ ≤ 100 by rw [List.length_map, List.length_map]; omega) (by decide), ?_⟩
    have eo : Ext T [D] H2 (upd H2 D (.lst (zs.map (fun z => crS (.zone z.1 z.2)) ++ an.map (fun k => crS (.anchor k))))) := .mut (by simp) hD
    have lo := lsts_one hD
    have hp3 := SqP.ext (tup.x hp3 x2) eo lo
    have i3 := ImAll.ext eo lo _ _ (i3.x x2)
    have xw := (x1.trans x2).own (u := .lst (zs.map (fun z => crS (.zone z.1 z.2)) ++ an.map (fun k => crS (.anchor k)))) n1 hD
    have hDn : upd H2 D (.lst (zs.map (fun z => crS (.zone z.1 z.2)) ++ an.map (fun k => crS (.anchor k)))) D = some (.lst (zs.map (fun z => crS (.zone z.1 z.2)) ++ an.map (fun k => crS (.anchor k)))) := upd_same
    clear eo lo hD hD2 hp2 i2 x1 x2 hys hyl nD
    generalize upd H2 D _ = H3 at hp3 i3 xw hDn ⊢
    walk_at "rdn"
    refine rd_seq ?_
    walk_at "rd"
    refine rd_seqT (SqT.of hp3) ?_
    refine lcg_gen T (walk_tup (xs := xs3)) (fun H' e => SqT.of (tup.x hp3 e)) (Nat.lt_of_le_of_lt (show xs3.length ≤ 8 by omega) (by decide)) (fun i D H y => ∀ e, ss[i]? = some e → y = crS (.set e.1 e.2)) (fun i D H1 H2 y xs x hD h => h) (fun i x D H3' H4 hi x3 nD hD hx F go => ?_) (fun D3 ys H4 nD x4 hD3 hyl hys => ?_)
    · obtain ⟨rfl, hx⟩ := hx
      obtain ⟨e, he, hxe⟩ := get_im i3 hx
      obtain ⟨g1, g2⟩ := hs e (List.mem_of_getElem? he)
      obtain ⟨pq, u1, u2, rfl, hpq, hu1, hu2⟩ := im2 hxe
      obtain rfl := imS' hu1
      obtain rfl := imS' hu2
      have b1 := name_len g1
      have b2 := NK.id_len g2
      refine rd_gtup (SqT.of (tup.x hpq x3)) rfl (rd_gcons (rd_name (rd_gcons (rd_name (rd_gnil ?_)))))
      refine ⟨rfl, ?_⟩
      walk_at "rd"
      walk_at "fscR"
      walk_at "fssR"
      walk_at "fscR"
      walk_at "fssR"
      rw [tS_set]
      refine go _ _ (fun d' hd' => ?_) .refl
      rw [he] at hd'
      cases Option.some.inj hd'
      rfl
    have hy := ys_eq (by omega) hys
    subst hy
    have hDn := lst.x hDn x4
    walk_at "rd"
    refine ⟨D, D3, _, _, rfl, rfl, hDn, hD3, Nat.le_trans (show _ ≤ 100 by rw [List.length_append, List.length_map, List.length_map, List.length_map]; omega) (by decide), ?_⟩
    have xw2 := (xw.trans x4).own (u := .lst ((zs.map (fun z => crS (.zone z.1 z.2)) ++ an.map (fun k => crS (.anchor k))) ++ ss.map (fun e => crS (.set e.1 e.2)))) n1 hDn
    walk_at "rd"
    exact q D _ xw2 n1 (by rw [← List.append_assoc]; exact upd_same)
/-- the lines of a state -/
def spStateT (T : List (Addr × Str)) : Sp := fun vs H Q _ => ∃ (v : V) (its : List (Sl × Itx)) (on : List (Str × Str)), vs = [v] ∧ Im H v (.tuple [.tuple (its.map itsD), .tuple (on.map stsD)]) ∧ (∀ i ∈ its, SlOk i.1 ∧ ItOk2 i.1 i.2) ∧ (∀ s ∈ on, idB s.1 = true ∧ nameB s.2 = true) ∧ its.length ≤ 8 ∧ on.length ≤ 8 ∧
  ∀ p H', Ext T [] H H' → Nw H p → H' p = some (.lst (its.map (fun i => crS (.item i.1 i.2)) ++ on.map (fun s => crS (.on s.1 s.2)))) → Q (.ref p) H'
theorem ok_state_lines (D : Def K mg "state_lines" s_state_lines ["state"]) (mb : ∀ x ∈ bltns, mg x = none) (G_placed_text : Ok P w K mg base 3 "placed_text" ["slot", "item"] spPlacedT) : Ok P w K mg base 4 "state_lines" ["state"] (spStateT T) := by
  refine D.ok sc_state_lines (fun vs H Q E h => ?_) (fun cdv f A outer s H vs Q E hr h => ?_)
  · obtain ⟨v, its, on, rfl, _⟩ := h
    rfl
  · obtain ⟨v, its, on, rfl, hv, hi, ho, li, lo, q⟩ := h
    refine ⟨_, (pss_cons (ps_asg (pv 0) (pg_tupU (n := 2) K rfl rfl (pgs_cons (pg_name (i := 1) sc_state_lines.nd rfl (.inl rfl)) (pgs_cons (pg_name (i := 2) sc_state_lines.nd rfl (.inl rfl)) pgs_nil))))
   (pss_cons (ps_setLc (i := 3) (own := [("slot", 4), ("item", 5)]) (tt := tYes) rfl sc_state_lines.nd rfl rfl (sw_true rfl rfl rfl (by decide +kernel)) (pi_seq K rfl (pv 1)) (blkOk_by (N := N_state_lines) (sc := defScope s_state_lines) (by decide +kernel)) (fun _ _ _ _ _ => (pg_tupU (n := 2) K rfl rfl (pgs_cons (pg_name (i := 4) sc_state_lines.nd rfl (Or.inl rfl)) (pgs_cons (pg_name (i := 5) sc_state_lines.nd rfl (Or.inl rfl)) pgs_nil)))) (fun _ _ _ _ _ => pts_nil) (fun _ _ _ _ _ => (pe_callO G_placed_text (hr.mono (by decide)) (by rfl) (pa_cons (pv 4) (pa_cons (pv 5) pa_nil)))))
   (pss_cons (ps_expr (pe_bm PySem.F.plainAttrs_list PySem.F.slot_list_extend PySem.F.type_list_extend mt_extend (pv 3) (pa_cons (pe_lc (own := [("server", 6), ("zone", 7)]) (tt := tYes) rfl sc_state_lines.nd (pi_seq K rfl (pv 2)) (blkOk_by (N := N_state_lines) (sc := defScope s_state_lines) (by decide +kernel)) (fun _ _ _ _ _ => (pg_tupU (n := 2) K rfl rfl (pgs_cons (pg_name (i := 6) sc_state_lines.nd rfl (Or.inl rfl)) (pgs_cons (pg_name (i := 7) sc_state_lines.nd rfl (Or.inl rfl)) pgs_nil)))) (fun _ _ _ _ _ => pts_nil) (fun _ _ _ _ _ => (pe_fstr (.cons pe_str (.cons (pe_fmt (pv 6)) (.cons pe_str (.cons (pe_fmt (pv 7)) PJ.nil))))))) pa_nil)))
   (pss_one (ps_ret (pv 3)))))), ?_⟩
    obtain ⟨p, v1, v2, rfl, hp, h1, h2⟩ := im2 hv
    obtain ⟨p1, xs1, rfl, hp1, i1⟩ := h1.tup'
    obtain ⟨p2, xs2, rfl, hp2, i2⟩ := h2.tup'
    have l1 : xs1.length = its.length := by rw [i1.len, List.length_map]
    have l2 : xs2.length = on.length := by rw [i2.len, List.length_map]
    walk_at "rdn"
    refine rd_seq ?_
    walk_at "rdn"
    refine rd_gtup (SqT.of hp) rfl (rd_gcons (rd_name (rd_gcons (rd_name (rd_gnil ?_)))))
    walk_at "rdn"
    refine rd_seq ?_
    walk_at "rd"
    refine rd_seqT (SqT.of hp1) ?_
    refine lcg_gen T (walk_tup (xs := xs1)) (fun H' e => SqT.of (tup.x hp1 e)) (Nat.lt_of_le_of_lt (show xs1.length ≤ 8 by omega) (by decide)) (fun i D H y => ∀ e, its[i]? = some e → y = crS (.item e.1 e.2)) (fun i D H1 H2 y xs x hD h => h) (fun i x D H3' H4 hi' x3 nD hD hx F go => ?_) (fun D ys H1 nD x1 hD hyl hys => ?_)
    · obtain ⟨rfl, hx⟩ := hx
      obtain ⟨e, he, hxe⟩ := get_im i1 hx
      obtain ⟨g1, g2⟩ := hi e (List.mem_of_getElem? he)
      obtain ⟨pq, u1, u2, rfl, hpq, hu1, hu2⟩ := im2 hxe
      refine rd_gtup (SqT.of (tup.x hpq x3)) rfl (rd_gcons (rd_name (rd_gcons (rd_name (rd_gnil ?_)))))
      refine ⟨rfl, ?_⟩
      walk_at "rd"
      refine ⟨u1, u2, e.1, e.2, rfl, hu1.x x3, hu2.x x3, g1, g2, ?_⟩
      refine go _ _ (fun d' hd' => ?_) .refl
      rw [he] at hd'
      cases Option.some.inj hd'
      rfl
    have hy := ys_eq (by omega) hys
    subst hy
    have hp2 := tup.x hp2 x1
    have i2 := i2.x x1
    have n1 : Nw H D := nD
    clear hys hp hp1 i1 nD h1 h2 hv hyl
    walk_at "rdn"
    refine rd_seq ?_
    walk_at "rd"
    refine rd_seqT (SqT.of hp2) ?_
    refine lcg_gen T (walk_tup (xs := xs2)) (fun H' e => SqT.of (tup.x hp2 e)) (Nat.lt_of_le_of_lt (show xs2.length ≤ 8 by omega) (by decide)) (fun i D H y => ∀ e, on[i]? = some e → y = crS (.on e.1 e.2)) (fun i D H1 H2 y xs x hD h => h) (fun i x D H3' H4 hi x3 nD hD hx F go => ?_) (fun D2 ys H2 nD x2 hD2 hyl hys => ?_)
    · obtain ⟨rfl, hx⟩ := hx
      obtain ⟨e, he, hxe⟩ := get_im i2 hx
      obtain ⟨g1, g2⟩ := ho e (List.mem_of_getElem? he)
      obtain ⟨pq, u1, u2, rfl, hpq, hu1, hu2⟩ := im2 hxe
      obtain rfl := imS' hu1
      obtain rfl := imS' hu2
      have b1 := NK.id_len g1
      have b2 := name_len g2
      refine rd_gtup (SqT.of (tup.x hpq x3)) rfl (rd_gcons (rd_name (rd_gcons (rd_name (rd_gnil ?_)))))
      refine ⟨rfl, ?_⟩
      walk_at "rd"
      walk_at "fscR"
      walk_at "fssR"
      walk_at "fscR"
      walk_at "fssR"
      rw [tS_on]
      refine go _ _ (fun d' hd' => ?_) .refl
      rw [he] at hd'
      cases Option.some.inj hd'
      rfl
    have hy := ys_eq (by omega) hys
    subst hy
    have hD := lst.x hD x2
    walk_at "rd"
    refine ⟨D, D2, _, _, rfl, rfl, hD, hD2, Nat.le_trans (show _ ≤ 100 by rw [List.length_map, List.length_map]; omega) (by decide), ?_⟩
    have xw2 := (x1.trans x2).own (u := .lst (its.map (fun i => crS (.item i.1 i.2)) ++ on.map (fun s => crS (.on s.1 s.2)))) n1 hD
    walk_at "rd"
    exact q D _ xw2 n1 upd_same
end

open PySem PySem.Spec PyProof.Rows L2
open PySem.W (EachIs)
theorem c_deed_len : (Str.ofString "deed ").length = 5 := by decide +kernel
theorem sg_c_deed : sg (Str.ofString "deed ") = sg (Str.ofString "deed") ++ [32] := by decide +kernel
theorem c_before_len : (Str.ofString "before ").length = 7 := by decide +kernel
theorem sg_c_before : sg (Str.ofString "before ") = sg (Str.ofString "before") ++ [32] := by decide +kernel
theorem c_end_len : (Str.ofString "end ").length = 4 := by decide +kernel
theorem sg_c_end : sg (Str.ofString "end ") = sg (Str.ofString "end") ++ [32] := by decide +kernel
theorem c_at_len : (Str.ofString "at ").length = 3 := by decide +kernel
theorem sg_c_at : sg (Str.ofString "at ") = sg (Str.ofString "at") ++ [32] := by decide +kernel
local macro_rules | `(tactic| walk_at "fslS") => `(tactic| (refine Nat.le_trans (?_ : _ ≤ 100000) (by decide); (try simp only [app_len2, sp_len, nl_len, em_len, c_put_len, c_zone_len, c_lag_len, c_anchor_len, c_set_len, c_on_len, c_deed_len, c_before_len, c_end_len, c_at_len]); omega))
local macro_rules | `(tactic| walk_at "fssS") => `(tactic| (refine fs_s (by walk_at "fslS") ?_; refine fs_y ⟨by walk_at "fslS", ?_⟩; walk_at "rd"))
local macro_rules | `(tactic| walk_at "fsiS") => `(tactic| (refine fs_i (by omega) ?_; refine fs_y ⟨by walk_at "fslS", ?_⟩; walk_at "rd"))
local macro_rules | `(tactic| walk_at "fscS") => `(tactic| (refine ⟨by walk_at "fslS", ?_⟩; walk_at "rd"))
section
variable {T : List (Addr × Str)} {P : Program} {w : World} {K : PySem.W.Frag} {mg : Str → Option Value} {base : Heap}
local macro_rules | `(tactic| walk_at "tr") => `(tactic| first
  | assumption
  | exact Ext.refl
  | ((with_reducible refine' Im.x (T := T) (H := ?trH) ?tra ?tre); (case tre => assumption); (case tra => walk_at "tr"))
  | ((with_reducible refine' Im.y (T := T) (H := ?trH) ?tra ?tre ?trt); (case tre => assumption); (case trt => walk_at "tr"); (case tra => walk_at "tr"))
  | ((with_reducible refine' ImAll.x (T := T) (H := ?trH) ?tra ?tre); (case tre => assumption); (case tra => walk_at "tr"))
  | ((with_reducible refine' ImAll.y (T := T) (H := ?trH) ?tra ?tre ?trt); (case tre => assumption); (case trt => walk_at "tr"); (case tra => walk_at "tr"))
  | ((with_reducible refine' Ls.x (T := T) (H := ?trH) ?tra ?tre); (case tre => assumption); (case tra => walk_at "tr"))
  | ((with_reducible refine' Ls.y (T := T) (H := ?trH) ?tra ?tre ?trn ?trt); (case tre => assumption); (case trt => walk_at "tr"); (case trn => walk_at "tr"); (case tra => walk_at "tr"))
  | ((with_reducible refine' SqP.x (T := T) (H := ?trH) ?tra ?tre); (case tre => assumption); (case tra => walk_at "tr"))
  | ((with_reducible refine' SqP.y (T := T) (H := ?trH) ?tra ?tre ?trt); (case tre => assumption); (case trt => walk_at "tr"); (case tra => walk_at "tr"))
  | ((with_reducible refine' StAt.x (T := T) (H := ?trH) ?tra ?tre); (case tre => assumption); (case tra => walk_at "tr"))
  | ((with_reducible refine' StAt.y (T := T) (H := ?trH) ?tra ?tre ?trt); (case tre => assumption); (case trt => walk_at "tr"); (case tra => walk_at "tr"))
  | ((with_reducible refine' Pools.ext0 (T := T) (H := ?trH) ?tra ?tre); (case tre => assumption); (case tra => walk_at "tr"))
  | ((with_reducible refine' Pools.ext (T := T) (H := ?trH) ?tra ?tre ?trt); (case tre => assumption); (case trt => walk_at "tr"); (case tra => walk_at "tr"))
  | ((with_reducible refine' CL.x (T := T) (H := ?trH) ?tra ?tre); (case tre => assumption); (case tra => walk_at "tr"))
  | ((with_reducible refine' CL.y (T := T) (H := ?trH) ?tra ?tre); (case tre => assumption); (case tra => walk_at "tr"))
  | ((with_reducible refine' Tape.ext (T := T) (H := ?trH) ?tra ?tre); (case tre => assumption); (case tra => walk_at "tr"))
  | ((with_reducible refine' lst.x (T := T) (H := ?trH) ?tra ?tre); (case tre => assumption); (case tra => walk_at "tr"))
  | ((with_reducible refine' lst.y (T := T) (H := ?trH) ?tra ?tre ?trn); (case tre => assumption); (case trn => walk_at "tr"); (case tra => walk_at "tr"))
  | ((with_reducible refine' tup.x (T := T) (H := ?trH) ?tra ?tre); (case tre => assumption); (case tra => walk_at "tr"))
  | ((with_reducible refine' tup.y (T := T) (H := ?trH) ?tra ?tre ?trt); (case tre => assumption); (case trt => walk_at "tr"); (case tra => walk_at "tr"))
  | ((with_reducible refine' frz.x (T := T) (H := ?trH) ?tra ?tre); (case tre => assumption); (case tra => walk_at "tr"))
  | ((with_reducible refine' frz.y (T := T) (H := ?trH) ?tra ?tre ?trt); (case tre => assumption); (case trt => walk_at "tr"); (case tra => walk_at "tr"))
  | ((with_reducible refine' Im.z (T := T) (H := ?trH) ?tra ?tre ?trt); (case tre => assumption); (case trt => assumption); (case tra => walk_at "tr"))
  | ((with_reducible refine' ImAll.z (T := T) (H := ?trH) ?tra ?tre ?trt); (case tre => assumption); (case trt => assumption); (case tra => walk_at "tr"))
  | ((with_reducible refine' StAt.z (T := T) (H := ?trH) ?tra ?tre ?trt); (case tre => assumption); (case trt => assumption); (case tra => walk_at "tr"))
  | ((with_reducible refine' SqP.z (T := T) (H := ?trH) ?tra ?tre ?trt); (case tre => assumption); (case trt => assumption); (case tra => walk_at "tr"))
  | ((with_reducible refine' tup.z (T := T) (H := ?trH) ?tra ?tre ?trt); (case tre => assumption); (case trt => assumption); (case tra => walk_at "tr"))
  | ((with_reducible refine' Ls.z (T := T) (H := ?trH) ?tra ?tre ?trt ?trn); (case tre => assumption); (case trt => assumption); (case trn => assumption); (case tra => walk_at "tr"))
  | ((with_reducible refine' lst.z (T := T) (H := ?trH) ?tra ?tre ?trn); (case tre => assumption); (case trn => assumption); (case tra => walk_at "tr"))
  | ((with_reducible refine' CL.z (T := T) (H := ?trH) ?tra ?tre ?trn); (case tre => assumption); (case trn => assumption); (case tra => walk_at "tr"))
  | ((with_reducible refine' Tape.ne1 (H := ?trH) ?trt ?trn); (case trn => assumption); (case trt => walk_at "tr"))
  | ((with_reducible refine' Ext.trans (H1 := ?trH) ?tra (Ext.any ?tre)); (case tre => assumption); (case tra => walk_at "tr"))
  | ((with_reducible refine' Ext.trans (H1 := ?trH) ?tra ?tre); (case tre => assumption); (case tra => walk_at "tr"))
  | ((with_reducible refine' Ext.back1 (T := T) (H1 := ?trH) ?tre ?trn ?tra); (case tra => assumption); (case trn => walk_at "tr"); (case tre => walk_at "tr"))
  | ((with_reducible refine' Ext.back0 (T := T) (H1 := ?trH) ?tre ?tra); (case tra => assumption); (case tre => walk_at "tr"))
  | ((with_reducible refine' SqT.of ?tra); (case tra => walk_at "tr"))
  | ((with_reducible refine' SqL.of ?tra); (case tra => walk_at "tr")))
local macro_rules | `(tactic| walk_at "al") => `(tactic| (refine ⟨by first | (show _ ≤ sizeLine; decide) | walk_at "sz", ?_⟩; intro alp aln; generalize alG : upd _ alp _ = alH; obtain ⟨aln2, alx, alh⟩ := al_of (T := T) aln alG; clear alG aln))
local macro_rules | `(tactic| walk_at "al0") => `(tactic| (intro alp aln; generalize alG : upd _ alp _ = alH; obtain ⟨aln2, alx, alh⟩ := al_of (T := T) aln alG; clear alG aln))

theorem dxW_ne (d : Dx) : dxW d ≠ [] := by cases d <;> simp [dxW]
theorem tS_deed (a b : Nat) (d : Dx) : (((((Str.empty ++ Str.ofString "deed ") ++ Str.ofString (toString ((a : Nat) : Int))) ++ Str.ofString " ") ++ Str.ofString (toString ((b : Nat) : Int))) ++ Str.ofString " ") ++ jn 32 (dxW d) = jn 32 (crW (.deed a b d)) := by
  show _ = jn 32 (Str.ofString "deed" :: numS a :: numS b :: dxW d)
  rw [jn_cons 32 _ (by simp), jn_cons 32 _ (by simp), jn_cons 32 _ (dxW_ne d)]
  refine sg_inj ?_
  simp only [sg_app, sg_em, sg_c_deed, sg_sp, sg_num, sg_numS, sg_S]
  simp
theorem tS_before (a b : Nat) : (((Str.empty ++ Str.ofString "before ") ++ Str.ofString (toString ((a : Nat) : Int))) ++ Str.ofString " ") ++ Str.ofString (toString ((b : Nat) : Int)) = jn 32 (crW (.before a b)) := sg_inj (by
  show _ = TL.joinL [32] ([Str.ofString "before", numS a, numS b].map sg)
  simp only [sg_app, sg_em, sg_c_before, sg_sp, sg_num, sg_numS, List.map, TL.joinL]
  simp)
theorem tS_end (m : Nat) : (Str.empty ++ Str.ofString "end ") ++ Str.ofString (toString ((m : Nat) : Int)) = jn 32 (crW (.fin m)) := sg_inj (by
  show _ = TL.joinL [32] ([Str.ofString "end", numS m].map sg)
  simp only [sg_app, sg_em, sg_c_end, sg_num, sg_numS, List.map, TL.joinL]
  simp)
theorem tS_at (r : Nat × Dx) : (((Str.empty ++ Str.ofString "at ") ++ Str.ofString (toString ((r.1 : Nat) : Int))) ++ Str.ofString " ") ++ jn 32 (dxW r.2) = jn 32 (stepW r) := by
  show _ = jn 32 (Str.ofString "at" :: numS r.1 :: dxW r.2)
  rw [jn_cons 32 _ (by simp), jn_cons 32 _ (dxW_ne r.2)]
  refine sg_inj ?_
  simp only [sg_app, sg_em, sg_c_at, sg_sp, sg_num, sg_numS, sg_S]
  simp
theorem sum_rows {rows : List (List Str)} (h : RowsOk rows) : (((rows.map (jn 32))).map (·.length)).sum ≤ 200 * rows.length := by
  induction rows with
  | nil => exact Nat.le_refl _
  | cons x r ih =>
    have := ih fun y hy => h y (List.mem_cons_of_mem _ hy)
    have := (h x List.mem_cons_self).2.2.1
    simp only [List.map_cons, List.sum_cons, List.length_cons]
    omega
theorem rd_joinNl {H : Hp} {Q : VK} {p : Addr} {rows : List (List Str)} (hp : H p = some (.lst ((rows.map (jn 32)).map V.str))) (hR : RowsOk rows) (hl : rows.length ≤ 40) (q : Q (.str (rowsS rows)) H) : rJoin K (.str (Str.ofString "\n")) [.ref p] H Q := by
  have hs := sum_rows hR
  refine rd_join (SqL.of hp) (by
    rw [show (Str.ofString "\n").length = 1 from by decide +kernel, List.length_map]
    omega) ?_
  rw [join_jn (s := 10) (by decide +kernel)]
  exact q
def spPlanT (T : List (Addr × Str)) : Sp := fun vs H Q _ => ∃ (v : V) (rs : List (Nat × Dx)), vs = [v] ∧ Im H v (.tuple (rs.map stepD)) ∧ stepsOk rs ∧ rs.length ≤ 8 ∧ ∀ H', Ext T [] H H' → Q (.str (rowsS (rs.map stepW))) H'
theorem ok_plan_text (D : Def K mg "plan_text" s_plan_text ["plan"]) (G_deed_text : Ok P w K mg base 4 "deed_text" ["deed"] spDxT) : Ok P w K mg base 5 "plan_text" ["plan"] (spPlanT T) := by
  refine D.ok sc_plan_text (fun vs H Q E h => ?_) (fun cdv f A outer s H vs Q E hr h => ?_)
  · obtain ⟨v, rs, rfl, _⟩ := h
    rfl
  · obtain ⟨v, rs, rfl, hv, hrs, hl, q⟩ := h
    obtain ⟨p, xs, rfl, hp, hxi⟩ := hv.tup'
    refine ⟨_, (pss_one (ps_ret (pe_m1 PySem.F.slot_str_join PySem.F.type_str_join (mt_joinU K rfl) pe_str (pe_lc (own := [("moment", 1), ("deed", 2)]) (tt := tYes) rfl sc_plan_text.nd (pi_seq K rfl (pv 0)) (blkOk_by (N := N_plan_text) (sc := defScope s_plan_text) (by decide +kernel)) (fun _ _ _ _ _ => (pg_tupU (n := 2) K rfl rfl (pgs_cons (pg_name (i := 1) sc_plan_text.nd rfl (Or.inl rfl)) (pgs_cons (pg_name (i := 2) sc_plan_text.nd rfl (Or.inl rfl)) pgs_nil)))) (fun _ _ _ _ _ => pts_nil) (fun _ _ _ _ _ => (pe_fstr (.cons pe_str (.cons (pe_fmt (pv 1)) (.cons pe_str (.cons (pe_fmt (pe_callO G_deed_text (hr.mono (by decide)) (by rfl) (pa_cons (pv 2) pa_nil))) PJ.nil)))))))))), ?_⟩
    have hxl : xs.length = rs.length := by rw [hxi.len, List.length_map]
    walk_at "rd"
    refine rd_seqT (SqT.of hp) ?_
    refine lcg_gen T (walk_tup (xs := xs)) (fun H' e => SqT.of (tup.x hp e)) (Nat.lt_of_le_of_lt (show xs.length ≤ 8 by omega) (by decide)) (fun i D H y => ∀ r, rs[i]? = some r → y = V.str (jn 32 (stepW r))) (fun i D H1 H2 y xs e hD h => h) (fun i x D H3 H4 hi x3 nD hD hx F go => ?_) (fun D zs H3 nD x3 hD hzl hzs => ?_)
    · obtain ⟨rfl, hx⟩ := hx
      obtain ⟨r, hr2, hxr⟩ := get_im hxi hx
      obtain ⟨g1, g2⟩ := hrs r (List.mem_of_getElem? hr2)
      have b1 := num_len g1
      have b2 := dx_jlen g2
      obtain ⟨pq, u1, u2, rfl, hpq, hu1, hu2⟩ := im2 hxr
      obtain rfl := imI' hu1
      refine rd_gtup (SqT.of (tup.x hpq x3)) rfl (rd_gcons (rd_name (rd_gcons (rd_name (rd_gnil ?_)))))
      refine ⟨rfl, ?_⟩
      walk_at "rd"
      walk_at "fscS"
      walk_at "fsiS"
      walk_at "fscS"
      refine ⟨u2, r.2, rfl, hu2.x x3, g2, ?_⟩
      walk_at "rd"
      walk_at "fssS"
      rw [tS_at]
      refine go _ _ (fun r' hr' => ?_) .refl
      rw [hr2] at hr'
      cases Option.some.inj hr'
      rfl
    have hz := ys_eq (by omega) hzs
    rw [hz] at hD
    have e1 : rs.map (fun r => V.str (jn 32 (stepW r))) = ((rs.map stepW).map (jn 32)).map V.str := by
      rw [List.map_map, List.map_map]
      rfl
    rw [e1] at hD
    walk_at "rd"
    exact rd_joinNl hD (step_rows hrs) (by rw [List.length_map]; omega) (q _ x3)
theorem range_getD {α : Type} (d : α) : ∀ l : List α, (List.range l.length).map (fun i => l.getD i d) = l := fun l => by
  refine List.ext_getElem? fun i => ?_
  rw [List.getElem?_map]
  by_cases hi : i < l.length
  · rw [List.getElem?_range hi]
    show some (l.getD i d) = _
    rw [List.getD_eq_getElem?_getD, List.getElem?_eq_getElem hi]
    rfl
  · rw [List.getElem?_eq_none (by rw [List.length_range]; omega), List.getElem?_eq_none (by omega)]
    rfl
def spDeedsT (T : List (Addr × Str)) : Sp := fun vs H Q _ => ∃ (v u : V) (ds : List (Dx × Nat × Nat)), vs = [v, u] ∧ Im H v (.tuple (ds.map fun d => dxD d.1)) ∧ Im H u (.tuple (ds.map fun d => bfD d.2)) ∧ (∀ d ∈ ds, DxOk d.1 ∧ d.2.1 < 100000 ∧ d.2.2 < 100000) ∧ ds.length ≤ 8 ∧
  ∀ p H', Ext T [] H H' → Nw H p → H' p = some (.lst (ds.map fun d => crS (.deed d.2.1 d.2.2 d.1))) → Q (.ref p) H'
theorem ok_deed_lines (D : Def K mg "deed_lines" s_deed_lines ["deeds", "bounds"]) (mb : ∀ x ∈ bltns, mg x = none) (G_deed_text : Ok P w K mg base 4 "deed_text" ["deed"] spDxT) : Ok P w K mg base 5 "deed_lines" ["deeds", "bounds"] (spDeedsT T) := by
  refine D.ok sc_deed_lines (fun vs H Q E h => ?_) (fun cdv f A outer s H vs Q E hr h => ?_)
  · obtain ⟨v, u, ds, rfl, _⟩ := h
    rfl
  · obtain ⟨v, u, ds, rfl, hv, hu, hd, hl, q⟩ := h
    refine ⟨_, (pss_one (ps_ret (pe_lc (own := [("deed", 2), ("least", 3), ("most", 4)]) (tt := tYes) rfl sc_deed_lines.nd (pi_zipAU K rfl (by rfl) (mb _ (by decide)) (pa_cons (pv 0) (pa_cons (pv 1) pa_nil))) (blkOk_by (N := N_deed_lines) (sc := defScope s_deed_lines) (by decide +kernel)) (fun _ _ _ _ _ => (pg_tupU (n := 2) K rfl rfl (pgs_cons (pg_name (i := 2) sc_deed_lines.nd rfl (Or.inl rfl)) (pgs_cons (pg_tupU (n := 2) K rfl rfl (pgs_cons (pg_name (i := 3) sc_deed_lines.nd rfl (Or.inl rfl)) (pgs_cons (pg_name (i := 4) sc_deed_lines.nd rfl (Or.inl rfl)) pgs_nil))) pgs_nil)))) (fun _ _ _ _ _ => pts_nil) (fun _ _ _ _ _ => (pe_fstr (.cons pe_str (.cons (pe_fmt (pv 3)) (.cons pe_str (.cons (pe_fmt (pv 4)) (.cons pe_str (.cons (pe_fmt (pe_callO G_deed_text (hr.mono (by decide)) (by rfl) (pa_cons (pv 2) pa_nil))) PJ.nil))))))))))), ?_⟩
    obtain ⟨p1, xs1, rfl, hp1, i1⟩ := hv.tup'
    obtain ⟨p2, xs2, rfl, hp2, i2⟩ := hu.tup'
    have l1 : xs1.length = ds.length := by rw [i1.len, List.length_map]
    have l2 : xs2.length = ds.length := by rw [i2.len, List.length_map]
    walk_at "rd"
    refine ⟨p1, p2, xs1, xs2, rfl, .inr ⟨SqT.of hp1, SqT.of hp2, ?_⟩⟩
    refine lcg_zipTF T (SqT.of hp1) (SqT.of hp2) (by omega) (Nat.lt_of_le_of_lt (show xs1.length ≤ 8 by omega) (by decide)) (fun i => (ds.map fun d => crS (.deed d.2.1 d.2.2 d.1)).getD i .non) (fun i x y t hx hy H' e' ht R g1 => ?_) (fun D H2 nD e2 hD => ?_)
    · obtain ⟨e, he, hxe⟩ := get_im (d := fun d : Dx × Nat × Nat => dxD d.1) i1 hx
      obtain ⟨e', he2, hye⟩ := get_im (d := fun d : Dx × Nat × Nat => bfD d.2) i2 hy
      rw [he] at he2
      cases Option.some.inj he2
      obtain ⟨g1', g2, g3⟩ := hd e (List.mem_of_getElem? he)
      obtain ⟨pq, u1, u2, rfl, hpq, hu1, hu2⟩ := im2 hye
      obtain rfl := imI' hu1
      obtain rfl := imI' hu2
      have b1 := num_len g2
      have b2 := num_len g3
      have b3 := dx_jlen g1'
      refine rd_gtup (SqT.of ht) rfl (rd_gcons (rd_name (rd_gcons (rd_gtup (SqT.of (tup.x hpq e')) rfl (rd_gcons (rd_name (rd_gcons (rd_name (rd_gnil ?_)))))))))
      refine rd_gnil ?_
      refine ⟨rfl, ?_⟩
      walk_at "rd"
      walk_at "fscS"
      walk_at "fsiS"
      walk_at "fscS"
      walk_at "fsiS"
      walk_at "fscS"
      refine ⟨x, e.1, rfl, hxe.x e', g1', ?_⟩
      walk_at "rd"
      walk_at "fssS"
      rw [tS_deed]
      have hf : (ds.map fun d => crS (.deed d.2.1 d.2.2 d.1)).getD i .non = crS (.deed e.2.1 e.2.2 e.1) := by
        rw [List.getD_eq_getElem?_getD, List.getElem?_map, he]
        rfl
      rw [hf] at g1
      exact g1 _ .refl
    · have e1 : (List.range xs1.length).map (fun i => (ds.map fun d => crS (.deed d.2.1 d.2.2 d.1)).getD i .non) = ds.map fun d => crS (.deed d.2.1 d.2.2 d.1) := by
        have := range_getD V.non (ds.map fun d => crS (.deed d.2.1 d.2.2 d.1))
        rw [List.length_map, ← l1] at this
        exact this
      rw [e1] at hD
      walk_at "rd"
      exact q D H2 e2 nD hD
end

open PySem PySem.Spec PyProof.Rows L2
open PySem.W (EachIs)
local macro_rules | `(tactic| walk_at "fslT") => `(tactic| (refine Nat.le_trans (?_ : _ ≤ 100000) (by decide); (try simp only [app_len2, sp_len, nl_len, em_len, c_put_len, c_zone_len, c_lag_len, c_anchor_len, c_set_len, c_on_len, c_deed_len, c_before_len, c_end_len, c_at_len]); omega))
local macro_rules | `(tactic| walk_at "fsiT") => `(tactic| (refine fs_i (by omega) ?_; refine fs_y ⟨by walk_at "fslT", ?_⟩; walk_at "rd"))
local macro_rules | `(tactic| walk_at "fscT") => `(tactic| (refine ⟨by walk_at "fslT", ?_⟩; walk_at "rd"))
section
variable {T : List (Addr × Str)} {P : Program} {w : World} {K : PySem.W.Frag} {mg : Str → Option Value} {base : Heap}
local macro_rules | `(tactic| walk_at "tr") => `(tactic| first
  | assumption
  | exact Ext.refl
  | ((with_reducible refine' Im.x (T := T) (H := ?trH) ?tra ?tre); (case tre => assumption); (case tra => walk_at "tr"))
  | ((with_reducible refine' Im.y (T := T) (H := ?trH) ?tra ?tre ?trt); (case tre => assumption); (case trt => walk_at "tr"); (case tra => walk_at "tr"))
  | ((with_reducible refine' ImAll.x (T := T) (H := ?trH) ?tra ?tre); (case tre => assumption); (case tra => walk_at "tr"))
  | ((with_reducible refine' ImAll.y (T := T) (H := ?trH) ?tra ?tre ?trt); (case tre => assumption); (case trt => walk_at "tr"); (case tra => walk_at "tr"))
  | ((with_reducible refine' Ls.x (T := T) (H := ?trH) ?tra ?tre); (case tre => assumption); (case tra => walk_at "tr"))
  | ((with_reducible refine' Ls.y (T := T) (H := ?trH) ?tra ?tre ?trn ?trt); (case tre => assumption); (case trt => walk_at "tr"); (case trn => walk_at "tr"); (case tra => walk_at "tr"))
  | ((with_reducible refine' SqP.x (T := T) (H := ?trH) ?tra ?tre); (case tre => assumption); (case tra => walk_at "tr"))
  | ((with_reducible refine' SqP.y (T := T) (H := ?trH) ?tra ?tre ?trt); (case tre => assumption); (case trt => walk_at "tr"); (case tra => walk_at "tr"))
  | ((with_reducible refine' StAt.x (T := T) (H := ?trH) ?tra ?tre); (case tre => assumption); (case tra => walk_at "tr"))
  | ((with_reducible refine' StAt.y (T := T) (H := ?trH) ?tra ?tre ?trt); (case tre => assumption); (case trt => walk_at "tr"); (case tra => walk_at "tr"))
  | ((with_reducible refine' Pools.ext0 (T := T) (H := ?trH) ?tra ?tre); (case tre => assumption); (case tra => walk_at "tr"))
  | ((with_reducible refine' Pools.ext (T := T) (H := ?trH) ?tra ?tre ?trt); (case tre => assumption); (case trt => walk_at "tr"); (case tra => walk_at "tr"))
  | ((with_reducible refine' CL.x (T := T) (H := ?trH) ?tra ?tre); (case tre => assumption); (case tra => walk_at "tr"))
  | ((with_reducible refine' CL.y (T := T) (H := ?trH) ?tra ?tre); (case tre => assumption); (case tra => walk_at "tr"))
  | ((with_reducible refine' Tape.ext (T := T) (H := ?trH) ?tra ?tre); (case tre => assumption); (case tra => walk_at "tr"))
  | ((with_reducible refine' lst.x (T := T) (H := ?trH) ?tra ?tre); (case tre => assumption); (case tra => walk_at "tr"))
  | ((with_reducible refine' lst.y (T := T) (H := ?trH) ?tra ?tre ?trn); (case tre => assumption); (case trn => walk_at "tr"); (case tra => walk_at "tr"))
  | ((with_reducible refine' tup.x (T := T) (H := ?trH) ?tra ?tre); (case tre => assumption); (case tra => walk_at "tr"))
  | ((with_reducible refine' tup.y (T := T) (H := ?trH) ?tra ?tre ?trt); (case tre => assumption); (case trt => walk_at "tr"); (case tra => walk_at "tr"))
  | ((with_reducible refine' frz.x (T := T) (H := ?trH) ?tra ?tre); (case tre => assumption); (case tra => walk_at "tr"))
  | ((with_reducible refine' frz.y (T := T) (H := ?trH) ?tra ?tre ?trt); (case tre => assumption); (case trt => walk_at "tr"); (case tra => walk_at "tr"))
  | ((with_reducible refine' Im.z (T := T) (H := ?trH) ?tra ?tre ?trt); (case tre => assumption); (case trt => assumption); (case tra => walk_at "tr"))
  | ((with_reducible refine' ImAll.z (T := T) (H := ?trH) ?tra ?tre ?trt); (case tre => assumption); (case trt => assumption); (case tra => walk_at "tr"))
  | ((with_reducible refine' StAt.z (T := T) (H := ?trH) ?tra ?tre ?trt); (case tre => assumption); (case trt => assumption); (case tra => walk_at "tr"))
  | ((with_reducible refine' SqP.z (T := T) (H := ?trH) ?tra ?tre ?trt); (case tre => assumption); (case trt => assumption); (case tra => walk_at "tr"))
  | ((with_reducible refine' tup.z (T := T) (H := ?trH) ?tra ?tre ?trt); (case tre => assumption); (case trt => assumption); (case tra => walk_at "tr"))
  | ((with_reducible refine' Ls.z (T := T) (H := ?trH) ?tra ?tre ?trt ?trn); (case tre => assumption); (case trt => assumption); (case trn => assumption); (case tra => walk_at "tr"))
  | ((with_reducible refine' lst.z (T := T) (H := ?trH) ?tra ?tre ?trn); (case tre => assumption); (case trn => assumption); (case tra => walk_at "tr"))
  | ((with_reducible refine' CL.z (T := T) (H := ?trH) ?tra ?tre ?trn); (case tre => assumption); (case trn => assumption); (case tra => walk_at "tr"))
  | ((with_reducible refine' Tape.ne1 (H := ?trH) ?trt ?trn); (case trn => assumption); (case trt => walk_at "tr"))
  | ((with_reducible refine' Ext.trans (H1 := ?trH) ?tra (Ext.any ?tre)); (case tre => assumption); (case tra => walk_at "tr"))
  | ((with_reducible refine' Ext.trans (H1 := ?trH) ?tra ?tre); (case tre => assumption); (case tra => walk_at "tr"))
  | ((with_reducible refine' Ext.back1 (T := T) (H1 := ?trH) ?tre ?trn ?tra); (case tra => assumption); (case trn => walk_at "tr"); (case tre => walk_at "tr"))
  | ((with_reducible refine' Ext.back0 (T := T) (H1 := ?trH) ?tre ?tra); (case tra => assumption); (case tre => walk_at "tr"))
  | ((with_reducible refine' SqT.of ?tra); (case tra => walk_at "tr"))
  | ((with_reducible refine' SqL.of ?tra); (case tra => walk_at "tr")))
local macro_rules | `(tactic| walk_at "al") => `(tactic| (refine ⟨by first | (show _ ≤ sizeLine; decide) | walk_at "sz", ?_⟩; intro alp aln; generalize alG : upd _ alp _ = alH; obtain ⟨aln2, alx, alh⟩ := al_of (T := T) aln alG; clear alG aln))
local macro_rules | `(tactic| walk_at "al0") => `(tactic| (intro alp aln; generalize alG : upd _ alp _ = alH; obtain ⟨aln2, alx, alh⟩ := al_of (T := T) aln alG; clear alG aln))

structure CsOk (c : Cs) : Prop where
  zs : ∀ z ∈ c.zs, nameB z.1 = true ∧ z.2 < 100000
  an : ∀ k ∈ c.an, idB k = true
  ss : ∀ s ∈ c.ss, nameB s.1 = true ∧ idB s.2 = true
  its : ∀ i ∈ c.its, SlOk i.1 ∧ ItOk2 i.1 i.2
  on : ∀ s ∈ c.on, idB s.1 = true ∧ nameB s.2 = true
  ds : ∀ d ∈ c.ds, DxOk d.1 ∧ d.2.1 < 100000 ∧ d.2.2 < 100000
  bf : ∀ b ∈ c.bf, b.1 < 100000 ∧ b.2 < 100000
  fin : c.fin < 100000
  lz : c.zs.length ≤ 4
  la : c.an.length ≤ 4
  ls : c.ss.length ≤ 4
  li : c.its.length ≤ 4
  lo : c.on.length ≤ 4
  ld : c.ds.length ≤ 4
  lb : c.bf.length ≤ 4
theorem CsOk.rows {c : Cs} (h : CsOk c) : ∀ r ∈ csR c, CrOk r := fun r hr => by
  simp only [csR, List.mem_append, List.mem_map, List.mem_singleton] at hr
  rcases hr with ⟨x, hx, rfl⟩ | ⟨x, hx, rfl⟩ | ⟨x, hx, rfl⟩ | ⟨x, hx, rfl⟩ | ⟨x, hx, rfl⟩ | ⟨x, hx, rfl⟩ | ⟨x, hx, rfl⟩ | rfl
  · exact h.zs x hx
  · exact h.an x hx
  · exact h.ss x hx
  · exact h.its x hx
  · exact h.on x hx
  · exact ⟨(h.ds x hx).2.1, (h.ds x hx).2.2, (h.ds x hx).1⟩
  · exact h.bf x hx
  · exact h.fin
theorem CsOk.len {c : Cs} (h : CsOk c) : (csR c).length ≤ 30 := by
  have := h.lz
  have := h.la
  have := h.ls
  have := h.li
  have := h.lo
  have := h.ld
  have := h.lb
  simp only [csR, List.length_append, List.length_map, List.length_singleton]
  omega
theorem im6 {H : Hp} {v : V} {d1 d2 d3 d4 d5 d6 : PyData} (h : Im H v (.tuple [d1, d2, d3, d4, d5, d6])) : ∃ p x1 x2 x3 x4 x5 x6, v = .ref p ∧ H p = some (.tup [x1, x2, x3, x4, x5, x6]) ∧ Im H x1 d1 ∧ Im H x2 d2 ∧ Im H x3 d3 ∧ Im H x4 d4 ∧ Im H x5 d5 ∧ Im H x6 d6 := by
  obtain ⟨p, xs, rfl, hp, hx⟩ := h.tup'
  cases hx with
  | cons a1 b => cases b with
    | cons a2 b => cases b with
      | cons a3 b => cases b with
        | cons a4 b => cases b with
          | cons a5 b => cases b with
            | cons a6 b =>
              cases b
              exact ⟨p, _, _, _, _, _, _, rfl, hp, a1, a2, a3, a4, a5, a6⟩
def spCsT (T : List (Addr × Str)) : Sp := fun vs H Q _ => ∃ (v : V) (c : Cs), vs = [v] ∧ Im H v (csD c) ∧ CsOk c ∧ ∀ H', Ext T [] H H' → Q (.str (rowsS ((csR c).map crW))) H'
theorem ok_case_text (D : Def K mg "case_text" s_case_text ["case"]) (mb : ∀ x ∈ bltns, mg x = none) (G_realm_lines : Ok P w K mg base 1 "realm_lines" ["realm"] (spRealmT T)) (G_state_lines : Ok P w K mg base 4 "state_lines" ["state"] (spStateT T)) (G_deed_lines : Ok P w K mg base 5 "deed_lines" ["deeds", "bounds"] (spDeedsT T)) : Ok P w K mg base 6 "case_text" ["case"] (spCsT T) := by
  refine D.ok sc_case_text (fun vs H Q E h => ?_) (fun cdv f A outer s H vs Q E hr h => ?_)
  · obtain ⟨v, c, rfl, _⟩ := h
    rfl
  · obtain ⟨v, c, rfl, hv, hc, q⟩ := h
    refine ⟨_, (pss_cons (ps_asg (pv 0) (pg_tupU (n := 6) K rfl rfl (pgs_cons (pg_name (i := 1) sc_case_text.nd rfl (.inl rfl)) (pgs_cons (pg_name (i := 2) sc_case_text.nd rfl (.inl rfl)) (pgs_cons (pg_name (i := 3) sc_case_text.nd rfl (.inl rfl)) (pgs_cons (pg_name (i := 4) sc_case_text.nd rfl (.inl rfl)) (pgs_cons (pg_name (i := 5) sc_case_text.nd rfl (.inl rfl)) (pgs_cons (pg_name (i := 6) sc_case_text.nd rfl (.inl rfl)) pgs_nil))))))))
   (pss_cons (ps_set (i := 7) sc_case_text.nd rfl (.inl rfl) (pe_op (op_plus K rfl) (pe_op (op_plus K rfl) (pe_callO G_realm_lines (hr.mono (by decide)) (by rfl) (pa_cons (pv 1) pa_nil)) (pe_callO G_state_lines (hr.mono (by decide)) (by rfl) (pa_cons (pv 2) pa_nil))) (pe_callO G_deed_lines (hr.mono (by decide)) (by rfl) (pa_cons (pv 3) (pa_cons (pv 4) pa_nil)))))
   (pss_cons (ps_expr (pe_bm PySem.F.plainAttrs_list PySem.F.slot_list_extend PySem.F.type_list_extend mt_extend (pv 7) (pa_cons (pe_lc (own := [("earlier", 8), ("later", 9)]) (tt := tYes) rfl sc_case_text.nd (pi_seq K rfl (pv 5)) (blkOk_by (N := N_case_text) (sc := defScope s_case_text) (by decide +kernel)) (fun _ _ _ _ _ => (pg_tupU (n := 2) K rfl rfl (pgs_cons (pg_name (i := 8) sc_case_text.nd rfl (Or.inl rfl)) (pgs_cons (pg_name (i := 9) sc_case_text.nd rfl (Or.inl rfl)) pgs_nil)))) (fun _ _ _ _ _ => pts_nil) (fun _ _ _ _ _ => (pe_fstr (.cons pe_str (.cons (pe_fmt (pv 8)) (.cons pe_str (.cons (pe_fmt (pv 9)) PJ.nil))))))) pa_nil)))
   (pss_cons (ps_expr (pe_bm PySem.F.plainAttrs_list PySem.F.slot_list_append PySem.F.type_list_append mt_append (pv 7) (pa_cons (pe_fstr (.cons pe_str (.cons (pe_fmt (pv 6)) PJ.nil))) pa_nil)))
   (pss_one (ps_ret (pe_m1 PySem.F.slot_str_join PySem.F.type_str_join (mt_joinU K rfl) pe_str (pv 7)))))))), ?_⟩
    have lz := hc.lz
    have la := hc.la
    have ls := hc.ls
    have li := hc.li
    have lo := hc.lo
    have ld := hc.ld
    have lb := hc.lb
    obtain ⟨p, v1, v2, v3, v4, v5, v6, rfl, hp, m1, m2, m3, m4, m5, m6⟩ := im6 hv
    obtain rfl := imI' m6
    walk_at "rdn"
    refine rd_seq ?_
    walk_at "rdn"
    refine rd_gtup (SqT.of hp) rfl (rd_gcons (rd_name (rd_gcons (rd_name (rd_gcons (rd_name (rd_gcons (rd_name (rd_gcons (rd_name (rd_gcons (rd_name (rd_gnil ?_)))))))))))))
    walk_at "rdn"
    refine rd_seq ?_
    walk_at "rd"
    refine ⟨v1, c.zs, c.an, c.ss, rfl, m1, hc.zs, hc.an, hc.ss, by omega, by omega, by omega, fun pa H1 x1 na ha => ?_⟩
    have m2 := m2.x x1
    have m3 := m3.x x1
    have m4 := m4.x x1
    have m5 := m5.x x1
    walk_at "rd"
    refine ⟨v2, c.its, c.on, rfl, m2, hc.its, hc.on, by omega, by omega, fun pb H2 x2 nb hb => ?_⟩
    have ha := lst.x ha x2
    have m3 := m3.x x2
    have m4 := m4.x x2
    have m5 := m5.x x2
    walk_at "rd"
    refine rd_cat ha hb (Nat.le_trans (show _ ≤ 100 by simp only [List.length_append, List.length_map]; omega) (by decide)) fun pc nc => ?_
    obtain ⟨nc, x3, hpc⟩ := alL (T := T) nc ((c.zs.map (fun z => crS (.zone z.1 z.2)) ++ (c.an.map (fun k => crS (.anchor k)) ++ c.ss.map (fun s => crS (.set s.1 s.2)))) ++ (c.its.map (fun i => crS (.item i.1 i.2)) ++ c.on.map (fun s => crS (.on s.1 s.2))))
    have m3 := m3.x x3
    have m4 := m4.x x3
    have m5 := m5.x x3
    generalize upd H2 pc _ = H3 at x3 hpc m3 m4 m5 ⊢
    walk_at "rd"
    refine ⟨v3, v4, c.ds, rfl, m3, m4, hc.ds, by omega, fun pd H4 x4 nd hd => ?_⟩
    have hpc := lst.x hpc x4
    have m5 := m5.x x4
    walk_at "rd"
    refine rd_cat hpc hd (Nat.le_trans (show _ ≤ 100 by simp only [List.length_append, List.length_map]; omega) (by decide)) fun pe ne => ?_
    generalize hL : ((c.zs.map (fun z => crS (.zone z.1 z.2)) ++ (c.an.map (fun k => crS (.anchor k)) ++ c.ss.map (fun s => crS (.set s.1 s.2)))) ++ (c.its.map (fun i => crS (.item i.1 i.2)) ++ c.on.map (fun s => crS (.on s.1 s.2)))) ++ c.ds.map (fun d => crS (.deed d.2.1 d.2.2 d.1)) = L
    have hLl : L.length ≤ 30 := by
      rw [← hL]
      simp only [List.length_append, List.length_map]
      omega
    obtain ⟨ne, x5, hpe⟩ := alL (T := T) ne L
    have m5 := m5.x x5
    have xx : Ext T [] H (upd H4 pe (.lst L)) := x1.trans (x2.trans (x3.trans (x4.trans x5)))
    have npe : Nw H pe := (x1.trans (x2.trans (x3.trans x4))).back (by simp) ne
    generalize upd H4 pe _ = H5 at x5 hpe m5 xx ⊢
    clear x1 x2 x3 x4 x5 ha hb hpc hd m1 m2 m3 m4 m6 hv hp
    obtain ⟨pz, xs, rfl, hpz, i5⟩ := m5.tup'
    have l5 : xs.length = c.bf.length := by rw [i5.len, List.length_map]
    walk_at "rdn"
    refine rd_seq ?_
    walk_at "rd"
    refine rd_seqT (SqT.of hpz) ?_
    refine lcg_gen T (walk_tup (xs := xs)) (fun H' e => SqT.of (tup.x hpz e)) (Nat.lt_of_le_of_lt (show xs.length ≤ 8 by omega) (by decide)) (fun i D H y => ∀ e, c.bf[i]? = some e → y = crS (.before e.1 e.2)) (fun i D H1 H2 y xs x hD h => h) (fun i x D H3' H4 hi x3 nD hD hx F go => ?_) (fun D ys H6 nD x6 hD hyl hys => ?_)
    · obtain ⟨rfl, hx⟩ := hx
      obtain ⟨e, he, hxe⟩ := get_im i5 hx
      obtain ⟨g1, g2⟩ := hc.bf e (List.mem_of_getElem? he)
      obtain ⟨pq, u1, u2, rfl, hpq, hu1, hu2⟩ := im2 hxe
      obtain rfl := imI' hu1
      obtain rfl := imI' hu2
      have b1 := num_len g1
      have b2 := num_len g2
      refine rd_gtup (SqT.of (tup.x hpq x3)) rfl (rd_gcons (rd_name (rd_gcons (rd_name (rd_gnil ?_)))))
      refine ⟨rfl, ?_⟩
      walk_at "rd"
      walk_at "fscT"
      walk_at "fsiT"
      walk_at "fscT"
      walk_at "fsiT"
      rw [tS_before]
      refine go _ _ (fun d' hd' => ?_) .refl
      rw [he] at hd'
      cases Option.some.inj hd'
      rfl
    have hy := ys_eq (by omega) hys
    subst hy
    have hpe := lst.x hpe x6
    walk_at "rd"
    refine ⟨pe, D, _, _, rfl, rfl, hpe, hD, Nat.le_trans (show _ ≤ 100 by rw [List.length_map]; omega) (by decide), ?_⟩
    have xw := (xx.trans x6).own (u := .lst (L ++ c.bf.map (fun b => crS (.before b.1 b.2)))) npe hpe
    have hpw : upd H6 pe (.lst (L ++ c.bf.map (fun b => crS (.before b.1 b.2)))) pe = some (.lst (L ++ c.bf.map (fun b => crS (.before b.1 b.2)))) := upd_same
    generalize upd H6 pe _ = H7 at xw hpw ⊢
    have bf0 := hc.fin
    have bm := num_len hc.fin
    have hLb : (L ++ c.bf.map (fun b => crS (.before b.1 b.2))).length ≤ 40 := by
      rw [List.length_append, List.length_map]
      omega
    walk_at "rdn"
    refine rd_seq ?_
    walk_at "rd"
    walk_at "fscT"
    walk_at "fsiT"
    rw [tS_end]
    have xz := xw.own (u := .lst ((L ++ c.bf.map (fun b => crS (.before b.1 b.2))) ++ [V.str (jn 32 (crW (.fin c.fin)))])) npe hpw
    have hz : upd H7 pe (.lst ((L ++ c.bf.map (fun b => crS (.before b.1 b.2))) ++ [V.str (jn 32 (crW (.fin c.fin)))])) pe = some (.lst (((csR c).map crW).map (jn 32) |>.map V.str)) := by
      rw [upd_same, ← hL]
      congr 2
      simp only [csR, List.map_append, List.map_map, List.append_assoc, List.map_cons, List.map_nil]
      rfl
    exact rd_joinNl hz (cr_rows hc.rows) (by rw [List.length_map]; exact Nat.le_trans hc.len (by decide)) (q _ xz)
end

open PySem PySem.Spec PyProof.Rows L2
open PySem.W (EachIs)
section
variable {T : List (Addr × Str)} {P : Program} {w : World} {K : PySem.W.Frag} {mg : Str → Option Value} {base : Heap}
local macro_rules | `(tactic| walk_at "tr") => `(tactic| first
  | assumption
  | exact Ext.refl
  | ((with_reducible refine' Im.x (T := T) (H := ?trH) ?tra ?tre); (case tre => assumption); (case tra => walk_at "tr"))
  | ((with_reducible refine' Im.y (T := T) (H := ?trH) ?tra ?tre ?trt); (case tre => assumption); (case trt => walk_at "tr"); (case tra => walk_at "tr"))
  | ((with_reducible refine' ImAll.x (T := T) (H := ?trH) ?tra ?tre); (case tre => assumption); (case tra => walk_at "tr"))
  | ((with_reducible refine' ImAll.y (T := T) (H := ?trH) ?tra ?tre ?trt); (case tre => assumption); (case trt => walk_at "tr"); (case tra => walk_at "tr"))
  | ((with_reducible refine' Ls.x (T := T) (H := ?trH) ?tra ?tre); (case tre => assumption); (case tra => walk_at "tr"))
  | ((with_reducible refine' Ls.y (T := T) (H := ?trH) ?tra ?tre ?trn ?trt); (case tre => assumption); (case trt => walk_at "tr"); (case trn => walk_at "tr"); (case tra => walk_at "tr"))
  | ((with_reducible refine' SqP.x (T := T) (H := ?trH) ?tra ?tre); (case tre => assumption); (case tra => walk_at "tr"))
  | ((with_reducible refine' SqP.y (T := T) (H := ?trH) ?tra ?tre ?trt); (case tre => assumption); (case trt => walk_at "tr"); (case tra => walk_at "tr"))
  | ((with_reducible refine' StAt.x (T := T) (H := ?trH) ?tra ?tre); (case tre => assumption); (case tra => walk_at "tr"))
  | ((with_reducible refine' StAt.y (T := T) (H := ?trH) ?tra ?tre ?trt); (case tre => assumption); (case trt => walk_at "tr"); (case tra => walk_at "tr"))
  | ((with_reducible refine' Pools.ext0 (T := T) (H := ?trH) ?tra ?tre); (case tre => assumption); (case tra => walk_at "tr"))
  | ((with_reducible refine' Pools.ext (T := T) (H := ?trH) ?tra ?tre ?trt); (case tre => assumption); (case trt => walk_at "tr"); (case tra => walk_at "tr"))
  | ((with_reducible refine' CL.x (T := T) (H := ?trH) ?tra ?tre); (case tre => assumption); (case tra => walk_at "tr"))
  | ((with_reducible refine' CL.y (T := T) (H := ?trH) ?tra ?tre); (case tre => assumption); (case tra => walk_at "tr"))
  | ((with_reducible refine' Tape.ext (T := T) (H := ?trH) ?tra ?tre); (case tre => assumption); (case tra => walk_at "tr"))
  | ((with_reducible refine' lst.x (T := T) (H := ?trH) ?tra ?tre); (case tre => assumption); (case tra => walk_at "tr"))
  | ((with_reducible refine' lst.y (T := T) (H := ?trH) ?tra ?tre ?trn); (case tre => assumption); (case trn => walk_at "tr"); (case tra => walk_at "tr"))
  | ((with_reducible refine' tup.x (T := T) (H := ?trH) ?tra ?tre); (case tre => assumption); (case tra => walk_at "tr"))
  | ((with_reducible refine' tup.y (T := T) (H := ?trH) ?tra ?tre ?trt); (case tre => assumption); (case trt => walk_at "tr"); (case tra => walk_at "tr"))
  | ((with_reducible refine' frz.x (T := T) (H := ?trH) ?tra ?tre); (case tre => assumption); (case tra => walk_at "tr"))
  | ((with_reducible refine' frz.y (T := T) (H := ?trH) ?tra ?tre ?trt); (case tre => assumption); (case trt => walk_at "tr"); (case tra => walk_at "tr"))
  | ((with_reducible refine' Im.z (T := T) (H := ?trH) ?tra ?tre ?trt); (case tre => assumption); (case trt => assumption); (case tra => walk_at "tr"))
  | ((with_reducible refine' ImAll.z (T := T) (H := ?trH) ?tra ?tre ?trt); (case tre => assumption); (case trt => assumption); (case tra => walk_at "tr"))
  | ((with_reducible refine' StAt.z (T := T) (H := ?trH) ?tra ?tre ?trt); (case tre => assumption); (case trt => assumption); (case tra => walk_at "tr"))
  | ((with_reducible refine' SqP.z (T := T) (H := ?trH) ?tra ?tre ?trt); (case tre => assumption); (case trt => assumption); (case tra => walk_at "tr"))
  | ((with_reducible refine' tup.z (T := T) (H := ?trH) ?tra ?tre ?trt); (case tre => assumption); (case trt => assumption); (case tra => walk_at "tr"))
  | ((with_reducible refine' Ls.z (T := T) (H := ?trH) ?tra ?tre ?trt ?trn); (case tre => assumption); (case trt => assumption); (case trn => assumption); (case tra => walk_at "tr"))
  | ((with_reducible refine' lst.z (T := T) (H := ?trH) ?tra ?tre ?trn); (case tre => assumption); (case trn => assumption); (case tra => walk_at "tr"))
  | ((with_reducible refine' CL.z (T := T) (H := ?trH) ?tra ?tre ?trn); (case tre => assumption); (case trn => assumption); (case tra => walk_at "tr"))
  | ((with_reducible refine' Tape.ne1 (H := ?trH) ?trt ?trn); (case trn => assumption); (case trt => walk_at "tr"))
  | ((with_reducible refine' Ext.trans (H1 := ?trH) ?tra (Ext.any ?tre)); (case tre => assumption); (case tra => walk_at "tr"))
  | ((with_reducible refine' Ext.trans (H1 := ?trH) ?tra ?tre); (case tre => assumption); (case tra => walk_at "tr"))
  | ((with_reducible refine' Ext.back1 (T := T) (H1 := ?trH) ?tre ?trn ?tra); (case tra => assumption); (case trn => walk_at "tr"); (case tre => walk_at "tr"))
  | ((with_reducible refine' Ext.back0 (T := T) (H1 := ?trH) ?tre ?tra); (case tra => assumption); (case tre => walk_at "tr"))
  | ((with_reducible refine' SqT.of ?tra); (case tra => walk_at "tr"))
  | ((with_reducible refine' SqL.of ?tra); (case tra => walk_at "tr")))
local macro_rules | `(tactic| walk_at "al") => `(tactic| (refine ⟨by first | (show _ ≤ sizeLine; decide) | walk_at "sz", ?_⟩; intro alp aln; generalize alG : upd _ alp _ = alH; obtain ⟨aln2, alx, alh⟩ := al_of (T := T) aln alG; clear alG aln))
local macro_rules | `(tactic| walk_at "al0") => `(tactic| (intro alp aln; generalize alG : upd _ alp _ = alH; obtain ⟨aln2, alx, alh⟩ := al_of (T := T) aln alG; clear alG aln))

def spItemOf (T : List (Addr × Str)) : Sp := fun vs H Q _ => ∃ (l t : Addr) (u : V) (s : Sl), vs = [.ref t, u] ∧ Tape l H t ∧ Im H u (slD s) ∧ SlOk s ∧ ∀ v i H', ItOk2 s i → Im H' v (itD2 i) → Ext T [t] H H' → Tape l H' t → Q v H'
theorem ok_law_item_of (D : Def K mg "_law_item_of" s_law_item_of ["tape", "slot"]) (G_law_some : Ok P w K mg base 4 "_law_some" ["tape", "most"] (spLSome T)) (G_law_number : Ok P w K mg base 3 "_law_number" ["tape"] (spLNum T)) : Ok P w K mg base 5 "_law_item_of" ["tape", "slot"] (spItemOf T) := by
  refine D.ok sc_law_item_of (fun vs H Q E h => ?_) (fun cdv f A outer s H vs Q E hr h => ?_)
  · obtain ⟨l, t, u, s, rfl, _⟩ := h
    rfl
  · obtain ⟨l, t, u, sl, rfl, hT, hu, hs, q⟩ := h
    refine ⟨_, (pss_cons (ps_if (pt_cmpR (op_eqU K rfl hr.units) (pe_ix (ix_U K rfl) (pv 1) pe_int (fun _ _ => rfl)) pe_str (nomark _)) (pss_one (ps_ret (pe_tup (pa_cons (pe_callO G_law_some (hr.mono (by decide)) (by rfl) (pa_cons (pv 0) (pa_cons pe_int pa_nil))) (pa_cons (pe_callO G_law_number (hr.mono (by decide)) (by rfl) (pa_cons (pv 0) pa_nil)) (pa_cons (pe_tup pa_nil) (pa_cons pe_int (pa_cons pe_int pa_nil)))))))) pss_nil)
   (pss_one (ps_ret (pe_tup (pa_cons (pe_callO G_law_some (hr.mono (by decide)) (by rfl) (pa_cons (pv 0) (pa_cons pe_int pa_nil))) (pa_cons (pe_callO G_law_number (hr.mono (by decide)) (by rfl) (pa_cons (pv 0) pa_nil)) (pa_cons (pe_callO G_law_some (hr.mono (by decide)) (by rfl) (pa_cons (pv 0) (pa_cons pe_int pa_nil))) (pa_cons (pe_callO G_law_number (hr.mono (by decide)) (by rfl) (pa_cons (pv 0) pa_nil)) (pa_cons (pe_callO G_law_number (hr.mono (by decide)) (by rfl) (pa_cons (pv 0) pa_nil)) pa_nil))))))))), ?_⟩
    obtain ⟨wd, dr, e2, e3⟩ : ∃ wd r, slD sl = .tuple (.str wd :: r) ∧ (isH sl = true ↔ wd = Str.ofString "hosts") := by
      rcases sl_cases hs with ⟨wd, z, _, _, e2, _, e3⟩ | ⟨n, k, rfl⟩
      · exact ⟨wd, _, e2, e3⟩
      · exact ⟨_, _, rfl, by show (false = true ↔ Str.ofString "set" = Str.ofString "hosts"); decide +kernel⟩
    rw [e2] at hu
    walk_at "rd"
    refine rd_ixSs (i := 0) hu (z := wd) (show atI (PyData.str wd :: dr) ((0 : Nat) : Int) = some (PyData.str wd) from atI_nat rfl) ?_
    walk_at "rd"
    refine rd_ite (fun c => ?_) (fun c => ?_)
    · have hb := e3.mpr c
      walk_at "rd"
      refine ⟨l, t, 4, rfl, by decide, hT, fun v1 cs H1 hcs hcl h1 e1 T1 => ?_⟩
      walk_at "rd"
      refine ⟨l, t, rfl, T1, fun li H2 hli e2 T2 => ?_⟩
      have h1 := h1.y e2 T1
      walk_at "rd"
      refine ⟨by walk_at "sz", fun p1 np1 => ?_⟩
      obtain ⟨np1, x3, hp1⟩ := alT (T := T) np1 ([] : List V)
      have h1 := h1.x x3
      have T3 := T2.ext x3
      generalize upd H2 p1 _ = H3 at x3 hp1 h1 T3 ⊢
      walk_at "rd"
      refine ⟨by walk_at "sz", fun p2 np2 => ?_⟩
      obtain ⟨np2, x4, hp2⟩ := alT (T := T) np2 [v1, .int (li : Int), .ref p1, .int 0, .int 10000]
      exact q (.ref p2) ⟨cs, li, [], 0, 10000⟩ _ ⟨hcs, (by show cs.length ≤ 6; omega), (fun x hx => nomatch hx), (by show 0 ≤ 6; decide), hli, (by show 0 < 100000; decide), (by show 10000 < 100000; decide), fun _ => ⟨rfl, rfl, rfl⟩⟩
        (.tup hp2 (.cons (h1.x x4) (.cons (.int _) (.cons (.tup (tup.x hp1 x4) .nil) (.cons (.int _) (.cons (.int _) .nil)))))) (e1.trans (e2.trans (x3.trans x4).any)) (T3.ext x4)
    · have hb : isH sl = false := by
        cases hb : isH sl with
        | false => rfl
        | true => exact absurd (e3.mp hb) c
      walk_at "rd"
      refine ⟨l, t, 4, rfl, by decide, hT, fun v1 cs H1 hcs hcl h1 e1 T1 => ?_⟩
      walk_at "rd"
      refine ⟨l, t, rfl, T1, fun li H2 hli e2 T2 => ?_⟩
      have h1 := h1.y e2 T1
      walk_at "rd"
      refine ⟨l, t, 3, rfl, by decide, T2, fun v2 gs H3 hgs hgl h2 e3 T3 => ?_⟩
      have h1 := h1.y e3 T2
      walk_at "rd"
      refine ⟨l, t, rfl, T3, fun fa H4 hfa e4 T4 => ?_⟩
      have h1 := h1.y e4 T3
      have h2 := h2.y e4 T3
      walk_at "rd"
      refine ⟨l, t, rfl, T4, fun fb H5 hfb e5 T5 => ?_⟩
      have h1 := h1.y e5 T4
      have h2 := h2.y e5 T4
      walk_at "rd"
      refine ⟨by walk_at "sz", fun p2 np2 => ?_⟩
      obtain ⟨np2, x6, hp2⟩ := alT (T := T) np2 [v1, .int (li : Int), v2, .int (fa : Int), .int (fb : Int)]
      exact q (.ref p2) ⟨cs, li, gs, fa, fb⟩ _ ⟨hcs, (by show cs.length ≤ 6; omega), hgs, (by show gs.length ≤ 6; omega), hli, hfa, hfb, fun z => absurd z (by rw [hb]; decide)⟩
        (.tup hp2 (.cons (h1.x x6) (.cons (.int _) (.cons (h2.x x6) (.cons (.int _) (.cons (.int _) .nil)))))) (e1.trans (e2.trans (e3.trans (e4.trans (e5.trans x6.any))))) (T5.ext x6)
def spOne (T : List (Addr × Str)) : Sp := fun vs H Q _ => ∃ (l t : Addr), vs = [.ref t] ∧ Tape l H t ∧ ∀ v d H', DxOk d → Im H' v (dxD d) → Ext T [t] H H' → Tape l H' t → Q v H'
theorem ok_law_one (D : Def K mg "_law_one" s_law_one ["tape"]) (G_law_take : Ok P w K mg base 2 "_law_take" ["tape", "many"] (spTake T)) (G_law_id : Ok P w K mg base 3 "_law_id" ["tape"] (spId T)) (G_law_name : Ok P w K mg base 5 "_law_name" ["tape"] (spLName T)) (G_law_slot : Ok P w K mg base 6 "_law_slot" ["tape"] (spLSlot T))
    (G_law_item_of : Ok P w K mg base 5 "_law_item_of" ["tape", "slot"] (spItemOf T)) : Ok P w K mg base 7 "_law_one" ["tape"] (spOne T) := by
  refine D.ok sc_law_one (fun vs H Q E h => ?_) (fun cdv f A outer s H vs Q E hr h => ?_)
  · obtain ⟨l, t, rfl, _⟩ := h
    rfl
  · obtain ⟨l, t, rfl, hT, q⟩ := h
    refine ⟨_, (pss_cons (ps_set (i := 1) sc_law_one.nd rfl (.inl rfl) (pe_callO G_law_take (hr.mono (by decide)) (by rfl) (pa_cons (pv 0) (pa_cons pe_int pa_nil))))
   (pss_cons (ps_if (pt_cmpR (op_eqU K rfl hr.units) (pv 1) pe_int (nomark _)) (pss_one (ps_ret (pe_tup (pa_cons (pe_ix (ix_U K rfl) (pe_lst (pa_cons pe_str (pa_cons pe_str pa_nil))) (pe_callO G_law_take (hr.mono (by decide)) (by rfl) (pa_cons (pv 0) (pa_cons pe_int pa_nil))) (fun _ _ => rfl)) (pa_cons (pe_callO G_law_id (hr.mono (by decide)) (by rfl) (pa_cons (pv 0) pa_nil)) (pa_cons (pe_callO G_law_name (hr.mono (by decide)) (by rfl) (pa_cons (pv 0) pa_nil)) pa_nil)))))) pss_nil)
   (pss_cons (ps_set (i := 2) sc_law_one.nd rfl (.inl rfl) (pe_callO G_law_slot (hr.mono (by decide)) (by rfl) (pa_cons (pv 0) pa_nil)))
   (pss_one (ps_ret (pe_tup (pa_cons pe_str (pa_cons (pv 2) (pa_cons (pe_callO G_law_item_of (hr.mono (by decide)) (by rfl) (pa_cons (pv 0) (pa_cons (pv 2) pa_nil))) pa_nil))))))))), ?_⟩
    walk_at "rdn"
    refine rd_seq ?_
    walk_at "rd"
    refine ⟨l, t, 4, rfl, by decide, by decide, hT, fun d H1 a0 a1 e1 T1 => ?_⟩
    walk_at "rd"
    refine rd_ite (fun c => ?_) (fun c => ?_)
    · walk_at "rd"
      refine ⟨by walk_at "sz", fun p1 np1 => ?_⟩
      have hne : p1 ≠ t := T1.ne1 (.of np1)
      obtain ⟨np1, x2, hp1⟩ := alL (T := T) np1 [V.str (Str.ofString "on"), .str (Str.ofString "off")]
      have T2 := T1.ext x2
      generalize upd H1 p1 _ = H2 at x2 hp1 T2 ⊢
      walk_at "rd"
      refine ⟨l, t, 2, rfl, by decide, by decide, T2, fun k H3 b0 b1 e3 T3 => ?_⟩
      have hp1 := e3.lst (show p1 ∉ [t] by simpa using hne) hp1
      obtain ⟨wd, mk, f1, f2, f3, f4⟩ : ∃ (wd : Str) (mk : Str → Str → Dx), atI [V.str (Str.ofString "on"), .str (Str.ofString "off")] k = some (.str wd) ∧ PyData.strOk wd = true ∧ (∀ a n, dxD (mk a n) = .tuple [.str wd, .str a, .str n]) ∧ (∀ a n, idB a = true → nameB n = true → DxOk (mk a n)) := by
        have hk : k = 0 ∨ k = 1 := by omega
        rcases hk with rfl | rfl
        · exact ⟨Str.ofString "on", .on, rfl, by decide +kernel, fun _ _ => rfl, fun _ _ h1 h2 => ⟨h1, h2⟩⟩
        · exact ⟨Str.ofString "off", .off, rfl, by decide +kernel, fun _ _ => rfl, fun _ _ h1 h2 => ⟨h1, h2⟩⟩
      refine rd_ixL (SqL.of hp1) f1 ?_
      walk_at "rd"
      refine ⟨l, t, rfl, T3, fun a H4 ha e4 T4 => ?_⟩
      walk_at "rd"
      refine ⟨l, t, rfl, T4, fun n H5 hn e5 T5 => ?_⟩
      walk_at "rd"
      refine ⟨by walk_at "sz", fun p2 np2 => ?_⟩
      obtain ⟨np2, x6, hp2⟩ := alT (T := T) np2 [V.str wd, .str a, .str n]
      refine q _ (mk a n) _ (f4 a n ha hn) ?_ (e1.trans ((x2.any (ms := [t])).trans (e3.trans (e4.trans (e5.trans x6.any))))) (T5.ext x6)
      rw [f3]
      exact .tup hp2 (.cons (.str _ f2) (.cons (.str _ (id_ok ha)) (.cons (.str _ (name_ok hn)) .nil)))
    · walk_at "rd"
      refine ⟨l, t, rfl, T1, fun v sl H2 hs hv e2 T2 => ?_⟩
      walk_at "rd"
      refine ⟨l, t, v, sl, rfl, T2, hv, hs, fun u i H3 hi hu e3 T3 => ?_⟩
      have hv := hv.y e3 T2
      walk_at "rd"
      refine ⟨by walk_at "sz", fun p2 np2 => ?_⟩
      obtain ⟨np2, x6, hp2⟩ := alT (T := T) np2 [V.str (Str.ofString "put"), v, u]
      exact q _ (.put sl i) _ ⟨hs, hi⟩ (.tup hp2 (.cons (.str _ (by decide +kernel)) (.cons (hv.x x6) (.cons (hu.x x6) .nil)))) (e1.trans (e2.trans (e3.trans x6.any))) (T3.ext x6)
end

open PySem PySem.Spec PyProof.Rows L2
open PySem.W (EachIs)
theorem set_len : (Str.ofString "set").length = 3 := by decide +kernel
theorem sg_sp1 : sg (Str.ofString " ") = [32] := by decide +kernel
theorem em_len2 : (Str.ofString "").length = 0 := by decide +kernel
theorem sg_em2 : sg (Str.ofString "") = [] := by decide +kernel
theorem cm_len : (Str.ofString ",").length = 1 := by decide +kernel
local macro_rules | `(tactic| walk_at "fslV") => `(tactic| (refine Nat.le_trans (?_ : _ ≤ 100000) (by decide); (try simp only [app_len2, sp_len, nl_len, em_len, em_len2, cm_len, c_life_len, c_by_len, c_from_len, c_to_len, c_is_len, c_put_len]); omega))
local macro_rules | `(tactic| walk_at "fsiV") => `(tactic| (refine fs_i (by omega) ?_; refine fs_y ⟨by walk_at "fslV", ?_⟩; walk_at "rd"))
local macro_rules | `(tactic| walk_at "fscV") => `(tactic| (refine ⟨by walk_at "fslV", ?_⟩; walk_at "rd"))
section
variable {T : List (Addr × Str)} {P : Program} {w : World} {K : PySem.W.Frag} {mg : Str → Option Value} {base : Heap}
local macro_rules | `(tactic| walk_at "tr") => `(tactic| first
  | assumption
  | exact Ext.refl
  | ((with_reducible refine' Im.x (T := T) (H := ?trH) ?tra ?tre); (case tre => assumption); (case tra => walk_at "tr"))
  | ((with_reducible refine' Im.y (T := T) (H := ?trH) ?tra ?tre ?trt); (case tre => assumption); (case trt => walk_at "tr"); (case tra => walk_at "tr"))
  | ((with_reducible refine' ImAll.x (T := T) (H := ?trH) ?tra ?tre); (case tre => assumption); (case tra => walk_at "tr"))
  | ((with_reducible refine' ImAll.y (T := T) (H := ?trH) ?tra ?tre ?trt); (case tre => assumption); (case trt => walk_at "tr"); (case tra => walk_at "tr"))
  | ((with_reducible refine' Ls.x (T := T) (H := ?trH) ?tra ?tre); (case tre => assumption); (case tra => walk_at "tr"))
  | ((with_reducible refine' Ls.y (T := T) (H := ?trH) ?tra ?tre ?trn ?trt); (case tre => assumption); (case trt => walk_at "tr"); (case trn => walk_at "tr"); (case tra => walk_at "tr"))
  | ((with_reducible refine' SqP.x (T := T) (H := ?trH) ?tra ?tre); (case tre => assumption); (case tra => walk_at "tr"))
  | ((with_reducible refine' SqP.y (T := T) (H := ?trH) ?tra ?tre ?trt); (case tre => assumption); (case trt => walk_at "tr"); (case tra => walk_at "tr"))
  | ((with_reducible refine' StAt.x (T := T) (H := ?trH) ?tra ?tre); (case tre => assumption); (case tra => walk_at "tr"))
  | ((with_reducible refine' StAt.y (T := T) (H := ?trH) ?tra ?tre ?trt); (case tre => assumption); (case trt => walk_at "tr"); (case tra => walk_at "tr"))
  | ((with_reducible refine' Pools.ext0 (T := T) (H := ?trH) ?tra ?tre); (case tre => assumption); (case tra => walk_at "tr"))
  | ((with_reducible refine' Pools.ext (T := T) (H := ?trH) ?tra ?tre ?trt); (case tre => assumption); (case trt => walk_at "tr"); (case tra => walk_at "tr"))
  | ((with_reducible refine' CL.x (T := T) (H := ?trH) ?tra ?tre); (case tre => assumption); (case tra => walk_at "tr"))
  | ((with_reducible refine' CL.y (T := T) (H := ?trH) ?tra ?tre); (case tre => assumption); (case tra => walk_at "tr"))
  | ((with_reducible refine' Tape.ext (T := T) (H := ?trH) ?tra ?tre); (case tre => assumption); (case tra => walk_at "tr"))
  | ((with_reducible refine' lst.x (T := T) (H := ?trH) ?tra ?tre); (case tre => assumption); (case tra => walk_at "tr"))
  | ((with_reducible refine' lst.y (T := T) (H := ?trH) ?tra ?tre ?trn); (case tre => assumption); (case trn => walk_at "tr"); (case tra => walk_at "tr"))
  | ((with_reducible refine' tup.x (T := T) (H := ?trH) ?tra ?tre); (case tre => assumption); (case tra => walk_at "tr"))
  | ((with_reducible refine' tup.y (T := T) (H := ?trH) ?tra ?tre ?trt); (case tre => assumption); (case trt => walk_at "tr"); (case tra => walk_at "tr"))
  | ((with_reducible refine' frz.x (T := T) (H := ?trH) ?tra ?tre); (case tre => assumption); (case tra => walk_at "tr"))
  | ((with_reducible refine' frz.y (T := T) (H := ?trH) ?tra ?tre ?trt); (case tre => assumption); (case trt => walk_at "tr"); (case tra => walk_at "tr"))
  | ((with_reducible refine' Im.z (T := T) (H := ?trH) ?tra ?tre ?trt); (case tre => assumption); (case trt => assumption); (case tra => walk_at "tr"))
  | ((with_reducible refine' ImAll.z (T := T) (H := ?trH) ?tra ?tre ?trt); (case tre => assumption); (case trt => assumption); (case tra => walk_at "tr"))
  | ((with_reducible refine' StAt.z (T := T) (H := ?trH) ?tra ?tre ?trt); (case tre => assumption); (case trt => assumption); (case tra => walk_at "tr"))
  | ((with_reducible refine' SqP.z (T := T) (H := ?trH) ?tra ?tre ?trt); (case tre => assumption); (case trt => assumption); (case tra => walk_at "tr"))
  | ((with_reducible refine' tup.z (T := T) (H := ?trH) ?tra ?tre ?trt); (case tre => assumption); (case trt => assumption); (case tra => walk_at "tr"))
  | ((with_reducible refine' Ls.z (T := T) (H := ?trH) ?tra ?tre ?trt ?trn); (case tre => assumption); (case trt => assumption); (case trn => assumption); (case tra => walk_at "tr"))
  | ((with_reducible refine' lst.z (T := T) (H := ?trH) ?tra ?tre ?trn); (case tre => assumption); (case trn => assumption); (case tra => walk_at "tr"))
  | ((with_reducible refine' CL.z (T := T) (H := ?trH) ?tra ?tre ?trn); (case tre => assumption); (case trn => assumption); (case tra => walk_at "tr"))
  | ((with_reducible refine' Tape.ne1 (H := ?trH) ?trt ?trn); (case trn => assumption); (case trt => walk_at "tr"))
  | ((with_reducible refine' Ext.trans (H1 := ?trH) ?tra (Ext.any ?tre)); (case tre => assumption); (case tra => walk_at "tr"))
  | ((with_reducible refine' Ext.trans (H1 := ?trH) ?tra ?tre); (case tre => assumption); (case tra => walk_at "tr"))
  | ((with_reducible refine' Ext.back1 (T := T) (H1 := ?trH) ?tre ?trn ?tra); (case tra => assumption); (case trn => walk_at "tr"); (case tre => walk_at "tr"))
  | ((with_reducible refine' Ext.back0 (T := T) (H1 := ?trH) ?tre ?tra); (case tra => assumption); (case tre => walk_at "tr"))
  | ((with_reducible refine' SqT.of ?tra); (case tra => walk_at "tr"))
  | ((with_reducible refine' SqL.of ?tra); (case tra => walk_at "tr")))
local macro_rules | `(tactic| walk_at "al") => `(tactic| (refine ⟨by first | (show _ ≤ sizeLine; decide) | walk_at "sz", ?_⟩; intro alp aln; generalize alG : upd _ alp _ = alH; obtain ⟨aln2, alx, alh⟩ := al_of (T := T) aln alG; clear alG aln))
local macro_rules | `(tactic| walk_at "al0") => `(tactic| (intro alp aln; generalize alG : upd _ alp _ = alH; obtain ⟨aln2, alx, alh⟩ := al_of (T := T) aln alG; clear alG aln))

theorem id_posi {z : Str} (h : idB z = true) : 1 ≤ z.length := by
  unfold idB wordB at h
  rw [Bool.and_eq_true, Bool.and_eq_true] at h
  have := of_decide_eq_true h.1
  omega
theorem ids_ne {ds : List Str} (hne : ds ≠ []) (h : ∀ x ∈ ds, idB x = true) : jn 44 ds ≠ Str.ofString "" := fun e => by
  cases ds with
  | nil => exact hne rfl
  | cons x r =>
    have h1 := id_posi (h x List.mem_cons_self)
    have h2 := jn_head 44 x r
    rw [e, em_len2] at h2
    omega
theorem ids_jlen {ds : List Str} (h : ∀ x ∈ ds, idB x = true) : (jn 44 ds).length ≤ 5 * ds.length := by
  have h1 := jn_len 44 ds
  have h2 : (ds.map (·.length)).sum ≤ 4 * ds.length := by
    clear h1
    induction ds with
    | nil => exact Nat.le_refl _
    | cons x r ih =>
      have := ih fun y hy => h y (List.mem_cons_of_mem _ hy)
      have := NK.id_len (h x List.mem_cons_self)
      simp only [List.map_cons, List.sum_cons, List.length_cons]
      omega
  omega
def spLIds : Sp := fun vs H Q _ => ∃ (v : V) (cs : List Str), vs = [v] ∧ Im H v (.tuple (cs.map .str)) ∧ (∀ x ∈ cs, idB x = true) ∧ cs.length ≤ 6 ∧ Q (.str (idsS cs)) H
theorem ok_law_ids_text (D : Def K mg "_law_ids_text" s_law_ids_text ["ids"]) : Ok P w K mg base 1 "_law_ids_text" ["ids"] spLIds := by
  refine D.ok sc_law_ids_text (fun vs H Q E h => ?_) (fun cdv f A outer s H vs Q E hr h => ?_)
  · obtain ⟨v, cs, rfl, _⟩ := h
    rfl
  · obtain ⟨v, cs, rfl, hv, hcs, hcl, q⟩ := h
    obtain ⟨p, xs, rfl, hp, hxi⟩ := hv.tup'
    have hx := strsD hxi
    subst hx
    refine ⟨_, (pss_cons (ps_set (i := 1) sc_law_ids_text.nd rfl (.inl rfl) pe_str)
   (pss_cons (ps_for PassesOwn.never rfl (pi_seq K rfl (pv 0)) (pg_name (i := 2) sc_law_ids_text.nd rfl (.inl rfl)) (pss_one (ps_set (i := 1) sc_law_ids_text.nd rfl (.inl rfl) (pe_op (op_plus K rfl) (pe_op (op_plus K rfl) (pv 1) (pe_ifExp (pt_cmpR (op_neU K rfl hr.units) (pv 1) pe_str (nomark _)) pe_str pe_str)) (pv 2)))))
   (pss_one (ps_ret (pe_ifExp (pt_cmpR (op_eqU K rfl hr.units) (pv 1) pe_str (nomark _)) pe_str (pv 1)))))), ?_⟩
    walk_at "rdn"
    refine rd_seq ?_
    walk_at "rd"
    refine rd_seqT (SqT.of hp) ?_
    refine forg_it (walk_tup (xs := cs.map V.str)) (fun i σ H' => ∃ o, σ = [some (.ref p), some (.str (jn 44 (cs.take i))), o] ∧ H' = H) ⟨none, rfl, rfl⟩ (fun i σ H' _ h => by
      obtain ⟨_, _, rfl⟩ := h
      exact SqT.of hp) (fun i x σ H' H'' hi h hx => ?_) (fun σ H' h => ?_)
    · obtain ⟨o, rfl, rfl⟩ := h
      obtain ⟨rfl, hx⟩ := hx
      rw [List.getElem?_map] at hx
      obtain ⟨c, hc, rfl⟩ := Option.map_eq_some_iff.mp hx
      have hci := hcs c (List.mem_of_getElem? hc)
      have hc4 := NK.id_len hci
      have htk : ∀ x ∈ cs.take i, idB x = true := fun x hx => hcs x (List.mem_of_mem_take hx)
      have htl : (cs.take i).length ≤ cs.length := List.length_take_le' _ _
      have hjl := ids_jlen htk
      have et : cs.take (i + 1) = cs.take i ++ [c] := by
        rw [List.take_succ, hc]
        rfl
      walk_at "rd"
      by_cases hne : cs.take i = []
      · rw [decide_eq_true (show jn 44 (cs.take i) = Str.ofString "" by rw [hne]; rfl)]
        walk_at "rd"
        refine rd_plusS (by walk_at "fslV") ?_
        walk_at "rd"
        refine rd_plusS (by walk_at "fslV") ?_
        refine ⟨some (.str c), ?_, rfl⟩
        have e : (jn 44 (cs.take i) ++ Str.ofString "") ++ c = jn 44 (cs.take (i + 1)) := by
          rw [et, hne]
          show _ = jn 44 [c]
          rw [jn_one]
          exact sg_inj (by rw [sg_app, sg_app, sg_em2]; rfl)
        rw [e]
        rfl
      · rw [decide_eq_false (ids_ne hne htk)]
        walk_at "rd"
        refine rd_plusS (by walk_at "fslV") ?_
        walk_at "rd"
        refine rd_plusS (by walk_at "fslV") ?_
        refine ⟨some (.str c), ?_, rfl⟩
        have e : (jn 44 (cs.take i) ++ Str.ofString ",") ++ c = jn 44 (cs.take (i + 1)) := by
          rw [et, jn_app 44 hne (by simp), jn_one]
          refine sg_inj ?_
          simp only [sg_app, sg_S]
          rw [show sg (Str.ofString ",") = [44] from by decide +kernel]
          simp
        rw [e]
        rfl
    · obtain ⟨o, rfl, rfl⟩ := h
      rw [List.length_map, List.take_length]
      unfold idsS at q
      walk_at "rd"
      by_cases hne : cs = []
      · rw [if_pos hne] at q
        rw [decide_eq_true (show jn 44 cs = Str.ofString "" by rw [hne]; rfl)]
        walk_at "rd"
        exact q
      · rw [if_neg hne] at q
        rw [decide_eq_false (ids_ne hne hcs)]
        walk_at "rd"
        exact q
end

open PySem PySem.Spec PyProof.Rows L2
open PySem.W (EachIs)
local macro_rules | `(tactic| walk_at "fslW") => `(tactic| (refine Nat.le_trans (?_ : _ ≤ 100000) (by decide); (try simp only [app_len2, sp_len, nl_len, em_len, em_len2, cm_len, c_life_len, c_by_len, c_from_len, c_to_len, c_is_len, c_put_len]); omega))
local macro_rules | `(tactic| walk_at "fsiW") => `(tactic| (refine fs_i (by omega) ?_; refine fs_y ⟨by walk_at "fslW", ?_⟩; walk_at "rd"))
local macro_rules | `(tactic| walk_at "fscW") => `(tactic| (refine ⟨by walk_at "fslW", ?_⟩; walk_at "rd"))
section
variable {T : List (Addr × Str)} {P : Program} {w : World} {K : PySem.W.Frag} {mg : Str → Option Value} {base : Heap}
local macro_rules | `(tactic| walk_at "tr") => `(tactic| first
  | assumption
  | exact Ext.refl
  | ((with_reducible refine' Im.x (T := T) (H := ?trH) ?tra ?tre); (case tre => assumption); (case tra => walk_at "tr"))
  | ((with_reducible refine' Im.y (T := T) (H := ?trH) ?tra ?tre ?trt); (case tre => assumption); (case trt => walk_at "tr"); (case tra => walk_at "tr"))
  | ((with_reducible refine' ImAll.x (T := T) (H := ?trH) ?tra ?tre); (case tre => assumption); (case tra => walk_at "tr"))
  | ((with_reducible refine' ImAll.y (T := T) (H := ?trH) ?tra ?tre ?trt); (case tre => assumption); (case trt => walk_at "tr"); (case tra => walk_at "tr"))
  | ((with_reducible refine' Ls.x (T := T) (H := ?trH) ?tra ?tre); (case tre => assumption); (case tra => walk_at "tr"))
  | ((with_reducible refine' Ls.y (T := T) (H := ?trH) ?tra ?tre ?trn ?trt); (case tre => assumption); (case trt => walk_at "tr"); (case trn => walk_at "tr"); (case tra => walk_at "tr"))
  | ((with_reducible refine' SqP.x (T := T) (H := ?trH) ?tra ?tre); (case tre => assumption); (case tra => walk_at "tr"))
  | ((with_reducible refine' SqP.y (T := T) (H := ?trH) ?tra ?tre ?trt); (case tre => assumption); (case trt => walk_at "tr"); (case tra => walk_at "tr"))
  | ((with_reducible refine' StAt.x (T := T) (H := ?trH) ?tra ?tre); (case tre => assumption); (case tra => walk_at "tr"))
  | ((with_reducible refine' StAt.y (T := T) (H := ?trH) ?tra ?tre ?trt); (case tre => assumption); (case trt => walk_at "tr"); (case tra => walk_at "tr"))
  | ((with_reducible refine' Pools.ext0 (T := T) (H := ?trH) ?tra ?tre); (case tre => assumption); (case tra => walk_at "tr"))
  | ((with_reducible refine' Pools.ext (T := T) (H := ?trH) ?tra ?tre ?trt); (case tre => assumption); (case trt => walk_at "tr"); (case tra => walk_at "tr"))
  | ((with_reducible refine' CL.x (T := T) (H := ?trH) ?tra ?tre); (case tre => assumption); (case tra => walk_at "tr"))
  | ((with_reducible refine' CL.y (T := T) (H := ?trH) ?tra ?tre); (case tre => assumption); (case tra => walk_at "tr"))
  | ((with_reducible refine' Tape.ext (T := T) (H := ?trH) ?tra ?tre); (case tre => assumption); (case tra => walk_at "tr"))
  | ((with_reducible refine' lst.x (T := T) (H := ?trH) ?tra ?tre); (case tre => assumption); (case tra => walk_at "tr"))
  | ((with_reducible refine' lst.y (T := T) (H := ?trH) ?tra ?tre ?trn); (case tre => assumption); (case trn => walk_at "tr"); (case tra => walk_at "tr"))
  | ((with_reducible refine' tup.x (T := T) (H := ?trH) ?tra ?tre); (case tre => assumption); (case tra => walk_at "tr"))
  | ((with_reducible refine' tup.y (T := T) (H := ?trH) ?tra ?tre ?trt); (case tre => assumption); (case trt => walk_at "tr"); (case tra => walk_at "tr"))
  | ((with_reducible refine' frz.x (T := T) (H := ?trH) ?tra ?tre); (case tre => assumption); (case tra => walk_at "tr"))
  | ((with_reducible refine' frz.y (T := T) (H := ?trH) ?tra ?tre ?trt); (case tre => assumption); (case trt => walk_at "tr"); (case tra => walk_at "tr"))
  | ((with_reducible refine' Im.z (T := T) (H := ?trH) ?tra ?tre ?trt); (case tre => assumption); (case trt => assumption); (case tra => walk_at "tr"))
  | ((with_reducible refine' ImAll.z (T := T) (H := ?trH) ?tra ?tre ?trt); (case tre => assumption); (case trt => assumption); (case tra => walk_at "tr"))
  | ((with_reducible refine' StAt.z (T := T) (H := ?trH) ?tra ?tre ?trt); (case tre => assumption); (case trt => assumption); (case tra => walk_at "tr"))
  | ((with_reducible refine' SqP.z (T := T) (H := ?trH) ?tra ?tre ?trt); (case tre => assumption); (case trt => assumption); (case tra => walk_at "tr"))
  | ((with_reducible refine' tup.z (T := T) (H := ?trH) ?tra ?tre ?trt); (case tre => assumption); (case trt => assumption); (case tra => walk_at "tr"))
  | ((with_reducible refine' Ls.z (T := T) (H := ?trH) ?tra ?tre ?trt ?trn); (case tre => assumption); (case trt => assumption); (case trn => assumption); (case tra => walk_at "tr"))
  | ((with_reducible refine' lst.z (T := T) (H := ?trH) ?tra ?tre ?trn); (case tre => assumption); (case trn => assumption); (case tra => walk_at "tr"))
  | ((with_reducible refine' CL.z (T := T) (H := ?trH) ?tra ?tre ?trn); (case tre => assumption); (case trn => assumption); (case tra => walk_at "tr"))
  | ((with_reducible refine' Tape.ne1 (H := ?trH) ?trt ?trn); (case trn => assumption); (case trt => walk_at "tr"))
  | ((with_reducible refine' Ext.trans (H1 := ?trH) ?tra (Ext.any ?tre)); (case tre => assumption); (case tra => walk_at "tr"))
  | ((with_reducible refine' Ext.trans (H1 := ?trH) ?tra ?tre); (case tre => assumption); (case tra => walk_at "tr"))
  | ((with_reducible refine' Ext.back1 (T := T) (H1 := ?trH) ?tre ?trn ?tra); (case tra => assumption); (case trn => walk_at "tr"); (case tre => walk_at "tr"))
  | ((with_reducible refine' Ext.back0 (T := T) (H1 := ?trH) ?tre ?tra); (case tra => assumption); (case tre => walk_at "tr"))
  | ((with_reducible refine' SqT.of ?tra); (case tra => walk_at "tr"))
  | ((with_reducible refine' SqL.of ?tra); (case tra => walk_at "tr")))
local macro_rules | `(tactic| walk_at "al") => `(tactic| (refine ⟨by first | (show _ ≤ sizeLine; decide) | walk_at "sz", ?_⟩; intro alp aln; generalize alG : upd _ alp _ = alH; obtain ⟨aln2, alx, alh⟩ := al_of (T := T) aln alG; clear alG aln))
local macro_rules | `(tactic| walk_at "al0") => `(tactic| (intro alp aln; generalize alG : upd _ alp _ = alH; obtain ⟨aln2, alx, alh⟩ := al_of (T := T) aln alG; clear alG aln))

theorem word_lenS {wd : Str} (h : wd ∈ [Str.ofString "keys", Str.ofString "link", Str.ofString "hosts"]) : wd.length ≤ 5 := by
  simp only [List.mem_cons, List.not_mem_nil, or_false] at h
  rcases h with rfl | rfl | rfl <;> decide +kernel
theorem slW_jlen {s : Sl} (h : SlOk s) : (jn 32 (slW s)).length ≤ 70 := by
  have := jn_len 32 (slW s)
  have := slW_sum h
  have := slW_len s
  omega
theorem im5 {H : Hp} {v : V} {d1 d2 d3 d4 d5 : PyData} (h : Im H v (.tuple [d1, d2, d3, d4, d5])) : ∃ p x1 x2 x3 x4 x5, v = .ref p ∧ H p = some (.tup [x1, x2, x3, x4, x5]) ∧ Im H x1 d1 ∧ Im H x2 d2 ∧ Im H x3 d3 ∧ Im H x4 d4 ∧ Im H x5 d5 := by
  obtain ⟨p, xs, rfl, hp, hx⟩ := h.tup'
  cases hx with
  | cons a1 b => cases b with
    | cons a2 b => cases b with
      | cons a3 b => cases b with
        | cons a4 b => cases b with
          | cons a5 b =>
            cases b
            exact ⟨p, _, _, _, _, _, rfl, hp, a1, a2, a3, a4, a5⟩
theorem int_log2 {n : Nat} (h : n < 100000) : ((n : Nat) : Int).natAbs.log2 < 1920 := by
  rw [Int.natAbs_natCast]
  by_cases h0 : n = 0
  · subst h0
    decide
  · exact Nat.lt_of_lt_of_le ((Nat.log2_lt h0).mpr (Nat.lt_of_lt_of_le h (by decide : 100000 ≤ 2 ^ 17))) (by decide)
theorem ok_law_entry_text (D : Def K mg "_law_entry_text" s_law_entry_text ["slot", "item"]) (mb : ∀ x ∈ bltns, mg x = none) (G_law_ids_text : Ok P w K mg base 1 "_law_ids_text" ["ids"] spLIds) : Ok P w K mg base 2 "_law_entry_text" ["slot", "item"] spPlacedT := by
  refine D.ok sc_law_entry_text (fun vs H Q E h => ?_) (fun cdv f A outer s H vs Q E hr h => ?_)
  · obtain ⟨v, u, s, i, rfl, _⟩ := h
    rfl
  · obtain ⟨v, u, sl, i, rfl, hv, hu, hs, hi, q⟩ := h
    refine ⟨_, (pss_cons (ps_set (i := 2) sc_law_entry_text.nd rfl (.inl rfl) (pe_op (op_plus K rfl) (pe_op (op_plus K rfl) (pe_op (op_plus K rfl) (pe_ix (ix_U K rfl) (pv 0) pe_int (fun _ _ => rfl)) pe_str) (pe_ix (ix_U K rfl) (pv 0) pe_int (fun _ _ => rfl))) (pe_ifExp (pt_cmpR (op_eqU K rfl hr.units) (pe_ix (ix_U K rfl) (pv 0) pe_int (fun _ _ => rfl)) pe_str (nomark _)) (pe_op (op_plus K rfl) pe_str (pe_ix (ix_U K rfl) (pv 0) pe_int (fun _ _ => rfl))) pe_str)))
   (pss_cons (ps_set (i := 2) sc_law_entry_text.nd rfl (.inl rfl) (pe_op (op_plus K rfl) (pe_op (op_plus K rfl) (pe_op (op_plus K rfl) (pe_op (op_plus K rfl) (pv 2) pe_str) (pe_callO G_law_ids_text (hr.mono (by decide)) (by rfl) (pa_cons (pe_ix (ix_U K rfl) (pv 1) pe_int (fun _ _ => rfl)) pa_nil))) pe_str) (pe_callTy call_str_int (by rfl) (mb _ (by decide)) (by decide +kernel) (pa_cons (pe_ix (ix_U K rfl) (pv 1) pe_int (fun _ _ => rfl)) pa_nil))))
   (pss_cons (ps_if (pt_cmpR (op_neU K rfl hr.units) (pe_ix (ix_U K rfl) (pv 0) pe_int (fun _ _ => rfl)) pe_str (nomark _)) (pss_one (ps_set (i := 2) sc_law_entry_text.nd rfl (.inl rfl) (pe_op (op_plus K rfl) (pe_op (op_plus K rfl) (pe_op (op_plus K rfl) (pv 2) pe_str) (pe_callO G_law_ids_text (hr.mono (by decide)) (by rfl) (pa_cons (pe_ix (ix_U K rfl) (pv 1) pe_int (fun _ _ => rfl)) pa_nil))) (pe_fstr (.cons pe_str (.cons (pe_fmt (pe_ix (ix_U K rfl) (pv 1) pe_int (fun _ _ => rfl))) (.cons pe_str (.cons (pe_fmt (pe_ix (ix_U K rfl) (pv 1) pe_int (fun _ _ => rfl))) PJ.nil)))))))) pss_nil)
   (pss_one (ps_ret (pv 2)))))), ?_⟩
    obtain ⟨pi, x1, x2, x3, x4, x5, rfl, hpi, m1, m2, m3, m4, m5⟩ := im5 hu
    obtain rfl := imI' m2
    obtain rfl := imI' m4
    obtain rfl := imI' m5
    have k1 := num_len hi.li
    have k2 := num_len hi.a
    have k3 := num_len hi.b
    have k4 := ids_len hi.c
    have k5 := ids_len hi.g
    have k6 := hi.cl
    have k7 := hi.gl
    have k8 := hi.li
    have k9 := hi.a
    have ka := hi.b
    have hj := slW_jlen hs
    have hsne : slW sl ≠ [] := by cases sl <;> simp [slW]
    refine rd_cut (fun σ' H' => σ' = [some v, some (.ref pi), some (.str (jn 32 (slW sl)))] ∧ H' = H) (fun nx' hnx => ?_) (fun σ' H' h => ?_)
    · rcases sl_cases hs with ⟨wd, z, e1, hz, e2, hwd, _⟩ | ⟨n, k, rfl⟩
      · rw [e2] at hv
        have l1 := word_lenS hwd
        have l2 := name_len hz
        walk_at "rd"
        refine rd_ixSs (i := 0) hv (z := wd) rfl ?_
        walk_at "rd"
        refine rd_plusS (by walk_at "fslW") ?_
        walk_at "rd"
        refine rd_ixSs (i := 1) hv (z := z) rfl ?_
        refine rd_plusS (by walk_at "fslW") ?_
        walk_at "rd"
        refine rd_ixSs (i := 0) hv (z := wd) rfl ?_
        walk_at "rd"
        rw [decide_eq_false (word_okS hwd).2]
        walk_at "rd"
        refine rd_plusS (by walk_at "fslW") ?_
        have e : ((wd ++ Str.ofString " ") ++ z) ++ Str.ofString "" = jn 32 (slW sl) := sg_inj (by
          rw [e1]
          simp only [sg_app, sg_sp1, sg_em2, sg_jn, List.map, TL.joinL]
          simp)
        rw [e]
        exact hnx _ _ ⟨rfl, rfl⟩
      · have l1 := name_len hs.1
        have l2 := NK.id_len hs.2
        have hv : Im H v (.tuple [.str (Str.ofString "set"), .str n, .str k]) := hv
        walk_at "rd"
        refine rd_ixSs (i := 0) hv (z := Str.ofString "set") rfl ?_
        walk_at "rd"
        refine rd_plusS (by rw [set_len]; walk_at "fslW") ?_
        walk_at "rd"
        refine rd_ixSs (i := 1) hv (z := n) rfl ?_
        refine rd_plusS (by rw [app_len2, set_len]; walk_at "fslW") ?_
        walk_at "rd"
        refine rd_ixSs (i := 0) hv (z := Str.ofString "set") rfl ?_
        walk_at "rd"
        rw [decide_eq_true rfl]
        walk_at "rd"
        refine rd_ixSs (i := 2) hv (z := k) rfl ?_
        refine rd_plusS (by walk_at "fslW") ?_
        refine rd_plusS (by rw [app_len2, app_len2, set_len]; walk_at "fslW") ?_
        have e : ((Str.ofString "set" ++ Str.ofString " ") ++ n) ++ (Str.ofString " " ++ k) = jn 32 (slW (.s n k)) := sg_inj (by
          show _ = sg (jn 32 [Str.ofString "set", n, k])
          simp only [sg_app, sg_sp1, sg_jn, List.map, TL.joinL]
          simp)
        rw [e]
        exact hnx _ _ ⟨rfl, rfl⟩
    · obtain ⟨rfl, rfl⟩ := h
      obtain ⟨wd, dr, e2, e3⟩ : ∃ wd r, slD sl = .tuple (.str wd :: r) ∧ (isH sl = true ↔ wd = Str.ofString "hosts") := by
        rcases sl_cases hs with ⟨wd, z, _, _, e2, _, e3⟩ | ⟨n, k, rfl⟩
        · exact ⟨wd, _, e2, e3⟩
        · exact ⟨_, _, rfl, by show (false = true ↔ Str.ofString "set" = Str.ofString "hosts"); decide +kernel⟩
      have hv2 := hv
      rw [e2] at hv2
      walk_at "rdn"
      refine rd_seq ?_
      walk_at "rd"
      refine rd_plusS (by walk_at "fslW") ?_
      walk_at "rd"
      refine rd_ixT (i := 0) (SqT.of hpi) (v := x1) rfl ?_
      walk_at "rd"
      refine ⟨x1, i.c, rfl, m1, hi.c, k6, ?_⟩
      refine rd_plusS (by walk_at "fslW") ?_
      walk_at "rd"
      refine rd_plusS (by walk_at "fslW") ?_
      walk_at "rd"
      refine rd_ixT (i := 1) (SqT.of hpi) (v := .int (i.li : Int)) rfl ?_
      walk_at "rd"
      refine ⟨int_log2 k8, ?_⟩
      refine rd_plusS (by walk_at "fslW") ?_
      walk_at "rd"
      refine rd_ixSs (i := 0) hv2 (z := wd) (show atI (PyData.str wd :: dr) ((0 : Nat) : Int) = some (PyData.str wd) from atI_nat rfl) ?_
      walk_at "rd"
      by_cases hb : isH sl = true
      · rw [decide_eq_true (e3.mp hb)]
        walk_at "rd"
        have e : (((jn 32 (slW sl) ++ Str.ofString " = ") ++ idsS i.c) ++ Str.ofString " life ") ++ Str.ofString (toString ((i.li : Nat) : Int)) = jn 32 (slW sl ++ Str.ofString "=" :: itW sl i) := by
          unfold itW
          rw [if_pos hb, jn_app 32 hsne (by simp), jn_cons 32 _ (by simp)]
          refine sg_inj ?_
          simp only [sg_app, sg_c_life, sg_c_is, sg_S, sg_w_is, sg_num]
          simp [sg_jn, TL.joinL, sg_numS, sg_w_life, sg_num]
        rw [e]
        exact q
      · rw [decide_eq_false (fun z => hb (e3.mpr z))]
        walk_at "rd"
        refine rd_plusS (by walk_at "fslW") ?_
        walk_at "rd"
        refine rd_ixT (i := 2) (SqT.of hpi) (v := x3) rfl ?_
        walk_at "rd"
        refine ⟨x3, i.g, rfl, m3, hi.g, k7, ?_⟩
        refine rd_plusS (by walk_at "fslW") ?_
        walk_at "rd"
        walk_at "fscW"
        refine rd_ixT (i := 3) (SqT.of hpi) (v := .int (i.a : Int)) rfl ?_
        walk_at "rd"
        walk_at "fsiW"
        walk_at "fscW"
        refine rd_ixT (i := 4) (SqT.of hpi) (v := .int (i.b : Int)) rfl ?_
        walk_at "rd"
        walk_at "fsiW"
        refine rd_plusS (by walk_at "fslW") ?_
        have e : ((((((jn 32 (slW sl) ++ Str.ofString " = ") ++ idsS i.c) ++ Str.ofString " life ") ++ Str.ofString (toString ((i.li : Nat) : Int))) ++ Str.ofString " by ") ++ idsS i.g) ++ ((((Str.empty ++ Str.ofString " from ") ++ Str.ofString (toString ((i.a : Nat) : Int))) ++ Str.ofString " to ") ++ Str.ofString (toString ((i.b : Nat) : Int))) = jn 32 (slW sl ++ Str.ofString "=" :: itW sl i) := by
          unfold itW
          rw [if_neg hb, jn_app 32 hsne (by simp), jn_cons 32 _ (by simp)]
          refine sg_inj ?_
          simp only [sg_app, sg_em, sg_c_life, sg_c_by, sg_c_from, sg_c_to, sg_c_is, sg_S, sg_w_is, sg_num]
          simp [sg_jn, TL.joinL, sg_numS, sg_w_life, sg_w_by, sg_w_from, sg_w_to, sg_num]
        rw [e]
        walk_at "rd"
        exact q
theorem ok_law_deed_text (D : Def K mg "_law_deed_text" s_law_deed_text ["deed"]) (G_law_entry_text : Ok P w K mg base 2 "_law_entry_text" ["slot", "item"] spPlacedT) : Ok P w K mg base 3 "_law_deed_text" ["deed"] spDxT := by
  refine D.ok sc_law_deed_text (fun vs H Q E h => ?_) (fun cdv f A outer s H vs Q E hr h => ?_)
  · obtain ⟨v, d, rfl, _⟩ := h
    rfl
  · obtain ⟨v, d, rfl, hv, hd, q⟩ := h
    refine ⟨_, (pss_cons (ps_if (pt_cmpR (op_eqU K rfl hr.units) (pe_ix (ix_U K rfl) (pv 0) pe_int (fun _ _ => rfl)) pe_str (nomark _)) (pss_one (ps_ret (pe_op (op_plus K rfl) pe_str (pe_callO G_law_entry_text (hr.mono (by decide)) (by rfl) (pa_cons (pe_ix (ix_U K rfl) (pv 0) pe_int (fun _ _ => rfl)) (pa_cons (pe_ix (ix_U K rfl) (pv 0) pe_int (fun _ _ => rfl)) pa_nil)))))) pss_nil)
   (pss_one (ps_ret (pe_op (op_plus K rfl) (pe_op (op_plus K rfl) (pe_op (op_plus K rfl) (pe_op (op_plus K rfl) (pe_ix (ix_U K rfl) (pv 0) pe_int (fun _ _ => rfl)) pe_str) (pe_ix (ix_U K rfl) (pv 0) pe_int (fun _ _ => rfl))) pe_str) (pe_ix (ix_U K rfl) (pv 0) pe_int (fun _ _ => rfl)))))), ?_⟩
    have cpl : (Str.ofString "put ").length = 4 := c_put_len
    cases d with
    | put sl i =>
      obtain ⟨p, x, y, z, rfl, hp, hx, hy, hz⟩ := im3 hv
      obtain rfl := imS' hx
      have hj : (jn 32 (slW sl ++ Str.ofString "=" :: itW sl i)).length ≤ 180 := by
        have h1 := jn_len 32 (slW sl ++ Str.ofString "=" :: itW sl i)
        have h2 := pl_sum hd.1 hd.2
        omega
      walk_at "rd"
      refine rd_ixT (i := 0) (SqT.of hp) (v := .str (Str.ofString "put")) rfl ?_
      walk_at "rd"
      rw [decide_eq_true rfl]
      walk_at "rd"
      refine rd_ixT (i := 1) (SqT.of hp) (v := y) rfl ?_
      walk_at "rd"
      refine rd_ixT (i := 2) (SqT.of hp) (v := z) rfl ?_
      walk_at "rd"
      refine ⟨y, z, sl, i, rfl, hy, hz, hd.1, hd.2, ?_⟩
      refine rd_plusS (by walk_at "fslW") ?_
      have e : Str.ofString "put " ++ jn 32 (slW sl ++ Str.ofString "=" :: itW sl i) = jn 32 (dxW (.put sl i)) := by
        show _ = jn 32 (Str.ofString "put" :: (slW sl ++ Str.ofString "=" :: itW sl i))
        rw [jn_cons 32 _ (by simp)]
        refine sg_inj ?_
        simp only [sg_app, sg_c_put, sg_S]
        simp
      rw [e]
      exact q
    | on a b =>
      obtain ⟨p, x, y, z, rfl, hp, hx, hy, hz⟩ := im3 hv
      obtain rfl := imS' hx
      obtain rfl := imS' hy
      obtain rfl := imS' hz
      have l0 : (Str.ofString "on").length = 2 := by decide +kernel
      have l1 := NK.id_len hd.1
      have l2 := name_len hd.2
      walk_at "rd"
      refine rd_ixT (i := 0) (SqT.of hp) (v := .str (Str.ofString "on")) rfl ?_
      walk_at "rd"
      rw [decide_eq_false (by decide +kernel)]
      walk_at "rd"
      refine rd_ixT (i := 0) (SqT.of hp) (v := .str (Str.ofString "on")) rfl ?_
      walk_at "rd"
      refine rd_plusS (by walk_at "fslW") ?_
      walk_at "rd"
      refine rd_ixT (i := 1) (SqT.of hp) (v := .str a) rfl ?_
      refine rd_plusS (by walk_at "fslW") ?_
      walk_at "rd"
      refine rd_plusS (by walk_at "fslW") ?_
      walk_at "rd"
      refine rd_ixT (i := 2) (SqT.of hp) (v := .str b) rfl ?_
      refine rd_plusS (by walk_at "fslW") ?_
      have e : (((Str.ofString "on" ++ Str.ofString " ") ++ a) ++ Str.ofString " ") ++ b = jn 32 (dxW (.on a b)) := sg_inj (by
        show _ = TL.joinL [32] ([Str.ofString "on", a, b].map sg)
        simp only [sg_app, sg_sp, List.map, TL.joinL]
        simp)
      rw [e]
      exact q
    | off a b =>
      obtain ⟨p, x, y, z, rfl, hp, hx, hy, hz⟩ := im3 hv
      obtain rfl := imS' hx
      obtain rfl := imS' hy
      obtain rfl := imS' hz
      have l0 : (Str.ofString "off").length = 3 := by decide +kernel
      have l1 := NK.id_len hd.1
      have l2 := name_len hd.2
      walk_at "rd"
      refine rd_ixT (i := 0) (SqT.of hp) (v := .str (Str.ofString "off")) rfl ?_
      walk_at "rd"
      rw [decide_eq_false (by decide +kernel)]
      walk_at "rd"
      refine rd_ixT (i := 0) (SqT.of hp) (v := .str (Str.ofString "off")) rfl ?_
      walk_at "rd"
      refine rd_plusS (by walk_at "fslW") ?_
      walk_at "rd"
      refine rd_ixT (i := 1) (SqT.of hp) (v := .str a) rfl ?_
      refine rd_plusS (by walk_at "fslW") ?_
      walk_at "rd"
      refine rd_plusS (by walk_at "fslW") ?_
      walk_at "rd"
      refine rd_ixT (i := 2) (SqT.of hp) (v := .str b) rfl ?_
      refine rd_plusS (by walk_at "fslW") ?_
      have e : (((Str.ofString "off" ++ Str.ofString " ") ++ a) ++ Str.ofString " ") ++ b = jn 32 (dxW (.off a b)) := sg_inj (by
        show _ = TL.joinL [32] ([Str.ofString "off", a, b].map sg)
        simp only [sg_app, sg_sp, List.map, TL.joinL]
        simp)
      rw [e]
      exact q
end

open PySem PySem.Spec PyProof.Rows L2
open PySem.W (EachIs)
section
variable {T : List (Addr × Str)} {P : Program} {w : World} {K : PySem.W.Frag} {mg : Str → Option Value} {base : Heap}
local macro_rules | `(tactic| walk_at "tr") => `(tactic| first
  | assumption
  | exact Ext.refl
  | ((with_reducible refine' Im.x (T := T) (H := ?trH) ?tra ?tre); (case tre => assumption); (case tra => walk_at "tr"))
  | ((with_reducible refine' Im.y (T := T) (H := ?trH) ?tra ?tre ?trt); (case tre => assumption); (case trt => walk_at "tr"); (case tra => walk_at "tr"))
  | ((with_reducible refine' ImAll.x (T := T) (H := ?trH) ?tra ?tre); (case tre => assumption); (case tra => walk_at "tr"))
  | ((with_reducible refine' ImAll.y (T := T) (H := ?trH) ?tra ?tre ?trt); (case tre => assumption); (case trt => walk_at "tr"); (case tra => walk_at "tr"))
  | ((with_reducible refine' Ls.x (T := T) (H := ?trH) ?tra ?tre); (case tre => assumption); (case tra => walk_at "tr"))
  | ((with_reducible refine' Ls.y (T := T) (H := ?trH) ?tra ?tre ?trn ?trt); (case tre => assumption); (case trt => walk_at "tr"); (case trn => walk_at "tr"); (case tra => walk_at "tr"))
  | ((with_reducible refine' SqP.x (T := T) (H := ?trH) ?tra ?tre); (case tre => assumption); (case tra => walk_at "tr"))
  | ((with_reducible refine' SqP.y (T := T) (H := ?trH) ?tra ?tre ?trt); (case tre => assumption); (case trt => walk_at "tr"); (case tra => walk_at "tr"))
  | ((with_reducible refine' StAt.x (T := T) (H := ?trH) ?tra ?tre); (case tre => assumption); (case tra => walk_at "tr"))
  | ((with_reducible refine' StAt.y (T := T) (H := ?trH) ?tra ?tre ?trt); (case tre => assumption); (case trt => walk_at "tr"); (case tra => walk_at "tr"))
  | ((with_reducible refine' Pools.ext0 (T := T) (H := ?trH) ?tra ?tre); (case tre => assumption); (case tra => walk_at "tr"))
  | ((with_reducible refine' Pools.ext (T := T) (H := ?trH) ?tra ?tre ?trt); (case tre => assumption); (case trt => walk_at "tr"); (case tra => walk_at "tr"))
  | ((with_reducible refine' CL.x (T := T) (H := ?trH) ?tra ?tre); (case tre => assumption); (case tra => walk_at "tr"))
  | ((with_reducible refine' CL.y (T := T) (H := ?trH) ?tra ?tre); (case tre => assumption); (case tra => walk_at "tr"))
  | ((with_reducible refine' Tape.ext (T := T) (H := ?trH) ?tra ?tre); (case tre => assumption); (case tra => walk_at "tr"))
  | ((with_reducible refine' lst.x (T := T) (H := ?trH) ?tra ?tre); (case tre => assumption); (case tra => walk_at "tr"))
  | ((with_reducible refine' lst.y (T := T) (H := ?trH) ?tra ?tre ?trn); (case tre => assumption); (case trn => walk_at "tr"); (case tra => walk_at "tr"))
  | ((with_reducible refine' tup.x (T := T) (H := ?trH) ?tra ?tre); (case tre => assumption); (case tra => walk_at "tr"))
  | ((with_reducible refine' tup.y (T := T) (H := ?trH) ?tra ?tre ?trt); (case tre => assumption); (case trt => walk_at "tr"); (case tra => walk_at "tr"))
  | ((with_reducible refine' frz.x (T := T) (H := ?trH) ?tra ?tre); (case tre => assumption); (case tra => walk_at "tr"))
  | ((with_reducible refine' frz.y (T := T) (H := ?trH) ?tra ?tre ?trt); (case tre => assumption); (case trt => walk_at "tr"); (case tra => walk_at "tr"))
  | ((with_reducible refine' Im.z (T := T) (H := ?trH) ?tra ?tre ?trt); (case tre => assumption); (case trt => assumption); (case tra => walk_at "tr"))
  | ((with_reducible refine' ImAll.z (T := T) (H := ?trH) ?tra ?tre ?trt); (case tre => assumption); (case trt => assumption); (case tra => walk_at "tr"))
  | ((with_reducible refine' StAt.z (T := T) (H := ?trH) ?tra ?tre ?trt); (case tre => assumption); (case trt => assumption); (case tra => walk_at "tr"))
  | ((with_reducible refine' SqP.z (T := T) (H := ?trH) ?tra ?tre ?trt); (case tre => assumption); (case trt => assumption); (case tra => walk_at "tr"))
  | ((with_reducible refine' tup.z (T := T) (H := ?trH) ?tra ?tre ?trt); (case tre => assumption); (case trt => assumption); (case tra => walk_at "tr"))
  | ((with_reducible refine' Ls.z (T := T) (H := ?trH) ?tra ?tre ?trt ?trn); (case tre => assumption); (case trt => assumption); (case trn => assumption); (case tra => walk_at "tr"))
  | ((with_reducible refine' lst.z (T := T) (H := ?trH) ?tra ?tre ?trn); (case tre => assumption); (case trn => assumption); (case tra => walk_at "tr"))
  | ((with_reducible refine' CL.z (T := T) (H := ?trH) ?tra ?tre ?trn); (case tre => assumption); (case trn => assumption); (case tra => walk_at "tr"))
  | ((with_reducible refine' Tape.ne1 (H := ?trH) ?trt ?trn); (case trn => assumption); (case trt => walk_at "tr"))
  | ((with_reducible refine' Ext.trans (H1 := ?trH) ?tra (Ext.any ?tre)); (case tre => assumption); (case tra => walk_at "tr"))
  | ((with_reducible refine' Ext.trans (H1 := ?trH) ?tra ?tre); (case tre => assumption); (case tra => walk_at "tr"))
  | ((with_reducible refine' Ext.back1 (T := T) (H1 := ?trH) ?tre ?trn ?tra); (case tra => assumption); (case trn => walk_at "tr"); (case tre => walk_at "tr"))
  | ((with_reducible refine' Ext.back0 (T := T) (H1 := ?trH) ?tre ?tra); (case tra => assumption); (case tre => walk_at "tr"))
  | ((with_reducible refine' SqT.of ?tra); (case tra => walk_at "tr"))
  | ((with_reducible refine' SqL.of ?tra); (case tra => walk_at "tr")))
local macro_rules | `(tactic| walk_at "al") => `(tactic| (refine ⟨by first | (show _ ≤ sizeLine; decide) | walk_at "sz", ?_⟩; intro alp aln; generalize alG : upd _ alp _ = alH; obtain ⟨aln2, alx, alh⟩ := al_of (T := T) aln alG; clear alG aln))
local macro_rules | `(tactic| walk_at "al0") => `(tactic| (intro alp aln; generalize alG : upd _ alp _ = alH; obtain ⟨aln2, alx, alh⟩ := al_of (T := T) aln alG; clear alG aln))

theorem all_of {α : Type} {R : V → α → Prop} : ∀ {vs : List V}, (∀ v ∈ vs, ∃ e, R v e) → ∃ es : List α, vs.length = es.length ∧ (∀ (i : Nat) v e, vs[i]? = some v → es[i]? = some e → R v e) ∧ ∀ e ∈ es, ∃ v, R v e
  | [], _ => ⟨[], rfl, fun i v e h => (by simp at h), fun e h => nomatch h⟩
  | v :: r, h => by
    obtain ⟨es, h1, h2, h3⟩ := all_of (vs := r) fun x hx => h x (List.mem_cons_of_mem _ hx)
    obtain ⟨e, he⟩ := h v List.mem_cons_self
    refine ⟨e :: es, by rw [List.length_cons, List.length_cons, h1], fun i v' e' a b => ?_, fun x hx => ?_⟩
    · cases i with
      | zero =>
        cases Option.some.inj (show some v = some v' from a)
        cases Option.some.inj (show some e = some e' from b)
        exact he
      | succ i => exact h2 i v' e' a b
    · rcases List.mem_cons.mp hx with rfl | hx
      · exact ⟨_, he⟩
      · exact h3 x hx
/-- a list of data drawn from the tape, one for each turn of a walk -/
theorem lcg_drawn (T : List (Addr × Str)) {α : Type} (d : α → PyData) (Pp : α → Prop) {J : It} {n : Nat} {G : Hp → Prop} {Y : Nat → Hp → V → Hp → Prop} {σ : L2.St} {H : Hp} {Q : VK} {te : TE} {k : Nat} {l t : Addr} (w : Walk J n G Y) (hY : ∀ i H x H', Y i H x H' → H' = H) (hT : Tape l H t) (hn : n < sizeLine)
    (hG : ∀ H', Ext T [t] H H' → Tape l H' t → G H')
    (step : ∀ (i : Nat) x H', i < n → Ext T [t] H H' → Tape l H' t → ∀ F : VK, (∀ v y H2, Pp y → Im H2 v (d y) → Ext T [t] H' H2 → Tape l H2 t → F v H2) → te ((wipe σ [k]).set k (some x)) H' F)
    (q : ∀ D H2 vs (ys : List α), Nw H D → Ext T [t] H H2 → Tape l H2 t → H2 D = some (.lst vs) → ImAll H2 vs (ys.map d) → ys.length = n → (∀ y ∈ ys, Pp y) → Q (.ref D) H2) : LcG J (gName k) tYes te [k] σ H Q := fun D hD => by
  obtain ⟨nt, nl⟩ := hT.ne (.of hD)
  refine lc_it w (fun i H2 => Ext T [t] H H2 ∧ Tape l H2 t ∧ ∃ vs, H2 D = some (.lst vs) ∧ vs.length = i ∧ ∀ v ∈ vs, ∃ y, Im H2 v (d y) ∧ Pp y) ⟨.new hD, hT.upd hD, [], upd_same, rfl, by simp⟩ (fun _ _ _ h => hG _ h.1 h.2.1) (fun i x H1 H' hi h y => ?_) (fun H1 h => ?_)
  · have e1 := hY i H1 x H' y
    subst e1
    obtain ⟨h1, h2, vs, h3, h4, h5⟩ := h
    refine ⟨wipe1, step i x H' hi h1 h2 _ fun v y H2 hy hv e t2 => ?_⟩
    have h3' := e.lst (show D ∉ [t] by simpa using nt) h3
    have eo : Ext T [D] H2 (upd H2 D (.lst (vs ++ [v]))) := Ext.mut (by simp) h3'
    have lo := lsts_one h3'
    refine ⟨vs, h3', by omega, (h1.trans e).own (.of hD) h3', t2.own nt nl, vs ++ [v], upd_same, by rw [List.length_append, h4]; rfl, fun u hu => ?_⟩
    rcases List.mem_append.mp hu with hu | hu
    · obtain ⟨y', g1, g2⟩ := h5 u hu
      exact ⟨y', Im.ext eo lo _ _ (g1.y e h2), g2⟩
    · rw [List.mem_singleton.mp hu]
      exact ⟨y, Im.ext eo lo _ _ hv, hy⟩
  · obtain ⟨h1, h2, vs, h3, h4, h5⟩ := h
    obtain ⟨ys, g1, g2, g3⟩ := all_of (R := fun v y => Im H1 v (d y) ∧ Pp y) h5
    exact q D H1 vs ys (.of hD) h1 h2 h3 (imAll_ix g1 fun i v y hv hy => (g2 i v y hv hy).1) (by omega) fun y hy => by
      obtain ⟨_, h⟩ := g3 y hy
      exact h.2
def spCase (T : List (Addr × Str)) : Sp := fun vs H Q _ => ∃ (l t : Addr), vs = [.ref t] ∧ Tape l H t ∧ ∀ v c H', CsOk c → Im H' v (csD c) → Ext T [t] H H' → Tape l H' t → Q v H'
theorem ok_law_case (D : Def K mg "_law_case" s_law_case ["tape"]) (mb : ∀ x ∈ bltns, mg x = none) (G_law_take : Ok P w K mg base 2 "_law_take" ["tape", "many"] (spTake T)) (G_law_id : Ok P w K mg base 3 "_law_id" ["tape"] (spId T)) (G_law_name : Ok P w K mg base 5 "_law_name" ["tape"] (spLName T)) (G_law_number : Ok P w K mg base 3 "_law_number" ["tape"] (spLNum T)) (G_law_some : Ok P w K mg base 4 "_law_some" ["tape", "most"] (spLSome T)) (G_law_slot : Ok P w K mg base 6 "_law_slot" ["tape"] (spLSlot T))
    (G_law_item_of : Ok P w K mg base 5 "_law_item_of" ["tape", "slot"] (spItemOf T)) (G_law_one : Ok P w K mg base 7 "_law_one" ["tape"] (spOne T)) : Ok P w K mg base 8 "_law_case" ["tape"] (spCase T) := by
  refine D.ok sc_law_case (fun vs H Q E h => ?_) (fun cdv f A outer s H vs Q E hr h => ?_)
  · obtain ⟨l, t, rfl, _⟩ := h
    rfl
  · obtain ⟨l, t, rfl, hT, q⟩ := h
    refine ⟨_, (pss_cons (ps_set (i := 2) sc_law_case.nd rfl (.inl rfl) (pe_tup (pa_cons (pe_callTy (call_tupU K rfl) (by rfl) (mb _ (by decide)) (by decide +kernel) (pa_cons (pe_lc (own := [("k", 1)]) (g := gName 1) (tt := tYes) rfl sc_law_case.nd (pi_range1 (by rfl) (mb _ (by decide)) (pa_cons (pe_callO G_law_take (hr.mono (by decide)) (by rfl) (pa_cons (pv 0) (pa_cons pe_int pa_nil))) pa_nil)) (blkOk_by (N := N_law_case) (sc := defScope s_law_case) (by decide +kernel)) (fun _ _ _ _ _ => (pg_name (i := 1) sc_law_case.nd rfl (Or.inl rfl))) (fun _ _ _ _ _ => pts_nil) (fun _ _ _ _ _ => (pe_tup (pa_cons (pe_callO G_law_name (hr.mono (by decide)) (by rfl) (pa_cons (pv 0) pa_nil)) (pa_cons (pe_callO G_law_number (hr.mono (by decide)) (by rfl) (pa_cons (pv 0) pa_nil)) pa_nil))))) pa_nil)) (pa_cons (pe_callO G_law_some (hr.mono (by decide)) (by rfl) (pa_cons (pv 0) (pa_cons pe_int pa_nil))) (pa_cons (pe_callTy (call_tupU K rfl) (by rfl) (mb _ (by decide)) (by decide +kernel) (pa_cons (pe_lc (own := [("k", 1)]) (g := gName 1) (tt := tYes) rfl sc_law_case.nd (pi_range1 (by rfl) (mb _ (by decide)) (pa_cons (pe_callO G_law_take (hr.mono (by decide)) (by rfl) (pa_cons (pv 0) (pa_cons pe_int pa_nil))) pa_nil)) (blkOk_by (N := N_law_case) (sc := defScope s_law_case) (by decide +kernel)) (fun _ _ _ _ _ => (pg_name (i := 1) sc_law_case.nd rfl (Or.inl rfl))) (fun _ _ _ _ _ => pts_nil) (fun _ _ _ _ _ => (pe_tup (pa_cons (pe_callO G_law_name (hr.mono (by decide)) (by rfl) (pa_cons (pv 0) pa_nil)) (pa_cons (pe_callO G_law_id (hr.mono (by decide)) (by rfl) (pa_cons (pv 0) pa_nil)) pa_nil))))) pa_nil)) pa_nil)))))
   (pss_cons (ps_set (i := 3) sc_law_case.nd rfl (.inl rfl) (pe_lst pa_nil))
   (pss_cons (ps_for PassesOwn.never rfl (pi_range1 (by rfl) (mb _ (by decide)) (pa_cons (pe_callO G_law_take (hr.mono (by decide)) (by rfl) (pa_cons (pv 0) (pa_cons pe_int pa_nil))) pa_nil)) (pg_name (i := 1) sc_law_case.nd rfl (.inl rfl)) (pss_cons (ps_set (i := 4) sc_law_case.nd rfl (.inl rfl) (pe_callO G_law_slot (hr.mono (by decide)) (by rfl) (pa_cons (pv 0) pa_nil)))
   (pss_one (ps_expr (pe_bm PySem.F.plainAttrs_list PySem.F.slot_list_append PySem.F.type_list_append mt_append (pv 3) (pa_cons (pe_tup (pa_cons (pv 4) (pa_cons (pe_callO G_law_item_of (hr.mono (by decide)) (by rfl) (pa_cons (pv 0) (pa_cons (pv 4) pa_nil))) pa_nil))) pa_nil))))))
   (pss_cons (ps_set (i := 5) sc_law_case.nd rfl (.inl rfl) (pe_callTy (call_tupU K rfl) (by rfl) (mb _ (by decide)) (by decide +kernel) (pa_cons (pe_lc (own := [("k", 1)]) (g := gName 1) (tt := tYes) rfl sc_law_case.nd (pi_range1 (by rfl) (mb _ (by decide)) (pa_cons (pe_callO G_law_take (hr.mono (by decide)) (by rfl) (pa_cons (pv 0) (pa_cons pe_int pa_nil))) pa_nil)) (blkOk_by (N := N_law_case) (sc := defScope s_law_case) (by decide +kernel)) (fun _ _ _ _ _ => (pg_name (i := 1) sc_law_case.nd rfl (Or.inl rfl))) (fun _ _ _ _ _ => pts_nil) (fun _ _ _ _ _ => (pe_tup (pa_cons (pe_callO G_law_id (hr.mono (by decide)) (by rfl) (pa_cons (pv 0) pa_nil)) (pa_cons (pe_callO G_law_name (hr.mono (by decide)) (by rfl) (pa_cons (pv 0) pa_nil)) pa_nil))))) pa_nil)))
   (pss_cons (ps_set (i := 6) sc_law_case.nd rfl (.inl rfl) (pe_callTy (call_tupU K rfl) (by rfl) (mb _ (by decide)) (by decide +kernel) (pa_cons (pe_lc (own := [("k", 1)]) (g := gName 1) (tt := tYes) rfl sc_law_case.nd (pi_range1 (by rfl) (mb _ (by decide)) (pa_cons (pe_callO G_law_take (hr.mono (by decide)) (by rfl) (pa_cons (pv 0) (pa_cons pe_int pa_nil))) pa_nil)) (blkOk_by (N := N_law_case) (sc := defScope s_law_case) (by decide +kernel)) (fun _ _ _ _ _ => (pg_name (i := 1) sc_law_case.nd rfl (Or.inl rfl))) (fun _ _ _ _ _ => pts_nil) (fun _ _ _ _ _ => (pe_callO G_law_one (hr.mono (by decide)) (by rfl) (pa_cons (pv 0) pa_nil)))) pa_nil)))
   (pss_cons (ps_set (i := 7) sc_law_case.nd rfl (.inl rfl) (pe_callTy (call_tupU K rfl) (by rfl) (mb _ (by decide)) (by decide +kernel) (pa_cons (pe_lc (own := [("deed", 9)]) (g := gName 9) (tt := tYes) rfl sc_law_case.nd (pi_seq K rfl (pv 6)) (blkOk_by (N := N_law_case) (sc := defScope s_law_case) (by decide +kernel)) (fun _ _ _ _ _ => (pg_name (i := 9) sc_law_case.nd rfl (Or.inl rfl))) (fun _ _ _ _ _ => pts_nil) (fun _ _ _ _ _ => (pe_tup (pa_cons (pe_callO G_law_number (hr.mono (by decide)) (by rfl) (pa_cons (pv 0) pa_nil)) (pa_cons (pe_callO G_law_number (hr.mono (by decide)) (by rfl) (pa_cons (pv 0) pa_nil)) pa_nil))))) pa_nil)))
   (pss_cons (ps_set (i := 8) sc_law_case.nd rfl (.inl rfl) (pe_callTy (call_tupU K rfl) (by rfl) (mb _ (by decide)) (by decide +kernel) (pa_cons (pe_lc (own := [("k", 1)]) (g := gName 1) (tt := tYes) rfl sc_law_case.nd (pi_range1 (by rfl) (mb _ (by decide)) (pa_cons (pe_callO G_law_take (hr.mono (by decide)) (by rfl) (pa_cons (pv 0) (pa_cons pe_int pa_nil))) pa_nil)) (blkOk_by (N := N_law_case) (sc := defScope s_law_case) (by decide +kernel)) (fun _ _ _ _ _ => (pg_name (i := 1) sc_law_case.nd rfl (Or.inl rfl))) (fun _ _ _ _ _ => pts_nil) (fun _ _ _ _ _ => (pe_tup (pa_cons (pe_callO G_law_number (hr.mono (by decide)) (by rfl) (pa_cons (pv 0) pa_nil)) (pa_cons (pe_callO G_law_number (hr.mono (by decide)) (by rfl) (pa_cons (pv 0) pa_nil)) pa_nil))))) pa_nil)))
   (pss_one (ps_ret (pe_tup (pa_cons (pv 2) (pa_cons (pe_tup (pa_cons (pe_callTy (call_tupU K rfl) (by rfl) (mb _ (by decide)) (by decide +kernel) (pa_cons (pv 3) pa_nil)) (pa_cons (pv 5) pa_nil))) (pa_cons (pv 6) (pa_cons (pv 7) (pa_cons (pv 8) (pa_cons (pe_callO G_law_number (hr.mono (by decide)) (by rfl) (pa_cons (pv 0) pa_nil)) pa_nil)))))))))))))))), ?_⟩
    walk_at "rdn"
    refine rd_seq ?_
    walk_at "rd"
    refine ⟨l, t, 4, rfl, by decide, by decide, hT, fun m H1 a0 a1 e1 T1 => ?_⟩
    obtain ⟨m, rfl⟩ := Int.eq_ofNat_of_zero_le a0
    walk_at "rd"
    refine ⟨by omega, by omega, ?_⟩
    rw [Int.toNat_natCast]
    refine lcg_drawn T zsD (fun z => nameB z.1 = true ∧ z.2 < 100000) walk_range (fun i H x H' y => y.1) T1 (Nat.lt_of_le_of_lt (show m ≤ 3 by omega) (by decide)) (fun _ _ _ => True.intro) (fun i x H' hi e' T' F go => ?_) (fun pz H2 z0 zs nz e2 T2 hz iz lz okz => ?_)
    · walk_at "rd"
      refine ⟨l, t, rfl, T', fun n H5 hn e5 T5 => ?_⟩
      walk_at "rd"
      refine ⟨l, t, rfl, T5, fun b H6 hb e6 T6 => ?_⟩
      walk_at "rd"
      refine ⟨by walk_at "sz", fun p np => ?_⟩
      obtain ⟨np, x7, hp⟩ := alT (T := T) np [V.str n, .int (b : Int)]
      exact go _ (n, b) _ ⟨hn, hb⟩ (.tup hp (.cons (.str _ (name_ok hn)) (.cons (.int _) .nil))) (e5.trans (e6.trans x7.any)) (T6.ext x7)
    walk_at "rd"
    refine rd_tupL (SqL.of hz) fun p1 np1 => ?_
    obtain ⟨np1, y1, hp1⟩ := alT (T := T) np1 z0
    have m1 : Im (upd H2 p1 (.tup z0)) (.ref p1) (.tuple (zs.map zsD)) := .tup hp1 (iz.x y1)
    have T3 := T2.ext y1
    have eH : Ext T [t] H (upd H2 p1 (.tup z0)) := e1.trans (e2.trans y1.any)
    generalize upd H2 p1 _ = H3 at y1 m1 T3 eH ⊢
    clear e1 e2 y1 T1 T2 hT hz iz nz hp1 np1
    walk_at "rd"
    refine ⟨l, t, 3, rfl, by decide, T3, fun v2 an H4 han hal m2 e4 T4 => ?_⟩
    have m1 := m1.y e4 T3
    have eH := eH.trans e4
    walk_at "rd"
    refine ⟨l, t, 4, rfl, by decide, by decide, T4, fun m5 H5 a5 b5 e5 T5 => ?_⟩
    obtain ⟨m5, rfl⟩ := Int.eq_ofNat_of_zero_le a5
    have m1 := m1.y e5 T4
    have m2 := m2.y e5 T4
    have eH := eH.trans e5
    clear e4 e5 T3 T4
    walk_at "rd"
    refine ⟨by omega, by omega, ?_⟩
    rw [Int.toNat_natCast]
    refine lcg_drawn T stsD (fun z => nameB z.1 = true ∧ idB z.2 = true) walk_range (fun i H x H' y => y.1) T5 (Nat.lt_of_le_of_lt (show m5 ≤ 3 by omega) (by decide)) (fun _ _ _ => True.intro) (fun i x H' hi e' T' F go => ?_) (fun pz H6 z0 ss nz e6 T6 hz iz ls oks => ?_)
    · walk_at "rd"
      refine ⟨l, t, rfl, T', fun n H5 hn e5 T5 => ?_⟩
      walk_at "rd"
      refine ⟨l, t, rfl, T5, fun b H6 hb e6 T6 => ?_⟩
      walk_at "rd"
      refine ⟨by walk_at "sz", fun p np => ?_⟩
      obtain ⟨np, x7, hp⟩ := alT (T := T) np [V.str n, .str b]
      exact go _ (n, b) _ ⟨hn, hb⟩ (.tup hp (.cons (.str _ (name_ok hn)) (.cons (.str _ (id_ok hb)) .nil))) (e5.trans (e6.trans x7.any)) (T6.ext x7)
    have m1 := m1.y e6 T5
    have m2 := m2.y e6 T5
    have eH := eH.trans e6
    walk_at "rd"
    refine rd_tupL (SqL.of hz) fun p3 np3 => ?_
    obtain ⟨np3, y7, hp3⟩ := alT (T := T) np3 z0
    have m3 : Im (upd H6 p3 (.tup z0)) (.ref p3) (.tuple (ss.map stsD)) := .tup hp3 (iz.x y7)
    have m1 := m1.x y7
    have m2 := m2.x y7
    have T7 := T6.ext y7
    have eH : Ext T [t] H (upd H6 p3 (.tup z0)) := eH.trans y7.any
    generalize upd H6 p3 _ = H7 at y7 m1 m2 m3 T7 eH ⊢
    clear e6 y7 T5 T6 hz iz nz hp3 np3
    walk_at "rd"
    refine ⟨by walk_at "sz", fun pr npr => ?_⟩
    obtain ⟨npr, y8, hpr⟩ := alT (T := T) npr [V.ref p1, v2, .ref p3]
    have mR : Im (upd H7 pr _) (.ref pr) (.tuple [.tuple (zs.map zsD), .tuple (an.map .str), .tuple (ss.map stsD)]) := .tup hpr (.cons (m1.x y8) (.cons (m2.x y8) (.cons (m3.x y8) .nil)))
    have T8 := T7.ext y8
    have eH : Ext T [t] H (upd H7 pr _) := eH.trans y8.any
    generalize upd H7 pr _ = H8 at y8 mR T8 eH ⊢
    clear y8 T7 m1 m2 m3 hpr npr
    walk_at "rdn"
    refine rd_seq ?_
    walk_at "rd"
    refine ⟨by walk_at "sz", fun pi npi => ?_⟩
    have hne : pi ≠ t := T8.ne1 (.of npi)
    have hnl : pi ≠ l := (T8.ne (.of npi)).2
    have npH : Nw H pi := eH.back (by simpa using hne) (.of npi)
    obtain ⟨npi, y9, hpi⟩ := alL (T := T) npi ([] : List V)
    have mR := mR.x y9
    have T9 := T8.ext y9
    have eH : Ext T [t] H (upd H8 pi _) := eH.trans y9.any
    generalize upd H8 pi _ = H9 at y9 hpi mR T9 eH ⊢
    clear y9 T8
    walk_at "rdn"
    refine rd_seq ?_
    walk_at "rd"
    refine ⟨l, t, 5, rfl, by decide, by decide, T9, fun m6 Ha a6 b6 ea Ta => ?_⟩
    obtain ⟨m6, rfl⟩ := Int.eq_ofNat_of_zero_le a6
    have mR := mR.y ea T9
    have hpi := ea.lst (show pi ∉ [t] by simpa using hne) hpi
    have eH := eH.trans ea
    clear ea T9
    walk_at "rd"
    refine ⟨by omega, by omega, ?_⟩
    rw [Int.toNat_natCast]
    refine forg_range (fun i σ H' => ∃ o1 o4, σ = [some (.ref t), o1, some (.ref pr), some (.ref pi), o4, none, none, none, none, none] ∧ Ext T [t] H H' ∧ Tape l H' t ∧ Im H' (.ref pr) (.tuple [.tuple (zs.map zsD), .tuple (an.map .str), .tuple (ss.map stsD)]) ∧ ∃ (vs : List V) (its : List (Sl × Itx)), H' pi = some (.lst vs) ∧ ImAll H' vs (its.map itsD) ∧ its.length = i ∧ ∀ x ∈ its, SlOk x.1 ∧ ItOk2 x.1 x.2)
      ⟨none, none, rfl, eH, Ta, mR, [], [], hpi, .nil, rfl, fun x h => nomatch h⟩ (fun i σ H' hi h => ?_) (fun σ H' h => ?_)
    · obtain ⟨o1, o4, rfl, eL, TL, mL, vs, its, hL, iL, lL, okL⟩ := h
      walk_at "rdn"
      refine rd_seq ?_
      walk_at "rd"
      refine ⟨l, t, rfl, TL, fun v sl H5 hs hv e5 T5 => ?_⟩
      have hL := e5.lst (show pi ∉ [t] by simpa using hne) hL
      walk_at "rd"
      refine ⟨l, t, v, sl, rfl, T5, hv, hs, fun u it H6 hit hu e6 T6 => ?_⟩
      have hv := hv.y e6 T5
      have mL := (mL.y e5 TL).y e6 T5
      have iL := ImAll.ext e6 T5.lsts _ _ (ImAll.ext e5 TL.lsts _ _ iL)
      have hL := e6.lst (show pi ∉ [t] by simpa using hne) hL
      have eL := eL.trans (e5.trans e6)
      clear e5 e6 T5 TL
      walk_at "rd"
      refine ⟨by walk_at "sz", fun pq npq => ?_⟩
      obtain ⟨npq, x7, hpq⟩ := alT (T := T) npq [v, u]
      have hvv : Im (upd H6 pq (.tup [v, u])) (.ref pq) (itsD (sl, it)) := .tup hpq (.cons (hv.x x7) (.cons (hu.x x7) .nil))
      have mL := mL.x x7
      have iL := iL.x x7
      have hL := lst.x hL x7
      have T7 := T6.ext x7
      have eL : Ext T [t] H (upd H6 pq (.tup [v, u])) := eL.trans x7.any
      generalize upd H6 pq _ = H7 at x7 hvv mL iL hL T7 eL ⊢
      have hll : vs.length ≤ 10 := by
        rw [iL.len, List.length_map]
        omega
      have eo : Ext T [pi] H7 (upd H7 pi (.lst (vs ++ [.ref pq]))) := .mut (by simp) hL
      have lo := lsts_one hL
      walk_at "rd"
      refine ⟨_, _, rfl, eL.own npH hL, T7.own hne hnl, Im.ext eo lo _ _ mL, vs ++ [.ref pq], its ++ [(sl, it)], upd_same, ?_, by rw [List.length_append, lL]; rfl, fun x hx => ?_⟩
      · rw [List.map_append]
        exact ImAll.app (ImAll.ext eo lo _ _ iL) (.cons (Im.ext eo lo _ _ hvv) .nil)
      · rcases List.mem_append.mp hx with hx | hx
        · exact okL x hx
        · rw [List.mem_singleton.mp hx]
          exact ⟨hs, hit⟩
    obtain ⟨o1, o4, rfl, fH, Tb, fR, vs, its, fpi, iI, lI, okI⟩ := h
    clear eH Ta mR hpi
    walk_at "rdn"
    refine rd_seq ?_
    walk_at "rd"
    refine ⟨l, t, 4, rfl, by decide, by decide, Tb, fun m7 Hc a7 b7 ec Tc => ?_⟩
    obtain ⟨m7, rfl⟩ := Int.eq_ofNat_of_zero_le a7
    have fR := fR.y ec Tb
    have iI := ImAll.ext ec Tb.lsts _ _ iI
    have fpi := ec.lst (show pi ∉ [t] by simpa using hne) fpi
    have fH := fH.trans ec
    clear ec Tb
    walk_at "rd"
    refine ⟨by omega, by omega, ?_⟩
    rw [Int.toNat_natCast]
    refine lcg_drawn T stsD (fun z => idB z.1 = true ∧ nameB z.2 = true) walk_range (fun i H x H' y => y.1) Tc (Nat.lt_of_le_of_lt (show m7 ≤ 3 by omega) (by decide)) (fun _ _ _ => True.intro) (fun i x H' hi e' T' F go => ?_) (fun pz Hd z0 on nz ed Td hz iz lo oko => ?_)
    · walk_at "rd"
      refine ⟨l, t, rfl, T', fun n H5 hn e5 T5 => ?_⟩
      walk_at "rd"
      refine ⟨l, t, rfl, T5, fun b H6 hb e6 T6 => ?_⟩
      walk_at "rd"
      refine ⟨by walk_at "sz", fun p np => ?_⟩
      obtain ⟨np, x7, hp⟩ := alT (T := T) np [V.str n, .str b]
      exact go _ (n, b) _ ⟨hn, hb⟩ (.tup hp (.cons (.str _ (id_ok hn)) (.cons (.str _ (name_ok hb)) .nil))) (e5.trans (e6.trans x7.any)) (T6.ext x7)
    have fR := fR.y ed Tc
    have iI := ImAll.ext ed Tc.lsts _ _ iI
    have fpi := ed.lst (show pi ∉ [t] by simpa using hne) fpi
    have fH := fH.trans ed
    walk_at "rd"
    refine rd_tupL (SqL.of hz) fun po npo => ?_
    obtain ⟨npo, ye, hpo⟩ := alT (T := T) npo z0
    have mO : Im (upd Hd po (.tup z0)) (.ref po) (.tuple (on.map stsD)) := .tup hpo (iz.x ye)
    have fR := fR.x ye
    have iI := iI.x ye
    have fpi := lst.x fpi ye
    have Te := Td.ext ye
    have fH : Ext T [t] H (upd Hd po (.tup z0)) := fH.trans ye.any
    generalize upd Hd po _ = He at ye mO fR iI fpi Te fH ⊢
    clear ye hz iz nz hpo npo ed Tc Td
    -- the deeds
    walk_at "rdn"
    refine rd_seq ?_
    walk_at "rd"
    refine ⟨l, t, 5, rfl, by decide, by decide, Te, fun m8 Hf a8 b8 ef Tf => ?_⟩
    obtain ⟨m8, rfl⟩ := Int.eq_ofNat_of_zero_le a8
    walk_at "rd"
    refine ⟨by omega, by omega, ?_⟩
    rw [Int.toNat_natCast]
    refine lcg_drawn T dxD DxOk walk_range (fun i H x H' y => y.1) Tf (Nat.lt_of_le_of_lt (show m8 ≤ 4 by omega) (by decide)) (fun _ _ _ => True.intro) (fun i x H' hi e' T' F go => ?_) (fun pz Hg z0 dd nz eg Tg hz iz ld okd => ?_)
    · walk_at "rd"
      exact ⟨l, t, rfl, T', fun v d H5 hd hv e5 T5 => go v d _ hd hv e5 T5⟩
    have eg := ef.trans eg
    have fR := fR.y eg Te
    have mO := mO.y eg Te
    have iI := ImAll.ext eg Te.lsts _ _ iI
    have fpi := eg.lst (show pi ∉ [t] by simpa using hne) fpi
    have fH := fH.trans eg
    walk_at "rd"
    refine rd_tupL (SqL.of hz) fun pd npd => ?_
    obtain ⟨npd, yh, hpd⟩ := alT (T := T) npd z0
    have mD : Im (upd Hg pd (.tup z0)) (.ref pd) (.tuple (dd.map dxD)) := .tup hpd (iz.x yh)
    have fR := fR.x yh
    have mO := mO.x yh
    have iI := iI.x yh
    have fpi := lst.x fpi yh
    have Th := Tg.ext yh
    have fH : Ext T [t] H (upd Hg pd (.tup z0)) := fH.trans yh.any
    have zl : z0.length = m8 := by rw [iz.len, List.length_map, ld]
    generalize upd Hg pd _ = Hh at yh hpd mD mO fR iI fpi Th fH ⊢
    clear yh hz iz nz npd eg ef Te Tf Tg
    -- the bounds
    walk_at "rdn"
    refine rd_seq ?_
    walk_at "rd"
    refine rd_seqT (SqT.of hpd) ?_
    refine lcg_drawn T bfD (fun z => z.1 < 100000 ∧ z.2 < 100000) (walk_tup (xs := z0)) (fun i H x H' y => y.1) Th (Nat.lt_of_le_of_lt (show z0.length ≤ 4 by omega) (by decide)) (fun H' e T' => SqT.of (tup.y hpd e Th)) (fun i x H' hi e' T' F go => ?_) (fun pz Hi zb bb nz ei Ti hz iz lb okb => ?_)
    · walk_at "rd"
      refine ⟨l, t, rfl, T', fun n H5 hn e5 T5 => ?_⟩
      walk_at "rd"
      refine ⟨l, t, rfl, T5, fun b H6 hb e6 T6 => ?_⟩
      walk_at "rd"
      refine ⟨by walk_at "sz", fun p np => ?_⟩
      obtain ⟨np, x7, hp⟩ := alT (T := T) np [V.int (n : Int), .int (b : Int)]
      exact go _ (n, b) _ ⟨hn, hb⟩ (.tup hp (.cons (.int _) (.cons (.int _) .nil))) (e5.trans (e6.trans x7.any)) (T6.ext x7)
    have fR := fR.y ei Th
    have mO := mO.y ei Th
    have mD := mD.y ei Th
    have iI := ImAll.ext ei Th.lsts _ _ iI
    have fpi := ei.lst (show pi ∉ [t] by simpa using hne) fpi
    have fH := fH.trans ei
    walk_at "rd"
    refine rd_tupL (SqL.of hz) fun pb npb => ?_
    obtain ⟨npb, yj, hpb⟩ := alT (T := T) npb zb
    have mB : Im (upd Hi pb (.tup zb)) (.ref pb) (.tuple (bb.map bfD)) := .tup hpb (iz.x yj)
    have fR := fR.x yj
    have mO := mO.x yj
    have mD := mD.x yj
    have iI := iI.x yj
    have fpi := lst.x fpi yj
    have Tj := Ti.ext yj
    have fH : Ext T [t] H (upd Hi pb (.tup zb)) := fH.trans yj.any
    generalize upd Hi pb _ = Hj at yj mB mD mO fR iI fpi Tj fH ⊢
    clear yj hz iz nz npb hpb ei Th Ti hpd
    -- the pairs
    walk_at "rdn"
    refine rd_seq ?_
    walk_at "rd"
    refine ⟨l, t, 4, rfl, by decide, by decide, Tj, fun m9 Hk a9 b9 ek Tk => ?_⟩
    obtain ⟨m9, rfl⟩ := Int.eq_ofNat_of_zero_le a9
    walk_at "rd"
    refine ⟨by omega, by omega, ?_⟩
    rw [Int.toNat_natCast]
    refine lcg_drawn T bfD (fun z => z.1 < 100000 ∧ z.2 < 100000) walk_range (fun i H x H' y => y.1) Tk (Nat.lt_of_le_of_lt (show m9 ≤ 3 by omega) (by decide)) (fun _ _ _ => True.intro) (fun i x H' hi e' T' F go => ?_) (fun pz Hm zf bf nz em Tm hz iz lf okf => ?_)
    · walk_at "rd"
      refine ⟨l, t, rfl, T', fun n H5 hn e5 T5 => ?_⟩
      walk_at "rd"
      refine ⟨l, t, rfl, T5, fun b H6 hb e6 T6 => ?_⟩
      walk_at "rd"
      refine ⟨by walk_at "sz", fun p np => ?_⟩
      obtain ⟨np, x7, hp⟩ := alT (T := T) np [V.int (n : Int), .int (b : Int)]
      exact go _ (n, b) _ ⟨hn, hb⟩ (.tup hp (.cons (.int _) (.cons (.int _) .nil))) (e5.trans (e6.trans x7.any)) (T6.ext x7)
    have em := ek.trans em
    have fR := fR.y em Tj
    have mO := mO.y em Tj
    have mD := mD.y em Tj
    have mB := mB.y em Tj
    have iI := ImAll.ext em Tj.lsts _ _ iI
    have fpi := em.lst (show pi ∉ [t] by simpa using hne) fpi
    have fH := fH.trans em
    walk_at "rd"
    refine rd_tupL (SqL.of hz) fun pf npf => ?_
    obtain ⟨npf, yn, hpf⟩ := alT (T := T) npf zf
    have mF : Im (upd Hm pf (.tup zf)) (.ref pf) (.tuple (bf.map bfD)) := .tup hpf (iz.x yn)
    have fR := fR.x yn
    have mO := mO.x yn
    have mD := mD.x yn
    have mB := mB.x yn
    have iI := iI.x yn
    have fpi := lst.x fpi yn
    have Tn := Tm.ext yn
    have fH : Ext T [t] H (upd Hm pf (.tup zf)) := fH.trans yn.any
    generalize upd Hm pf _ = Hn at yn mF mB mD mO fR iI fpi Tn fH ⊢
    clear yn hz iz nz npf hpf ek em Tj Tk Tm
    -- the case
    walk_at "rd"
    refine rd_tupL (SqL.of fpi) fun pj npj => ?_
    obtain ⟨npj, yo, hpj⟩ := alT (T := T) npj vs
    have mI : Im (upd Hn pj (.tup vs)) (.ref pj) (.tuple (its.map itsD)) := .tup hpj (iI.x yo)
    have fR := fR.x yo
    have mO := mO.x yo
    have mD := mD.x yo
    have mB := mB.x yo
    have mF := mF.x yo
    have To := Tn.ext yo
    have fH : Ext T [t] H (upd Hn pj (.tup vs)) := fH.trans yo.any
    generalize upd Hn pj _ = Ho at yo mI mF mB mD mO fR To fH ⊢
    clear yo hpj npj
    walk_at "rd"
    refine ⟨by walk_at "sz", fun ps nps => ?_⟩
    obtain ⟨nps, yp, hps⟩ := alT (T := T) nps [V.ref pj, .ref po]
    have mS : Im (upd Ho ps _) (.ref ps) (.tuple [.tuple (its.map itsD), .tuple (on.map stsD)]) := .tup hps (.cons (mI.x yp) (.cons (mO.x yp) .nil))
    have fR := fR.x yp
    have mD := mD.x yp
    have mB := mB.x yp
    have mF := mF.x yp
    have Tp := To.ext yp
    have fH : Ext T [t] H (upd Ho ps _) := fH.trans yp.any
    generalize upd Ho ps _ = Hp' at yp mS mF mB mD fR Tp fH ⊢
    clear yp hps nps mI mO To
    walk_at "rd"
    refine ⟨l, t, rfl, Tp, fun fin Hq hfin eq Tq => ?_⟩
    have fR := fR.y eq Tp
    have mS := mS.y eq Tp
    have mD := mD.y eq Tp
    have mB := mB.y eq Tp
    have mF := mF.y eq Tp
    have fH := fH.trans eq
    walk_at "rd"
    refine ⟨by walk_at "sz", fun pw npw => ?_⟩
    obtain ⟨npw, yr, hpw⟩ := alT (T := T) npw [V.ref pr, .ref ps, .ref pd, .ref pb, .ref pf, .int (fin : Int)]
    have hlen : dd.length = bb.length := by omega
    have z1 : (dd.zip bb).map (fun d : Dx × Nat × Nat => dxD d.1) = dd.map dxD := by
      have := List.map_fst_zip (l₁ := dd) (l₂ := bb) (by omega)
      rw [← this, List.map_map]
      simp only [this]
      rfl
    have z2 : (dd.zip bb).map (fun d : Dx × Nat × Nat => bfD d.2) = bb.map bfD := by
      have := List.map_snd_zip (l₁ := dd) (l₂ := bb) (by omega)
      rw [← this, List.map_map]
      simp only [this]
      rfl
    refine q _ ⟨zs, an, ss, its, on, dd.zip bb, bf, fin⟩ _ ⟨okz, han, oks, okI, oko, fun d hd => ⟨okd _ (List.of_mem_zip hd).1, okb _ (List.of_mem_zip hd).2⟩, okf, hfin, (by show zs.length ≤ 4; omega), (by show an.length ≤ 4; omega), (by show ss.length ≤ 4; omega), (by show its.length ≤ 4; omega), (by show on.length ≤ 4; omega), (by show (dd.zip bb).length ≤ 4; rw [List.length_zip]; omega), (by show bf.length ≤ 4; omega)⟩ ?_ (fH.trans yr.any) (Tq.ext yr)
    refine .tup hpw (.cons (fR.x yr) (.cons (mS.x yr) (.cons ?_ (.cons ?_ (.cons (mF.x yr) (.cons (.int _) .nil))))))
    · show Im _ _ (.tuple ((dd.zip bb).map fun d : Dx × Nat × Nat => dxD d.1))
      rw [z1]
      exact mD.x yr
    · show Im _ _ (.tuple ((dd.zip bb).map fun d : Dx × Nat × Nat => bfD d.2))
      rw [z2]
      exact mB.x yr
end

open PySem PySem.Spec PyProof.Rows L2
open PySem.W (EachIs)
theorem c_on3_len : (Str.ofString "on ").length = 3 := c_on_len
local macro_rules | `(tactic| walk_at "fslX") => `(tactic| (refine Nat.le_trans (?_ : _ ≤ 100000) (by decide); (try simp only [app_len2, sp_len, nl_len, em_len, em_len2, cm_len, c_zone_len, c_lag_len, c_anchor_len, c_set_len, c_on_len, c_deed_len, c_before_len, c_end_len]); omega))
local macro_rules | `(tactic| walk_at "fssX") => `(tactic| (refine fs_s (by walk_at "fslX") ?_; refine fs_y ⟨by walk_at "fslX", ?_⟩; walk_at "rd"))
local macro_rules | `(tactic| walk_at "fsiX") => `(tactic| (refine fs_i (by omega) ?_; refine fs_y ⟨by walk_at "fslX", ?_⟩; walk_at "rd"))
local macro_rules | `(tactic| walk_at "fscX") => `(tactic| (refine ⟨by walk_at "fslX", ?_⟩; walk_at "rd"))
section
variable {T : List (Addr × Str)} {P : Program} {w : World} {K : PySem.W.Frag} {mg : Str → Option Value} {base : Heap}
local macro_rules | `(tactic| walk_at "tr") => `(tactic| first
  | assumption
  | exact Ext.refl
  | ((with_reducible refine' Im.x (T := T) (H := ?trH) ?tra ?tre); (case tre => assumption); (case tra => walk_at "tr"))
  | ((with_reducible refine' Im.y (T := T) (H := ?trH) ?tra ?tre ?trt); (case tre => assumption); (case trt => walk_at "tr"); (case tra => walk_at "tr"))
  | ((with_reducible refine' ImAll.x (T := T) (H := ?trH) ?tra ?tre); (case tre => assumption); (case tra => walk_at "tr"))
  | ((with_reducible refine' ImAll.y (T := T) (H := ?trH) ?tra ?tre ?trt); (case tre => assumption); (case trt => walk_at "tr"); (case tra => walk_at "tr"))
  | ((with_reducible refine' Ls.x (T := T) (H := ?trH) ?tra ?tre); (case tre => assumption); (case tra => walk_at "tr"))
  | ((with_reducible refine' Ls.y (T := T) (H := ?trH) ?tra ?tre ?trn ?trt); (case tre => assumption); (case trt => walk_at "tr"); (case trn => walk_at "tr"); (case tra => walk_at "tr"))
  | ((with_reducible refine' SqP.x (T := T) (H := ?trH) ?tra ?tre); (case tre => assumption); (case tra => walk_at "tr"))
  | ((with_reducible refine' SqP.y (T := T) (H := ?trH) ?tra ?tre ?trt); (case tre => assumption); (case trt => walk_at "tr"); (case tra => walk_at "tr"))
  | ((with_reducible refine' StAt.x (T := T) (H := ?trH) ?tra ?tre); (case tre => assumption); (case tra => walk_at "tr"))
  | ((with_reducible refine' StAt.y (T := T) (H := ?trH) ?tra ?tre ?trt); (case tre => assumption); (case trt => walk_at "tr"); (case tra => walk_at "tr"))
  | ((with_reducible refine' Pools.ext0 (T := T) (H := ?trH) ?tra ?tre); (case tre => assumption); (case tra => walk_at "tr"))
  | ((with_reducible refine' Pools.ext (T := T) (H := ?trH) ?tra ?tre ?trt); (case tre => assumption); (case trt => walk_at "tr"); (case tra => walk_at "tr"))
  | ((with_reducible refine' CL.x (T := T) (H := ?trH) ?tra ?tre); (case tre => assumption); (case tra => walk_at "tr"))
  | ((with_reducible refine' CL.y (T := T) (H := ?trH) ?tra ?tre); (case tre => assumption); (case tra => walk_at "tr"))
  | ((with_reducible refine' Tape.ext (T := T) (H := ?trH) ?tra ?tre); (case tre => assumption); (case tra => walk_at "tr"))
  | ((with_reducible refine' lst.x (T := T) (H := ?trH) ?tra ?tre); (case tre => assumption); (case tra => walk_at "tr"))
  | ((with_reducible refine' lst.y (T := T) (H := ?trH) ?tra ?tre ?trn); (case tre => assumption); (case trn => walk_at "tr"); (case tra => walk_at "tr"))
  | ((with_reducible refine' tup.x (T := T) (H := ?trH) ?tra ?tre); (case tre => assumption); (case tra => walk_at "tr"))
  | ((with_reducible refine' tup.y (T := T) (H := ?trH) ?tra ?tre ?trt); (case tre => assumption); (case trt => walk_at "tr"); (case tra => walk_at "tr"))
  | ((with_reducible refine' frz.x (T := T) (H := ?trH) ?tra ?tre); (case tre => assumption); (case tra => walk_at "tr"))
  | ((with_reducible refine' frz.y (T := T) (H := ?trH) ?tra ?tre ?trt); (case tre => assumption); (case trt => walk_at "tr"); (case tra => walk_at "tr"))
  | ((with_reducible refine' Im.z (T := T) (H := ?trH) ?tra ?tre ?trt); (case tre => assumption); (case trt => assumption); (case tra => walk_at "tr"))
  | ((with_reducible refine' ImAll.z (T := T) (H := ?trH) ?tra ?tre ?trt); (case tre => assumption); (case trt => assumption); (case tra => walk_at "tr"))
  | ((with_reducible refine' StAt.z (T := T) (H := ?trH) ?tra ?tre ?trt); (case tre => assumption); (case trt => assumption); (case tra => walk_at "tr"))
  | ((with_reducible refine' SqP.z (T := T) (H := ?trH) ?tra ?tre ?trt); (case tre => assumption); (case trt => assumption); (case tra => walk_at "tr"))
  | ((with_reducible refine' tup.z (T := T) (H := ?trH) ?tra ?tre ?trt); (case tre => assumption); (case trt => assumption); (case tra => walk_at "tr"))
  | ((with_reducible refine' Ls.z (T := T) (H := ?trH) ?tra ?tre ?trt ?trn); (case tre => assumption); (case trt => assumption); (case trn => assumption); (case tra => walk_at "tr"))
  | ((with_reducible refine' lst.z (T := T) (H := ?trH) ?tra ?tre ?trn); (case tre => assumption); (case trn => assumption); (case tra => walk_at "tr"))
  | ((with_reducible refine' CL.z (T := T) (H := ?trH) ?tra ?tre ?trn); (case tre => assumption); (case trn => assumption); (case tra => walk_at "tr"))
  | ((with_reducible refine' Tape.ne1 (H := ?trH) ?trt ?trn); (case trn => assumption); (case trt => walk_at "tr"))
  | ((with_reducible refine' Ext.trans (H1 := ?trH) ?tra (Ext.any ?tre)); (case tre => assumption); (case tra => walk_at "tr"))
  | ((with_reducible refine' Ext.trans (H1 := ?trH) ?tra ?tre); (case tre => assumption); (case tra => walk_at "tr"))
  | ((with_reducible refine' Ext.back1 (T := T) (H1 := ?trH) ?tre ?trn ?tra); (case tra => assumption); (case trn => walk_at "tr"); (case tre => walk_at "tr"))
  | ((with_reducible refine' Ext.back0 (T := T) (H1 := ?trH) ?tre ?tra); (case tra => assumption); (case tre => walk_at "tr"))
  | ((with_reducible refine' SqT.of ?tra); (case tra => walk_at "tr"))
  | ((with_reducible refine' SqL.of ?tra); (case tra => walk_at "tr")))
local macro_rules | `(tactic| walk_at "al") => `(tactic| (refine ⟨by first | (show _ ≤ sizeLine; decide) | walk_at "sz", ?_⟩; intro alp aln; generalize alG : upd _ alp _ = alH; obtain ⟨aln2, alx, alh⟩ := al_of (T := T) aln alG; clear alG aln))
local macro_rules | `(tactic| walk_at "al0") => `(tactic| (intro alp aln; generalize alG : upd _ alp _ = alH; obtain ⟨aln2, alx, alh⟩ := al_of (T := T) aln alG; clear alG aln))

/-- over a tuple of data, each turned into one value -/
theorem lcg_tupS (T : List (Addr × Str)) {α : Type} {K : PySem.W.Frag} {p : Addr} {xs : List V} {l : List α} {d : α → PyData} (g : α → V) {σ : L2.St} {H : Hp} {Q : VK} {gT : TG} {te : TE} {vs : List Nat} (hp : H p = some (.tup xs)) (hi : ImAll H xs (l.map d)) (hl : l.length ≤ 8)
    (step : ∀ x e H', e ∈ l → Ext T [] H H' → Im H' x (d e) → ∀ F : VK, (∀ H2, Ext T [] H' H2 → F (g e) H2) → gT x (wipe σ vs) H' fun σ2 H2 => wipe σ2 vs = wipe σ vs ∧ tYes σ2 H2 fun b H3 => if b = true then te σ2 H3 F else True)
    (q : ∀ D H2, Nw H D → Ext T [] H H2 → H2 D = some (.lst (l.map g)) → Q (.ref D) H2) : LcG (Itt K p) gT tYes te vs σ H Q := by
  have lx : xs.length = l.length := by rw [hi.len, List.length_map]
  refine lcg_gen T (walk_tup (xs := xs)) (fun H' e => SqT.of (tup.x hp e)) (Nat.lt_of_le_of_lt (show xs.length ≤ 8 by omega) (by decide)) (fun i D H y => ∀ e, l[i]? = some e → y = g e) (fun i D H1 H2 y xs x hD h => h) (fun i x D H3' H4 hi' x3 nD hD hx F go => ?_) (fun D ys H1 nD x1 hD hyl hys => ?_)
  · obtain ⟨rfl, hx⟩ := hx
    obtain ⟨e, he, hxe⟩ := get_im hi hx
    refine step x e _ (List.mem_of_getElem? he) x3 (hxe.x x3) F fun H2 x2 => go _ _ (fun d' hd' => ?_) x2
    rw [he] at hd'
    cases Option.some.inj hd'
    rfl
  · have hy := ys_eq (by omega) hys
    subst hy
    exact q D H1 nD x1 hD
theorem tA (k : Str) : Str.ofString "anchor " ++ k = jn 32 (crW (.anchor k)) := by
  rw [← tS_anchor]
  exact sg_inj (by simp only [sg_app, sg_em]; rfl)
theorem tB (n k : Str) : ((Str.ofString "set " ++ n) ++ Str.ofString " ") ++ k = jn 32 (crW (.set n k)) := by
  rw [← tS_set]
  exact sg_inj (by simp only [sg_app, sg_em]; rfl)
theorem tC' (n k : Str) : ((Str.ofString "on " ++ n) ++ Str.ofString " ") ++ k = jn 32 (crW (.on n k)) := by
  rw [← tS_on]
  exact sg_inj (by simp only [sg_app, sg_em]; rfl)
end

open PySem PySem.Spec PyProof.Rows L2
open PySem.W (EachIs)
local macro_rules | `(tactic| walk_at "fslXB") => `(tactic| (refine Nat.le_trans (?_ : _ ≤ 100000) (by decide); (try simp only [app_len2, sp_len, nl_len, em_len, em_len2, cm_len, c_zone_len, c_lag_len, c_anchor_len, c_set_len, c_on_len, c_deed_len, c_before_len, c_end_len]); omega))
local macro_rules | `(tactic| walk_at "fssXB") => `(tactic| (refine fs_s (by walk_at "fslXB") ?_; refine fs_y ⟨by walk_at "fslXB", ?_⟩; walk_at "rd"))
local macro_rules | `(tactic| walk_at "fsiXB") => `(tactic| (refine fs_i (by omega) ?_; refine fs_y ⟨by walk_at "fslXB", ?_⟩; walk_at "rd"))
local macro_rules | `(tactic| walk_at "fscXB") => `(tactic| (refine ⟨by walk_at "fslXB", ?_⟩; walk_at "rd"))
section
variable {T : List (Addr × Str)} {P : Program} {w : World} {K : PySem.W.Frag} {mg : Str → Option Value} {base : Heap}
local macro_rules | `(tactic| walk_at "tr") => `(tactic| first
  | assumption
  | exact Ext.refl
  | ((with_reducible refine' Im.x (T := T) (H := ?trH) ?tra ?tre); (case tre => assumption); (case tra => walk_at "tr"))
  | ((with_reducible refine' Im.y (T := T) (H := ?trH) ?tra ?tre ?trt); (case tre => assumption); (case trt => walk_at "tr"); (case tra => walk_at "tr"))
  | ((with_reducible refine' ImAll.x (T := T) (H := ?trH) ?tra ?tre); (case tre => assumption); (case tra => walk_at "tr"))
  | ((with_reducible refine' ImAll.y (T := T) (H := ?trH) ?tra ?tre ?trt); (case tre => assumption); (case trt => walk_at "tr"); (case tra => walk_at "tr"))
  | ((with_reducible refine' Ls.x (T := T) (H := ?trH) ?tra ?tre); (case tre => assumption); (case tra => walk_at "tr"))
  | ((with_reducible refine' Ls.y (T := T) (H := ?trH) ?tra ?tre ?trn ?trt); (case tre => assumption); (case trt => walk_at "tr"); (case trn => walk_at "tr"); (case tra => walk_at "tr"))
  | ((with_reducible refine' SqP.x (T := T) (H := ?trH) ?tra ?tre); (case tre => assumption); (case tra => walk_at "tr"))
  | ((with_reducible refine' SqP.y (T := T) (H := ?trH) ?tra ?tre ?trt); (case tre => assumption); (case trt => walk_at "tr"); (case tra => walk_at "tr"))
  | ((with_reducible refine' StAt.x (T := T) (H := ?trH) ?tra ?tre); (case tre => assumption); (case tra => walk_at "tr"))
  | ((with_reducible refine' StAt.y (T := T) (H := ?trH) ?tra ?tre ?trt); (case tre => assumption); (case trt => walk_at "tr"); (case tra => walk_at "tr"))
  | ((with_reducible refine' Pools.ext0 (T := T) (H := ?trH) ?tra ?tre); (case tre => assumption); (case tra => walk_at "tr"))
  | ((with_reducible refine' Pools.ext (T := T) (H := ?trH) ?tra ?tre ?trt); (case tre => assumption); (case trt => walk_at "tr"); (case tra => walk_at "tr"))
  | ((with_reducible refine' CL.x (T := T) (H := ?trH) ?tra ?tre); (case tre => assumption); (case tra => walk_at "tr"))
  | ((with_reducible refine' CL.y (T := T) (H := ?trH) ?tra ?tre); (case tre => assumption); (case tra => walk_at "tr"))
  | ((with_reducible refine' Tape.ext (T := T) (H := ?trH) ?tra ?tre); (case tre => assumption); (case tra => walk_at "tr"))
  | ((with_reducible refine' lst.x (T := T) (H := ?trH) ?tra ?tre); (case tre => assumption); (case tra => walk_at "tr"))
  | ((with_reducible refine' lst.y (T := T) (H := ?trH) ?tra ?tre ?trn); (case tre => assumption); (case trn => walk_at "tr"); (case tra => walk_at "tr"))
  | ((with_reducible refine' tup.x (T := T) (H := ?trH) ?tra ?tre); (case tre => assumption); (case tra => walk_at "tr"))
  | ((with_reducible refine' tup.y (T := T) (H := ?trH) ?tra ?tre ?trt); (case tre => assumption); (case trt => walk_at "tr"); (case tra => walk_at "tr"))
  | ((with_reducible refine' frz.x (T := T) (H := ?trH) ?tra ?tre); (case tre => assumption); (case tra => walk_at "tr"))
  | ((with_reducible refine' frz.y (T := T) (H := ?trH) ?tra ?tre ?trt); (case tre => assumption); (case trt => walk_at "tr"); (case tra => walk_at "tr"))
  | ((with_reducible refine' Im.z (T := T) (H := ?trH) ?tra ?tre ?trt); (case tre => assumption); (case trt => assumption); (case tra => walk_at "tr"))
  | ((with_reducible refine' ImAll.z (T := T) (H := ?trH) ?tra ?tre ?trt); (case tre => assumption); (case trt => assumption); (case tra => walk_at "tr"))
  | ((with_reducible refine' StAt.z (T := T) (H := ?trH) ?tra ?tre ?trt); (case tre => assumption); (case trt => assumption); (case tra => walk_at "tr"))
  | ((with_reducible refine' SqP.z (T := T) (H := ?trH) ?tra ?tre ?trt); (case tre => assumption); (case trt => assumption); (case tra => walk_at "tr"))
  | ((with_reducible refine' tup.z (T := T) (H := ?trH) ?tra ?tre ?trt); (case tre => assumption); (case trt => assumption); (case tra => walk_at "tr"))
  | ((with_reducible refine' Ls.z (T := T) (H := ?trH) ?tra ?tre ?trt ?trn); (case tre => assumption); (case trt => assumption); (case trn => assumption); (case tra => walk_at "tr"))
  | ((with_reducible refine' lst.z (T := T) (H := ?trH) ?tra ?tre ?trn); (case tre => assumption); (case trn => assumption); (case tra => walk_at "tr"))
  | ((with_reducible refine' CL.z (T := T) (H := ?trH) ?tra ?tre ?trn); (case tre => assumption); (case trn => assumption); (case tra => walk_at "tr"))
  | ((with_reducible refine' Tape.ne1 (H := ?trH) ?trt ?trn); (case trn => assumption); (case trt => walk_at "tr"))
  | ((with_reducible refine' Ext.trans (H1 := ?trH) ?tra (Ext.any ?tre)); (case tre => assumption); (case tra => walk_at "tr"))
  | ((with_reducible refine' Ext.trans (H1 := ?trH) ?tra ?tre); (case tre => assumption); (case tra => walk_at "tr"))
  | ((with_reducible refine' Ext.back1 (T := T) (H1 := ?trH) ?tre ?trn ?tra); (case tra => assumption); (case trn => walk_at "tr"); (case tre => walk_at "tr"))
  | ((with_reducible refine' Ext.back0 (T := T) (H1 := ?trH) ?tre ?tra); (case tra => assumption); (case tre => walk_at "tr"))
  | ((with_reducible refine' SqT.of ?tra); (case tra => walk_at "tr"))
  | ((with_reducible refine' SqL.of ?tra); (case tra => walk_at "tr")))
local macro_rules | `(tactic| walk_at "al") => `(tactic| (refine ⟨by first | (show _ ≤ sizeLine; decide) | walk_at "sz", ?_⟩; intro alp aln; generalize alG : upd _ alp _ = alH; obtain ⟨aln2, alx, alh⟩ := al_of (T := T) aln alG; clear alG aln))
local macro_rules | `(tactic| walk_at "al0") => `(tactic| (intro alp aln; generalize alG : upd _ alp _ = alH; obtain ⟨aln2, alx, alh⟩ := al_of (T := T) aln alG; clear alG aln))

def spLLines (T : List (Addr × Str)) : Sp := fun vs H Q _ => ∃ (v : V) (c : Cs), vs = [v] ∧ Im H v (csD c) ∧ CsOk c ∧ ∀ p H', Ext T [] H H' → H' p = some (.lst ((csR c).map crS)) → Q (.ref p) H'
theorem ok_law_lines (D : Def K mg "_law_lines" s_law_lines ["case"]) (mb : ∀ x ∈ bltns, mg x = none) (G_law_entry_text : Ok P w K mg base 2 "_law_entry_text" ["slot", "item"] spPlacedT) (G_law_deed_text : Ok P w K mg base 3 "_law_deed_text" ["deed"] spDxT) : Ok P w K mg base 4 "_law_lines" ["case"] (spLLines T) := by
  refine D.ok sc_law_lines (fun vs H Q E h => ?_) (fun cdv f A outer s H vs Q E hr h => ?_)
  · obtain ⟨v, c, rfl, _⟩ := h
    rfl
  · obtain ⟨v, c, rfl, hv, hc, q⟩ := h
    refine ⟨_, (pss_cons (ps_asg (pv 0) (pg_tupU (n := 6) K rfl rfl (pgs_cons (pg_name (i := 1) sc_law_lines.nd rfl (.inl rfl)) (pgs_cons (pg_name (i := 2) sc_law_lines.nd rfl (.inl rfl)) (pgs_cons (pg_name (i := 3) sc_law_lines.nd rfl (.inl rfl)) (pgs_cons (pg_name (i := 4) sc_law_lines.nd rfl (.inl rfl)) (pgs_cons (pg_name (i := 5) sc_law_lines.nd rfl (.inl rfl)) (pgs_cons (pg_name (i := 6) sc_law_lines.nd rfl (.inl rfl)) pgs_nil))))))))
   (pss_cons (ps_setLc (i := 7) (own := [("row", 9)]) (g := gName 9) (tt := tYes) rfl sc_law_lines.nd rfl rfl (sw_true rfl rfl rfl (by decide +kernel)) (pi_seq K rfl (pe_ix (ix_U K rfl) (pv 1) pe_int (fun _ _ => rfl))) (blkOk_by (N := N_law_lines) (sc := defScope s_law_lines) (by decide +kernel)) (fun _ _ _ _ _ => (pg_name (i := 9) sc_law_lines.nd rfl (Or.inl rfl))) (fun _ _ _ _ _ => pts_nil) (fun _ _ _ _ _ => (pe_fstr (.cons pe_str (.cons (pe_fmt (pe_ix (ix_U K rfl) (pv 9) pe_int (fun _ _ => rfl))) (.cons pe_str (.cons (pe_fmt (pe_ix (ix_U K rfl) (pv 9) pe_int (fun _ _ => rfl))) PJ.nil)))))))
   (pss_cons (ps_set (i := 7) sc_law_lines.nd rfl (.inl rfl) (pe_op (op_plus K rfl) (pe_op (op_plus K rfl) (pv 7) (pe_lc (own := [("word", 12)]) (g := gName 12) (tt := tYes) rfl sc_law_lines.nd (pi_seq K rfl (pe_ix (ix_U K rfl) (pv 1) pe_int (fun _ _ => rfl))) (blkOk_by (N := N_law_lines) (sc := defScope s_law_lines) (by decide +kernel)) (fun _ _ _ _ _ => (pg_name (i := 12) sc_law_lines.nd rfl (Or.inl rfl))) (fun _ _ _ _ _ => pts_nil) (fun _ _ _ _ _ => (pe_op (op_plus K rfl) pe_str (pv 12))))) (pe_lc (own := [("row", 9)]) (g := gName 9) (tt := tYes) rfl sc_law_lines.nd (pi_seq K rfl (pe_ix (ix_U K rfl) (pv 1) pe_int (fun _ _ => rfl))) (blkOk_by (N := N_law_lines) (sc := defScope s_law_lines) (by decide +kernel)) (fun _ _ _ _ _ => (pg_name (i := 9) sc_law_lines.nd rfl (Or.inl rfl))) (fun _ _ _ _ _ => pts_nil) (fun _ _ _ _ _ => (pe_op (op_plus K rfl) (pe_op (op_plus K rfl) (pe_op (op_plus K rfl) pe_str (pe_ix (ix_U K rfl) (pv 9) pe_int (fun _ _ => rfl))) pe_str) (pe_ix (ix_U K rfl) (pv 9) pe_int (fun _ _ => rfl)))))))
   (pss_cons (ps_set (i := 7) sc_law_lines.nd rfl (.inl rfl) (pe_op (op_plus K rfl) (pv 7) (pe_lc (own := [("slot", 10), ("item", 11)]) (tt := tYes) rfl sc_law_lines.nd (pi_seq K rfl (pe_ix (ix_U K rfl) (pv 2) pe_int (fun _ _ => rfl))) (blkOk_by (N := N_law_lines) (sc := defScope s_law_lines) (by decide +kernel)) (fun _ _ _ _ _ => (pg_tupU (n := 2) K rfl rfl (pgs_cons (pg_name (i := 10) sc_law_lines.nd rfl (Or.inl rfl)) (pgs_cons (pg_name (i := 11) sc_law_lines.nd rfl (Or.inl rfl)) pgs_nil)))) (fun _ _ _ _ _ => pts_nil) (fun _ _ _ _ _ => (pe_callO G_law_entry_text (hr.mono (by decide)) (by rfl) (pa_cons (pv 10) (pa_cons (pv 11) pa_nil)))))))
   (pss_cons (ps_set (i := 7) sc_law_lines.nd rfl (.inl rfl) (pe_op (op_plus K rfl) (pv 7) (pe_lc (own := [("row", 9)]) (g := gName 9) (tt := tYes) rfl sc_law_lines.nd (pi_seq K rfl (pe_ix (ix_U K rfl) (pv 2) pe_int (fun _ _ => rfl))) (blkOk_by (N := N_law_lines) (sc := defScope s_law_lines) (by decide +kernel)) (fun _ _ _ _ _ => (pg_name (i := 9) sc_law_lines.nd rfl (Or.inl rfl))) (fun _ _ _ _ _ => pts_nil) (fun _ _ _ _ _ => (pe_op (op_plus K rfl) (pe_op (op_plus K rfl) (pe_op (op_plus K rfl) pe_str (pe_ix (ix_U K rfl) (pv 9) pe_int (fun _ _ => rfl))) pe_str) (pe_ix (ix_U K rfl) (pv 9) pe_int (fun _ _ => rfl)))))))
   (pss_cons (ps_for PassesOwn.never rfl (pi_range1 (by rfl) (mb _ (by decide)) (pa_cons (pe_callB (call_lenU K rfl) (by rfl) (mb _ (by decide)) (by decide +kernel) (pa_cons (pv 3) pa_nil)) pa_nil)) (pg_name (i := 8) sc_law_lines.nd rfl (.inl rfl)) (pss_one (ps_expr (pe_bm PySem.F.plainAttrs_list PySem.F.slot_list_append PySem.F.type_list_append mt_append (pv 7) (pa_cons (pe_op (op_plus K rfl) (pe_fstr (.cons pe_str (.cons (pe_fmt (pe_ix (ix_U K rfl) (pe_ix (ix_U K rfl) (pv 4) (pv 8) (fun _ _ => rfl)) pe_int (fun _ _ => rfl))) (.cons pe_str (.cons (pe_fmt (pe_ix (ix_U K rfl) (pe_ix (ix_U K rfl) (pv 4) (pv 8) (fun _ _ => rfl)) pe_int (fun _ _ => rfl))) (.cons pe_str PJ.nil)))))) (pe_callO G_law_deed_text (hr.mono (by decide)) (by rfl) (pa_cons (pe_ix (ix_U K rfl) (pv 3) (pv 8) (fun _ _ => rfl)) pa_nil))) pa_nil)))))
   (pss_one (ps_ret (pe_op (op_plus K rfl) (pe_op (op_plus K rfl) (pv 7) (pe_lc (own := [("row", 9)]) (g := gName 9) (tt := tYes) rfl sc_law_lines.nd (pi_seq K rfl (pv 5)) (blkOk_by (N := N_law_lines) (sc := defScope s_law_lines) (by decide +kernel)) (fun _ _ _ _ _ => (pg_name (i := 9) sc_law_lines.nd rfl (Or.inl rfl))) (fun _ _ _ _ _ => pts_nil) (fun _ _ _ _ _ => (pe_fstr (.cons pe_str (.cons (pe_fmt (pe_ix (ix_U K rfl) (pv 9) pe_int (fun _ _ => rfl))) (.cons pe_str (.cons (pe_fmt (pe_ix (ix_U K rfl) (pv 9) pe_int (fun _ _ => rfl))) PJ.nil)))))))) (pe_lst (pa_cons (pe_fstr (.cons pe_str (.cons (pe_fmt (pv 6)) PJ.nil))) pa_nil))))))))))), ?_⟩
    have lz := hc.lz
    have la := hc.la
    have ls := hc.ls
    have li := hc.li
    have lo := hc.lo
    have ld := hc.ld
    have lb := hc.lb
    obtain ⟨p, v1, v2, v3, v4, v5, v6, rfl, hp, m1, m2, m3, m4, m5, m6⟩ := im6 hv
    obtain rfl := imI' m6
    obtain ⟨pr, r1, r2, r3, rfl, hpr, n1, n2, n3⟩ := im3 m1
    obtain ⟨ps, s1, s2, rfl, hps, n4, n5⟩ := im2 m2
    obtain ⟨q1, x1s, rfl, hq1, j1⟩ := n1.tup'
    obtain ⟨q2, x2s, rfl, hq2, j2⟩ := n2.tup'
    obtain ⟨q3, x3s, rfl, hq3, j3⟩ := n3.tup'
    obtain ⟨q4, x4s, rfl, hq4, j4⟩ := n4.tup'
    obtain ⟨q5, x5s, rfl, hq5, j5⟩ := n5.tup'
    clear m1 m2 m6 n1 n2 n3 n4 n5 hv
    walk_at "rdn"
    refine rd_seq ?_
    walk_at "rdn"
    refine rd_gtup (SqT.of hp) rfl (rd_gcons (rd_name (rd_gcons (rd_name (rd_gcons (rd_name (rd_gcons (rd_name (rd_gcons (rd_name (rd_gcons (rd_name (rd_gnil ?_)))))))))))))
    walk_at "rdn"
    refine rd_seq ?_
    walk_at "rd"
    refine rd_ixT (i := 0) (SqT.of hpr) (v := .ref q1) rfl ?_
    walk_at "rd"
    refine rd_seqT (SqT.of hq1) ?_
    refine lcg_tupS T (fun z : Str × Nat => crS (.zone z.1 z.2)) hq1 j1 (by omega) (fun x e H' he e' hx F go => ?_) (fun D1 H1 nD1 y1 hD1 => ?_)
    · obtain ⟨g1, g2⟩ := hc.zs e he
      obtain ⟨pq, u1, u2, rfl, hpq, hu1, hu2⟩ := im2 hx
      obtain rfl := imS' hu1
      obtain rfl := imI' hu2
      have b1 := name_len g1
      have b2 := num_len g2
      walk_at "rd"
      refine ⟨rfl, ?_⟩
      walk_at "rd"
      walk_at "fscXB"
      refine rd_ixT (i := 0) (SqT.of hpq) (v := .str e.1) rfl ?_
      walk_at "rd"
      walk_at "fssXB"
      walk_at "fscXB"
      refine rd_ixT (i := 1) (SqT.of hpq) (v := .int (e.2 : Int)) rfl ?_
      walk_at "rd"
      walk_at "fsiXB"
      rw [tS_zone]
      exact go _ .refl
    have hpr := tup.x hpr y1
    have hps := tup.x hps y1
    have hq2 := tup.x hq2 y1
    have hq3 := tup.x hq3 y1
    have hq4 := tup.x hq4 y1
    have hq5 := tup.x hq5 y1
    have j2 := j2.x y1
    have j3 := j3.x y1
    have j4 := j4.x y1
    have j5 := j5.x y1
    have m3 := m3.x y1
    have m4 := m4.x y1
    have m5 := m5.x y1
    clear hp hq1 j1 nD1
    walk_at "rdn"
    refine rd_seq ?_
    walk_at "rd"
    refine rd_ixT (i := 1) (SqT.of hpr) (v := .ref q2) rfl ?_
    walk_at "rd"
    refine rd_seqT (SqT.of hq2) ?_
    refine lcg_tupS T (fun k : Str => crS (.anchor k)) hq2 j2 (by omega) (fun x e H' he e' hx F go => ?_) (fun D2 H2 nD2 y2 hD2 => ?_)
    · have g1 := hc.an e he
      obtain rfl := imS' hx
      have b1 := NK.id_len g1
      walk_at "rd"
      refine ⟨rfl, ?_⟩
      walk_at "rd"
      refine rd_plusS (by walk_at "fslXB") ?_
      rw [tA]
      exact go _ .refl
    have hD1 := lst.x hD1 y2
    refine rd_catA (T := T) hD1 hD2 (by simp only [List.length_map]; omega) fun Da Ha nDa ya hDa => ?_
    have y2a := y2.trans ya
    have hpr := tup.x hpr y2a
    have hps := tup.x hps y2a
    have hq3 := tup.x hq3 y2a
    have hq4 := tup.x hq4 y2a
    have hq5 := tup.x hq5 y2a
    have j3 := j3.x y2a
    have j4 := j4.x y2a
    have j5 := j5.x y2a
    have m3 := m3.x y2a
    have m4 := m4.x y2a
    have m5 := m5.x y2a
    have ye := y1.trans y2a
    clear hD1 hD2 nD2 y2 ya y2a nDa hq2 j2 y1
    walk_at "rd"
    refine rd_ixT (i := 2) (SqT.of hpr) (v := .ref q3) rfl ?_
    walk_at "rd"
    refine rd_seqT (SqT.of hq3) ?_
    refine lcg_tupS T (fun z : Str × Str => crS (.set z.1 z.2)) hq3 j3 (by omega) (fun x e H' he e' hx F go => ?_) (fun D3 H3 nD3 y3 hD3 => ?_)
    · obtain ⟨g1, g2⟩ := hc.ss e he
      obtain ⟨pq, u1, u2, rfl, hpq, hu1, hu2⟩ := im2 hx
      obtain rfl := imS' hu1
      obtain rfl := imS' hu2
      have b1 := name_len g1
      have b2 := NK.id_len g2
      walk_at "rd"
      refine ⟨rfl, ?_⟩
      walk_at "rd"
      refine rd_ixT (i := 0) (SqT.of hpq) (v := .str e.1) rfl ?_
      refine rd_plusS (by walk_at "fslXB") ?_
      walk_at "rd"
      refine rd_plusS (by walk_at "fslXB") ?_
      walk_at "rd"
      refine rd_ixT (i := 1) (SqT.of hpq) (v := .str e.2) rfl ?_
      refine rd_plusS (by walk_at "fslXB") ?_
      rw [tB]
      exact go _ .refl
    have hDa := lst.x hDa y3
    refine rd_catA (T := T) hDa hD3 (by simp only [List.length_append, List.length_map]; omega) fun Db Hb nDb yb hDb => ?_
    have y3b := y3.trans yb
    have hps := tup.x hps y3b
    have hq4 := tup.x hq4 y3b
    have hq5 := tup.x hq5 y3b
    have j4 := j4.x y3b
    have j5 := j5.x y3b
    have m3 := m3.x y3b
    have m4 := m4.x y3b
    have m5 := m5.x y3b
    have ye := ye.trans y3b
    clear hDa hD3 nD3 y3 yb y3b nDb hq3 j3 hpr
    walk_at "rdn"
    refine rd_seq ?_
    walk_at "rd"
    refine rd_ixT (i := 0) (SqT.of hps) (v := .ref q4) rfl ?_
    walk_at "rd"
    refine rd_seqT (SqT.of hq4) ?_
    refine lcg_tupS T (fun z : Sl × Itx => crS (.item z.1 z.2)) hq4 j4 (by omega) (fun x e H' he e' hx F go => ?_) (fun D4 H4 nD4 y4 hD4 => ?_)
    · obtain ⟨g1, g2⟩ := hc.its e he
      obtain ⟨pq, u1, u2, rfl, hpq, hu1, hu2⟩ := im2 hx
      refine rd_gtup (SqT.of hpq) rfl (rd_gcons (rd_name (rd_gcons (rd_name (rd_gnil ?_)))))
      refine ⟨rfl, ?_⟩
      walk_at "rd"
      exact ⟨u1, u2, e.1, e.2, rfl, hu1, hu2, g1, g2, go _ .refl⟩
    have hDb := lst.x hDb y4
    refine rd_catA (T := T) hDb hD4 (by simp only [List.length_append, List.length_map]; omega) fun Dc Hc nDc yc hDc => ?_
    have y4c := y4.trans yc
    have hps := tup.x hps y4c
    have hq5 := tup.x hq5 y4c
    have j5 := j5.x y4c
    have m3 := m3.x y4c
    have m4 := m4.x y4c
    have m5 := m5.x y4c
    have ye := ye.trans y4c
    clear hDb hD4 nD4 y4 yc y4c nDc hq4 j4
    walk_at "rdn"
    refine rd_seq ?_
    walk_at "rd"
    refine rd_ixT (i := 1) (SqT.of hps) (v := .ref q5) rfl ?_
    walk_at "rd"
    refine rd_seqT (SqT.of hq5) ?_
    refine lcg_tupS T (fun z : Str × Str => crS (.on z.1 z.2)) hq5 j5 (by omega) (fun x e H' he e' hx F go => ?_) (fun D5 H5 nD5 y5 hD5 => ?_)
    · obtain ⟨g1, g2⟩ := hc.on e he
      obtain ⟨pq, u1, u2, rfl, hpq, hu1, hu2⟩ := im2 hx
      obtain rfl := imS' hu1
      obtain rfl := imS' hu2
      have b1 := NK.id_len g1
      have b2 := name_len g2
      walk_at "rd"
      refine ⟨rfl, ?_⟩
      walk_at "rd"
      refine rd_ixT (i := 0) (SqT.of hpq) (v := .str e.1) rfl ?_
      refine rd_plusS (by walk_at "fslXB") ?_
      walk_at "rd"
      refine rd_plusS (by walk_at "fslXB") ?_
      walk_at "rd"
      refine rd_ixT (i := 1) (SqT.of hpq) (v := .str e.2) rfl ?_
      refine rd_plusS (by walk_at "fslXB") ?_
      rw [tC']
      exact go _ .refl
    have hDc := lst.x hDc y5
    refine rd_catA (T := T) hDc hD5 (by simp only [List.length_append, List.length_map]; omega) fun Dd Hd nDd yd hDd => ?_
    have y5d := y5.trans yd
    have m3 := m3.x y5d
    have m4 := m4.x y5d
    have m5 := m5.x y5d
    have nDd : Nw H Dd := (ye.trans y5).back (by simp) nDd
    have ye := ye.trans y5d
    clear hDc hD5 nD5 y5 yd y5d hq5 j5 hps
    obtain ⟨qd, xd, rfl, hqd, jd⟩ := m3.tup'
    obtain ⟨qb, xb, rfl, hqb, jb⟩ := m4.tup'
    obtain ⟨qf, xf, rfl, hqf, jf⟩ := m5.tup'
    have ldd : xd.length = c.ds.length := by rw [jd.len, List.length_map]
    have lbb : xb.length = c.ds.length := by rw [jb.len, List.length_map]
    generalize hL : (((c.zs.map (fun z => crS (.zone z.1 z.2)) ++ c.an.map (fun k => crS (.anchor k))) ++ c.ss.map (fun z => crS (.set z.1 z.2))) ++ c.its.map (fun z => crS (.item z.1 z.2))) ++ c.on.map (fun z => crS (.on z.1 z.2)) = L at hDd
    have hLl : L.length ≤ 30 := by
      rw [← hL]
      simp only [List.length_append, List.length_map]
      omega
    walk_at "rdn"
    refine rd_seq ?_
    walk_at "rd"
    refine rd_lenT (SqT.of hqd) ?_
    walk_at "rd"
    refine ⟨by omega, by omega, ?_⟩
    rw [Int.toNat_natCast]
    have lo0 := lsts_one hDd
    refine forg_range (fun i σ H' => ∃ o8, σ = [some (.ref p), some (.ref pr), some (.ref ps), some (.ref qd), some (.ref qb), some (.ref qf), some (.int (c.fin : Int)), some (.ref Dd), o8, none, none, none, none] ∧ Ext T [Dd] Hd H' ∧ H' Dd = some (.lst (L ++ (c.ds.take i).map fun d => crS (.deed d.2.1 d.2.2 d.1))))
      ⟨none, rfl, .refl, by rw [hDd, List.take_zero, List.map_nil, List.append_nil]⟩ (fun i σ H' hi h => ?_) (fun σ H' h => ?_)
    · obtain ⟨o8, rfl, eL, hLi⟩ := h
      have hi2 : i < c.ds.length := by omega
      obtain ⟨ud, hud1, hud2⟩ : ∃ ud, xd[i]? = some ud ∧ Im H' ud (dxD c.ds[i].1) := by
        have e1 : (c.ds.map fun d => dxD d.1)[i]? = some (dxD c.ds[i].1) := by rw [List.getElem?_map, List.getElem?_eq_getElem hi2]; rfl
        obtain ⟨u, h1, h2⟩ := jd.get e1
        exact ⟨u, h1, Im.ext eL lo0 _ _ h2⟩
      obtain ⟨ub, hub1, hub2⟩ : ∃ ub, xb[i]? = some ub ∧ Im H' ub (bfD c.ds[i].2) := by
        have e1 : (c.ds.map fun d => bfD d.2)[i]? = some (bfD c.ds[i].2) := by rw [List.getElem?_map, List.getElem?_eq_getElem hi2]; rfl
        obtain ⟨u, h1, h2⟩ := jb.get e1
        exact ⟨u, h1, Im.ext eL lo0 _ _ h2⟩
      obtain ⟨pq, u1, u2, rfl, hpq, hu1, hu2⟩ := im2 hub2
      obtain rfl := imI' hu1
      obtain rfl := imI' hu2
      obtain ⟨g1, g2, g3⟩ := hc.ds c.ds[i] (List.getElem_mem hi2)
      have b1 := num_len g2
      have b2 := num_len g3
      have b3 := dx_jlen g1
      have hqd' := SqP.ext hqd eL lo0
      have hqb' := SqP.ext hqb eL lo0
      rw [Int.zero_add]
      have hll : (L ++ (c.ds.take i).map fun d => crS (.deed d.2.1 d.2.2 d.1)).length ≤ 40 := by
        rw [List.length_append, List.length_map, List.length_take]
        omega
      walk_at "rd"
      walk_at "fscXB"
      refine rd_ixT (i := ((i : Nat) : Int)) (SqT.of hqb') (atI_nat hub1) ?_
      walk_at "rd"
      refine rd_ixT (i := 0) (SqT.of hpq) (v := .int (c.ds[i].2.1 : Int)) rfl ?_
      walk_at "rd"
      walk_at "fsiXB"
      walk_at "fscXB"
      refine rd_ixT (i := ((i : Nat) : Int)) (SqT.of hqb') (atI_nat hub1) ?_
      walk_at "rd"
      refine rd_ixT (i := 1) (SqT.of hpq) (v := .int (c.ds[i].2.2 : Int)) rfl ?_
      walk_at "rd"
      walk_at "fsiXB"
      walk_at "fscXB"
      refine rd_ixT (i := ((i : Nat) : Int)) (SqT.of hqd') (atI_nat hud1) ?_
      walk_at "rd"
      refine ⟨ud, c.ds[i].1, rfl, hud2, g1, ?_⟩
      refine rd_plusS (by walk_at "fslXB") ?_
      rw [tS_deed]
      walk_at "rd"
      refine ⟨_, rfl, eL.trans (.mut (by simp) hLi), ?_⟩
      rw [upd_same, List.take_succ, List.getElem?_eq_getElem hi2, List.map_append, List.append_assoc]
      rfl
    · obtain ⟨o8, rfl, eL, hLi⟩ := h
      rw [ldd, List.take_length] at hLi
      have hqf' := SqP.ext hqf eL lo0
      have jf' := ImAll.ext eL lo0 _ _ jf
      have xH : Ext T [] H H' := (ye.any.trans eL).news fun a ha => by
        rw [List.mem_singleton.mp ha]
        exact nDd
      walk_at "rd"
      refine rd_seqT (SqT.of hqf') ?_
      refine lcg_tupS T (fun z : Nat × Nat => crS (.before z.1 z.2)) hqf' jf' (by omega) (fun x e H' he e' hx F go => ?_) (fun D6 H6 nD6 y6 hD6 => ?_)
      · obtain ⟨g1, g2⟩ := hc.bf e he
        obtain ⟨pq, u1, u2, rfl, hpq, hu1, hu2⟩ := im2 hx
        obtain rfl := imI' hu1
        obtain rfl := imI' hu2
        have b1 := num_len g1
        have b2 := num_len g2
        walk_at "rd"
        refine ⟨rfl, ?_⟩
        walk_at "rd"
        walk_at "fscXB"
        refine rd_ixT (i := 0) (SqT.of hpq) (v := .int (e.1 : Int)) rfl ?_
        walk_at "rd"
        walk_at "fsiXB"
        walk_at "fscXB"
        refine rd_ixT (i := 1) (SqT.of hpq) (v := .int (e.2 : Int)) rfl ?_
        walk_at "rd"
        walk_at "fsiXB"
        rw [tS_before]
        exact go _ .refl
      have hLi := lst.x hLi y6
      refine rd_catA (T := T) hLi hD6 (by simp only [List.length_append, List.length_map]; omega) fun De He nDe yq hDe => ?_
      have bf0 := hc.fin
      have bm := num_len hc.fin
      walk_at "rd"
      walk_at "fscXB"
      walk_at "fsiXB"
      rw [tS_end]
      refine ⟨by walk_at "sz", fun pe npe => ?_⟩
      obtain ⟨npe, yr, hpe⟩ := alL (T := T) npe [V.str (jn 32 (crW (.fin c.fin)))]
      refine rd_catA (T := T) (lst.x hDe yr) hpe (by simp only [List.length_append, List.length_map, List.length_cons, List.length_nil]; omega) fun Dg Hg nDg ys hDg => ?_
      refine q Dg Hg (xH.trans (y6.trans (yq.trans (yr.trans ys)))) ?_
      rw [hDg, ← hL]
      congr 2
      simp only [csR, List.map_append, List.map_map, List.append_assoc, List.map_cons, List.map_nil]
      rfl
end

open PySem PySem.Spec PyProof.Rows L2
open PySem.W (EachIs)
local macro_rules | `(tactic| walk_at "fslXC") => `(tactic| (refine Nat.le_trans (?_ : _ ≤ 100000) (by decide); (try simp only [app_len2, sp_len, nl_len, em_len, c_at_len]); omega))
local macro_rules | `(tactic| walk_at "fsiXC") => `(tactic| (refine fs_i (by omega) ?_; refine fs_y ⟨by walk_at "fslXC", ?_⟩; walk_at "rd"))
local macro_rules | `(tactic| walk_at "fscXC") => `(tactic| (refine ⟨by walk_at "fslXC", ?_⟩; walk_at "rd"))
section
variable {T : List (Addr × Str)} {P : Program} {w : World} {K : PySem.W.Frag} {mg : Str → Option Value} {base : Heap}
local macro_rules | `(tactic| walk_at "tr") => `(tactic| first
  | assumption
  | exact Ext.refl
  | ((with_reducible refine' Im.x (T := T) (H := ?trH) ?tra ?tre); (case tre => assumption); (case tra => walk_at "tr"))
  | ((with_reducible refine' Im.y (T := T) (H := ?trH) ?tra ?tre ?trt); (case tre => assumption); (case trt => walk_at "tr"); (case tra => walk_at "tr"))
  | ((with_reducible refine' ImAll.x (T := T) (H := ?trH) ?tra ?tre); (case tre => assumption); (case tra => walk_at "tr"))
  | ((with_reducible refine' ImAll.y (T := T) (H := ?trH) ?tra ?tre ?trt); (case tre => assumption); (case trt => walk_at "tr"); (case tra => walk_at "tr"))
  | ((with_reducible refine' Ls.x (T := T) (H := ?trH) ?tra ?tre); (case tre => assumption); (case tra => walk_at "tr"))
  | ((with_reducible refine' Ls.y (T := T) (H := ?trH) ?tra ?tre ?trn ?trt); (case tre => assumption); (case trt => walk_at "tr"); (case trn => walk_at "tr"); (case tra => walk_at "tr"))
  | ((with_reducible refine' SqP.x (T := T) (H := ?trH) ?tra ?tre); (case tre => assumption); (case tra => walk_at "tr"))
  | ((with_reducible refine' SqP.y (T := T) (H := ?trH) ?tra ?tre ?trt); (case tre => assumption); (case trt => walk_at "tr"); (case tra => walk_at "tr"))
  | ((with_reducible refine' StAt.x (T := T) (H := ?trH) ?tra ?tre); (case tre => assumption); (case tra => walk_at "tr"))
  | ((with_reducible refine' StAt.y (T := T) (H := ?trH) ?tra ?tre ?trt); (case tre => assumption); (case trt => walk_at "tr"); (case tra => walk_at "tr"))
  | ((with_reducible refine' Pools.ext0 (T := T) (H := ?trH) ?tra ?tre); (case tre => assumption); (case tra => walk_at "tr"))
  | ((with_reducible refine' Pools.ext (T := T) (H := ?trH) ?tra ?tre ?trt); (case tre => assumption); (case trt => walk_at "tr"); (case tra => walk_at "tr"))
  | ((with_reducible refine' CL.x (T := T) (H := ?trH) ?tra ?tre); (case tre => assumption); (case tra => walk_at "tr"))
  | ((with_reducible refine' CL.y (T := T) (H := ?trH) ?tra ?tre); (case tre => assumption); (case tra => walk_at "tr"))
  | ((with_reducible refine' Tape.ext (T := T) (H := ?trH) ?tra ?tre); (case tre => assumption); (case tra => walk_at "tr"))
  | ((with_reducible refine' lst.x (T := T) (H := ?trH) ?tra ?tre); (case tre => assumption); (case tra => walk_at "tr"))
  | ((with_reducible refine' lst.y (T := T) (H := ?trH) ?tra ?tre ?trn); (case tre => assumption); (case trn => walk_at "tr"); (case tra => walk_at "tr"))
  | ((with_reducible refine' tup.x (T := T) (H := ?trH) ?tra ?tre); (case tre => assumption); (case tra => walk_at "tr"))
  | ((with_reducible refine' tup.y (T := T) (H := ?trH) ?tra ?tre ?trt); (case tre => assumption); (case trt => walk_at "tr"); (case tra => walk_at "tr"))
  | ((with_reducible refine' frz.x (T := T) (H := ?trH) ?tra ?tre); (case tre => assumption); (case tra => walk_at "tr"))
  | ((with_reducible refine' frz.y (T := T) (H := ?trH) ?tra ?tre ?trt); (case tre => assumption); (case trt => walk_at "tr"); (case tra => walk_at "tr"))
  | ((with_reducible refine' Im.z (T := T) (H := ?trH) ?tra ?tre ?trt); (case tre => assumption); (case trt => assumption); (case tra => walk_at "tr"))
  | ((with_reducible refine' ImAll.z (T := T) (H := ?trH) ?tra ?tre ?trt); (case tre => assumption); (case trt => assumption); (case tra => walk_at "tr"))
  | ((with_reducible refine' StAt.z (T := T) (H := ?trH) ?tra ?tre ?trt); (case tre => assumption); (case trt => assumption); (case tra => walk_at "tr"))
  | ((with_reducible refine' SqP.z (T := T) (H := ?trH) ?tra ?tre ?trt); (case tre => assumption); (case trt => assumption); (case tra => walk_at "tr"))
  | ((with_reducible refine' tup.z (T := T) (H := ?trH) ?tra ?tre ?trt); (case tre => assumption); (case trt => assumption); (case tra => walk_at "tr"))
  | ((with_reducible refine' Ls.z (T := T) (H := ?trH) ?tra ?tre ?trt ?trn); (case tre => assumption); (case trt => assumption); (case trn => assumption); (case tra => walk_at "tr"))
  | ((with_reducible refine' lst.z (T := T) (H := ?trH) ?tra ?tre ?trn); (case tre => assumption); (case trn => assumption); (case tra => walk_at "tr"))
  | ((with_reducible refine' CL.z (T := T) (H := ?trH) ?tra ?tre ?trn); (case tre => assumption); (case trn => assumption); (case tra => walk_at "tr"))
  | ((with_reducible refine' Tape.ne1 (H := ?trH) ?trt ?trn); (case trn => assumption); (case trt => walk_at "tr"))
  | ((with_reducible refine' Ext.trans (H1 := ?trH) ?tra (Ext.any ?tre)); (case tre => assumption); (case tra => walk_at "tr"))
  | ((with_reducible refine' Ext.trans (H1 := ?trH) ?tra ?tre); (case tre => assumption); (case tra => walk_at "tr"))
  | ((with_reducible refine' Ext.back1 (T := T) (H1 := ?trH) ?tre ?trn ?tra); (case tra => assumption); (case trn => walk_at "tr"); (case tre => walk_at "tr"))
  | ((with_reducible refine' Ext.back0 (T := T) (H1 := ?trH) ?tre ?tra); (case tra => assumption); (case tre => walk_at "tr"))
  | ((with_reducible refine' SqT.of ?tra); (case tra => walk_at "tr"))
  | ((with_reducible refine' SqL.of ?tra); (case tra => walk_at "tr")))
local macro_rules | `(tactic| walk_at "al") => `(tactic| (refine ⟨by first | (show _ ≤ sizeLine; decide) | walk_at "sz", ?_⟩; intro alp aln; generalize alG : upd _ alp _ = alH; obtain ⟨aln2, alx, alh⟩ := al_of (T := T) aln alG; clear alG aln))
local macro_rules | `(tactic| walk_at "al0") => `(tactic| (intro alp aln; generalize alG : upd _ alp _ = alH; obtain ⟨aln2, alx, alh⟩ := al_of (T := T) aln alG; clear alG aln))

theorem dep_it2 (i : Itx) : (itD2 i).depth ≤ 2 := by
  show max (PyData.depthAll (i.c.map .str) + 1) (max 0 (max (PyData.depthAll (i.g.map .str) + 1) (max 0 (max 0 0)))) + 1 ≤ 2
  rw [dep_strs0, dep_strs0]
  decide
theorem dep_dx (d : Dx) : (dxD d).depth ≤ 3 := by
  cases d with
  | put s i =>
    have a := dep_sl s
    have b := dep_it2 i
    show max 0 (max (slD s).depth (max (itD2 i).depth 0)) + 1 ≤ 3
    omega
  | on v z => show max 0 (max 0 (max 0 0)) + 1 ≤ 3; decide
  | off v z => show max 0 (max 0 (max 0 0)) + 1 ≤ 3; decide
theorem dep_step (r : Nat × Dx) : (stepD r).depth ≤ 4 := by
  have := dep_dx r.2
  show max 0 (max (dxD r.2).depth 0) + 1 ≤ 4
  omega
theorem dep_steps (rs : List (Nat × Dx)) : PyData.depth (.tuple (rs.map stepD)) ≤ 64 := by
  show PyData.depthAll (rs.map stepD) + 1 ≤ 64
  have := dep_map dep_step rs
  omega
theorem dep_its (i : Sl × Itx) : (itsD i).depth ≤ 3 := by
  have a := dep_sl i.1
  have b := dep_it2 i.2
  show max (slD i.1).depth (max (itD2 i.2).depth 0) + 1 ≤ 3
  omega
theorem dep_cs (c : Cs) : (csD c).depth ≤ 64 := by
  have h1 := dep_map (f := zsD) (n := 1) (fun z => by show max 0 (max 0 0) + 1 ≤ 1; decide) c.zs
  have h2 := dep_strs0 c.an
  have h3 := dep_map (f := stsD) (n := 1) (fun z => by show max 0 (max 0 0) + 1 ≤ 1; decide) c.ss
  have h4 := dep_map dep_its c.its
  have h5 := dep_map (f := stsD) (n := 1) (fun z => by show max 0 (max 0 0) + 1 ≤ 1; decide) c.on
  have h6 := dep_map (f := fun d : Dx × Nat × Nat => dxD d.1) (n := 3) (fun d => dep_dx d.1) c.ds
  have h7 := dep_map (f := fun d : Dx × Nat × Nat => bfD d.2) (n := 1) (fun z => by show max 0 (max 0 0) + 1 ≤ 1; decide) c.ds
  have h8 := dep_map (f := bfD) (n := 1) (fun z => by show max 0 (max 0 0) + 1 ≤ 1; decide) c.bf
  show max (max (PyData.depthAll (c.zs.map zsD) + 1) (max (PyData.depthAll (c.an.map .str) + 1) (max (PyData.depthAll (c.ss.map stsD) + 1) 0)) + 1) (max (max (PyData.depthAll (c.its.map itsD) + 1) (max (PyData.depthAll (c.on.map stsD) + 1) 0) + 1) (max (PyData.depthAll (c.ds.map fun d => dxD d.1) + 1) (max (PyData.depthAll (c.ds.map fun d => bfD d.2) + 1) (max (PyData.depthAll (c.bf.map bfD) + 1) (max 0 0))))) + 1 ≤ 64
  omega
def spLaw (T : List (Addr × Str)) (K : PySem.W.Frag) : Sp := fun vs H Q _ => ∃ (a : Addr) (ns : List Int), vs = [.ref a] ∧ SqL K H a (ns.map V.int) ∧ ns.length ≤ 63 ∧ ∀ H', Q (.bl true) H'
theorem ok_law {f : Addr} {fd : FuncData} (F : Fun K "law" "law" s_law f fd) (mb : ∀ x ∈ bltns, mg x = none)
    (G_law_tape : Ok P w K mg base 1 "_law_tape" ["script", "budget"] (spTape T K)) (G_law_take : Ok P w K mg base 2 "_law_take" ["tape", "many"] (spTake T)) (G_law_number : Ok P w K mg base 3 "_law_number" ["tape"] (spLNum T)) (G_law_case : Ok P w K mg base 8 "_law_case" ["tape"] (spCase T)) (G_law_lines : Ok P w K mg base 4 "_law_lines" ["case"] (spLLines T)) (G_law_one : Ok P w K mg base 7 "_law_one" ["tape"] (spOne T)) (G_law_deed_text : Ok P w K mg base 3 "_law_deed_text" ["deed"] spDxT)
    (G_case_text : Ok P w K mg base 6 "case_text" ["case"] (spCsT T)) (G_read_case : Ok P w K mg base 12 "read_case" ["text"] (spRCs T)) (G_plan_text : Ok P w K mg base 5 "plan_text" ["plan"] (spPlanT T)) (G_read_plan : Ok P w K mg base 12 "read_plan" ["text"] (spRPlan T)) : FnOk P w K mg base CX0 13 f fd ["script"] (spLaw T K) := by
  refine F.ok sc_law (fun vs H Q E h => ?_) (fun cdv A outer s H vs Q E hr h => ?_)
  · obtain ⟨a, ns, rfl, _⟩ := h
    rfl
  · obtain ⟨a, ns, rfl, ha, hl, q⟩ := h
    refine ⟨_, (pss_cons (ps_set (i := 1) sc_law.nd rfl (.inr rfl) (pe_callO G_law_tape (hr.mono (by decide)) (by rfl) (pa_cons (pv 0) (pa_cons pe_int pa_nil))))
   (pss_cons (ps_set (i := 2) sc_law.nd rfl (.inl rfl) (pe_callO G_law_case (hr.mono (by decide)) (by rfl) (pa_cons (pv 1) pa_nil)))
   (pss_cons (ps_set (i := 3) sc_law.nd rfl (.inl rfl) (pe_m1 PySem.F.slot_str_join PySem.F.type_str_join (mt_joinU K rfl) pe_str (pe_callO G_law_lines (hr.mono (by decide)) (by rfl) (pa_cons (pv 2) pa_nil))))
   (pss_cons (ps_if (PW.pt (pw_or (pt_cmpR (op_neU K rfl hr.units) (pe_callO G_case_text (hr.mono (by decide)) (by rfl) (pa_cons (pv 2) pa_nil)) (pv 3) (nomark _)) (pw_or1 (pt_cmpR (op_neU K rfl hr.units) (pe_callO G_read_case (hr.mono (by decide)) (by rfl) (pa_cons (pv 3) pa_nil)) (pv 2) (nomark _))))) (pss_one (ps_ret pe_bl)) pss_nil)
   (pss_cons (ps_set (i := 4) sc_law.nd rfl (.inl rfl) (pe_callTy (call_tupU K rfl) (by rfl) (mb _ (by decide)) (by decide +kernel) (pa_cons (pe_lc (own := [("k", 5)]) (g := gName 5) (tt := tYes) rfl sc_law.nd (pi_range1 (by rfl) (mb _ (by decide)) (pa_cons (pe_callO G_law_take (hr.mono (by decide)) (by rfl) (pa_cons (pv 1) (pa_cons pe_int pa_nil))) pa_nil)) (blkOk_by (N := N_law) (sc := defScope s_law) (by decide +kernel)) (fun _ _ _ _ _ => (pg_name (i := 5) sc_law.nd rfl (Or.inl rfl))) (fun _ _ _ _ _ => pts_nil) (fun _ _ _ _ _ => (pe_tup (pa_cons (pe_callO G_law_number (hr.mono (by decide)) (by rfl) (pa_cons (pv 1) pa_nil)) (pa_cons (pe_callO G_law_one (hr.mono (by decide)) (by rfl) (pa_cons (pv 1) pa_nil)) pa_nil))))) pa_nil)))
   (pss_cons (ps_set (i := 3) sc_law.nd rfl (.inl rfl) (pe_m1 PySem.F.slot_str_join PySem.F.type_str_join (mt_joinU K rfl) pe_str (pe_lc (own := [("moment", 6), ("deed", 7)]) (tt := tYes) rfl sc_law.nd (pi_seq K rfl (pv 4)) (blkOk_by (N := N_law) (sc := defScope s_law) (by decide +kernel)) (fun _ _ _ _ _ => (pg_tupU (n := 2) K rfl rfl (pgs_cons (pg_name (i := 6) sc_law.nd rfl (Or.inl rfl)) (pgs_cons (pg_name (i := 7) sc_law.nd rfl (Or.inl rfl)) pgs_nil)))) (fun _ _ _ _ _ => pts_nil) (fun _ _ _ _ _ => (pe_op (op_plus K rfl) (pe_fstr (.cons pe_str (.cons (pe_fmt (pv 6)) (.cons pe_str PJ.nil)))) (pe_callO G_law_deed_text (hr.mono (by decide)) (by rfl) (pa_cons (pv 7) pa_nil)))))))
   (pss_one (ps_ret (pe_and (pe_cmpR (op_eqU K rfl hr.units) (pe_callO G_plan_text (hr.mono (by decide)) (by rfl) (pa_cons (pv 4) pa_nil)) (pv 3) (nomark _)) (pe_and (pe_cmpR (op_eqU K rfl hr.units) (pe_callO G_read_plan (hr.mono (by decide)) (by rfl) (pa_cons (pv 3) pa_nil)) (pv 4) (nomark _)) (pe_and (pe_cmpR (op_eqU K rfl hr.units) (pe_callO G_read_plan (hr.mono (by decide)) (by rfl) (pa_cons pe_str pa_nil)) (pe_tup pa_nil) (nomark _)) (pe_one (pe_cmpR (op_eqU K rfl hr.units) (pe_callO G_plan_text (hr.mono (by decide)) (by rfl) (pa_cons (pe_tup pa_nil) pa_nil)) pe_str (nomark _)))))))))))))), ?_⟩
    walk_at "rdn"
    refine rd_seq ?_
    walk_at "rdn"
    refine ⟨a, ns, 0, rfl, ha, hl, fun t l H1 nt e1 T1 => ?_⟩
    clear e1 ha nt
    walk_at "rdn"
    refine rd_seq ?_
    walk_at "rd"
    refine ⟨l, t, rfl, T1, fun v c H2 hc hv e2 T2 => ?_⟩
    clear e2
    walk_at "rdn"
    refine rd_seq ?_
    walk_at "rd"
    refine ⟨v, c, rfl, hv, hc, fun D H3 x3 hD => ?_⟩
    have hv := hv.x x3
    have T3 := T2.ext x3
    have e1 : (csR c).map crS = (((csR c).map crW).map (jn 32)).map V.str := by
      rw [List.map_map, List.map_map]
      rfl
    rw [e1] at hD
    have hR := cr_rows hc.rows
    have hcl := hc.len
    walk_at "rd"
    refine rd_joinNl hD hR (by rw [List.length_map]; omega) ?_
    clear x3 hD e1 T1 T2
    walk_at "rd"
    refine ⟨v, c, rfl, hv, hc, fun H4 x4 => ?_⟩
    have hv := hv.x x4
    have T4 := T3.ext x4
    walk_at "rd"
    rw [decide_eq_true rfl]
    walk_at "rd"
    refine ⟨c, rfl, hc.rows, hcl, fun v2 H5 x5 hv2 => ?_⟩
    have hv := hv.x x5
    have T5 := T4.ext x5
    walk_at "rd"
    refine rd_neI (b := true) hv2 hv (dep_cs c) (dep_cs c) (by simp) ?_
    clear hv hv2 x4 x5 T3 T4 hR hcl hc
    walk_at "rdn"
    refine rd_seq ?_
    walk_at "rd"
    refine ⟨l, t, 6, rfl, by decide, by decide, T5, fun m H6 b0 b1 e6 T6 => ?_⟩
    obtain ⟨m, rfl⟩ := Int.eq_ofNat_of_zero_le b0
    walk_at "rd"
    refine ⟨by omega, by omega, ?_⟩
    rw [Int.toNat_natCast]
    refine lcg_drawn T stepD StepOk walk_range (fun i H x H' y => y.1) T6 (Nat.lt_of_le_of_lt (show m ≤ 6 by omega) (by decide)) (fun _ _ _ => True.intro) (fun i x H' hi e' T' F go => ?_) (fun pw Ha ws rs npw ea Ta hpw iw lw hrs => ?_)
    · walk_at "rd"
      refine ⟨l, t, rfl, T', fun n H5 hn e5 T5 => ?_⟩
      walk_at "rd"
      refine ⟨l, t, rfl, T5, fun d dx H6 hd hv e6 T6 => ?_⟩
      walk_at "rd"
      refine ⟨by walk_at "sz", fun p np => ?_⟩
      obtain ⟨np, x7, hp⟩ := alT (T := T) np [V.int (n : Int), d]
      exact go _ (n, dx) _ ⟨hn, hd⟩ (.tup hp (.cons (.int _) (.cons (hv.x x7) .nil))) (e5.trans (e6.trans x7.any)) (T6.ext x7)
    have hr8 : rs.length ≤ 8 := by omega
    have hwl : ws.length = rs.length := by rw [iw.len, List.length_map]
    have hRw := step_rows hrs
    clear ea T6 e6 b0 b1 T5
    walk_at "rd"
    refine rd_tupL (SqL.of hpw) fun pt npt => ?_
    obtain ⟨npt, xb, hpt⟩ := alT (T := T) npt ws
    have hwi := iw.x xb
    generalize upd Ha pt _ = Hb at xb hpt hwi ⊢
    have htab : Im Hb (.ref pt) (.tuple (rs.map stepD)) := .tup hpt hwi
    clear xb npt hpw npw Ta iw
    walk_at "rdn"
    refine rd_seq ?_
    walk_at "rd"
    refine rd_seqT (SqT.of hpt) ?_
    refine lcg_gen T (walk_tup (xs := ws)) (fun H' e => SqT.of (tup.x hpt e)) (Nat.lt_of_le_of_lt (show ws.length ≤ 8 by omega) (by decide)) (fun i D H y => ∀ r, rs[i]? = some r → y = V.str (jn 32 (stepW r))) (fun i D H1 H2 y xs e hD h => h) (fun i x D H3 H4 hi x3 nD hD hx F go => ?_) (fun D zs Hc nD xc hD hzl hzs => ?_)
    · obtain ⟨rfl, hx⟩ := hx
      obtain ⟨r, hr2, hxr⟩ := get_im hwi hx
      obtain ⟨g1, g2⟩ := hrs r (List.mem_of_getElem? hr2)
      have b1 := num_len g1
      have b2 := dx_jlen g2
      obtain ⟨pq, u1, u2, rfl, hpq, hu1, hu2⟩ := im2 hxr
      obtain rfl := imI' hu1
      refine rd_gtup (SqT.of (tup.x hpq x3)) rfl (rd_gcons (rd_name (rd_gcons (rd_name (rd_gnil ?_)))))
      refine ⟨rfl, ?_⟩
      walk_at "rd"
      walk_at "fscXC"
      walk_at "fsiXC"
      walk_at "fscXC"
      refine ⟨u2, r.2, rfl, hu2.x x3, g2, ?_⟩
      refine rd_plusS (by walk_at "fslXC") ?_
      rw [tS_at]
      refine go _ _ (fun r' hr' => ?_) .refl
      rw [hr2] at hr'
      cases Option.some.inj hr'
      rfl
    have hz := ys_eq (by omega) hzs
    rw [hz] at hD
    have e1 : rs.map (fun r => V.str (jn 32 (stepW r))) = ((rs.map stepW).map (jn 32)).map V.str := by
      rw [List.map_map, List.map_map]
      rfl
    rw [e1] at hD
    walk_at "rd"
    refine rd_joinNl hD hRw (by rw [List.length_map]; omega) ?_
    have htab := htab.x xc
    clear xc hD hz hzs hwi hpt nD e1
    walk_at "rd"
    refine ⟨.ref pt, rs, rfl, htab, hrs, hr8, fun Hd xd => ?_⟩
    have htab := htab.x xd
    walk_at "rd"
    rw [decide_eq_true rfl]
    walk_at "rd"
    refine ⟨rs, rfl, hrs, hr8, fun v He xe hv => ?_⟩
    have htab := htab.x xe
    walk_at "rd"
    refine rd_eqI (b := true) hv htab (dep_steps rs) (dep_steps rs) (by simp) ?_
    clear xd xe htab hv hRw
    walk_at "rd"
    refine ⟨[], rfl, (fun _ h => nomatch h), by decide, fun v1 Hf xf hv1 => ?_⟩
    walk_at "rd"
    refine ⟨by walk_at "sz", fun p1 np1 => ?_⟩
    obtain ⟨np1, x1, hp1⟩ := alT (T := T) np1 ([] : List V)
    refine rd_eqI (b := true) (hv1.x x1) (.tup hp1 .nil) (by decide) (by decide) (by simp) ?_
    generalize upd Hf p1 _ = Hg
    walk_at "rd"
    refine ⟨by walk_at "sz", fun p3 np3 => ?_⟩
    obtain ⟨np3, x3, hp3⟩ := alT (T := T) np3 ([] : List V)
    refine ⟨.ref p3, [], rfl, .tup hp3 .nil, (fun _ h => nomatch h), by decide, fun Hj xj => ?_⟩
    walk_at "rd"
    rw [decide_eq_true (show rowsS ([].map stepW) = Str.ofString "" from rfl)]
    walk_at "rd"
    exact q _
end

open PySem PySem.Spec PyProof.Rows L2
theorem all_mk {l : PySem.W.OpenLaw} {w : World} {K : PySem.W.Frag} {h : Heap} {mg : Str → Option Value} {fa : Addr} (X : K.In h) (G : h.Ns mainGlobals mg) (hfa : mg "law" = some (.ref fa))
    (d1 : DefIn K "is_word" s_is_word) (d2 : DefIn K "is_number" s_is_number) (d3 : DefIn K "is_id" s_is_id) (d4 : DefIn K "is_label" s_is_label) (d5 : DefIn K "is_name" s_is_name) (d6 : DefIn K "read_number" s_read_number) (d7 : DefIn K "read_id" s_read_id) (d8 : DefIn K "read_name" s_read_name) (d9 : DefIn K "read_ids" s_read_ids) (d10 : DefIn K "read_slot" s_read_slot) (d11 : DefIn K "split_slot" s_split_slot) (d12 : DefIn K "read_hosts_item" s_read_hosts_item) (d13 : DefIn K "read_sealed_item" s_read_sealed_item) (d14 : DefIn K "read_placed" s_read_placed) (d15 : DefIn K "read_deed" s_read_deed) (d16 : DefIn K "read_step" s_read_step) (d17 : DefIn K "read_case_line" s_read_case_line) (d18 : DefIn K "split_lines" s_split_lines) (d19 : DefIn K "read_line" s_read_line) (d20 : DefIn K "read_lines" s_read_lines) (d21 : DefIn K "read_groups" s_read_groups) (d22 : DefIn K "read_case" s_read_case) (d23 : DefIn K "read_plan" s_read_plan) (d24 : DefIn K "ids_text" s_ids_text) (d25 : DefIn K "item_text" s_item_text) (d26 : DefIn K "placed_text" s_placed_text) (d27 : DefIn K "deed_text" s_deed_text) (d28 : DefIn K "realm_lines" s_realm_lines) (d29 : DefIn K "state_lines" s_state_lines) (d30 : DefIn K "deed_lines" s_deed_lines) (d31 : DefIn K "case_text" s_case_text) (d32 : DefIn K "plan_text" s_plan_text) (d33 : DefIn K "_law_mix" s_law_mix) (d34 : DefIn K "_law_tape" s_law_tape) (d35 : DefIn K "_law_take" s_law_take) (d36 : DefIn K "_law_id" s_law_id) (d37 : DefIn K "_law_label" s_law_label) (d38 : DefIn K "_law_number" s_law_number) (d39 : DefIn K "_law_name" s_law_name) (d40 : DefIn K "_law_some" s_law_some) (d41 : DefIn K "_law_slot" s_law_slot) (d42 : DefIn K "_law_item_of" s_law_item_of) (d43 : DefIn K "_law_one" s_law_one) (d44 : DefIn K "_law_ids_text" s_law_ids_text) (d45 : DefIn K "_law_entry_text" s_law_entry_text) (d46 : DefIn K "_law_deed_text" s_law_deed_text) (d47 : DefIn K "_law_case" s_law_case) (d48 : DefIn K "_law_lines" s_law_lines) (d49 : DefIn K "law" s_law)
    (mb : ∀ x ∈ bltns, PySem.W.nsIn K mainGlobals x = some none) (c1 : ∃ t, PySem.W.nsIn K mainGlobals "DIGITS" = some (some (.str "0123456789" t))) (c2 : ∃ t, PySem.W.nsIn K mainGlobals "LETTERS" = some (some (.str "abcdefghijklmnopqrstuvwxyz0123456789" t))) (c3 : ∃ t, PySem.W.nsIn K mainGlobals "MAX_DIGITS" = some (some (.int 5 t))) (c4 : ∃ t, PySem.W.nsIn K mainGlobals "MAX_ID" = some (some (.int 4 t))) (c5 : ∃ t, PySem.W.nsIn K mainGlobals "MAX_LABEL" = some (some (.int 8 t))) (c6 : ∃ t, PySem.W.nsIn K mainGlobals "MAX_LABELS" = some (some (.int 4 t))) (c7 : ∃ t, PySem.W.nsIn K mainGlobals "HOSTS_FIRST" = some (some (.int 0 t))) (c8 : ∃ t, PySem.W.nsIn K mainGlobals "HOSTS_LAST" = some (some (.int 10000 t))) (c9 : ∃ t, PySem.W.nsIn K mainGlobals "ZONES" = some (some (.int 0 t))) (c10 : ∃ t, PySem.W.nsIn K mainGlobals "ANCHORS" = some (some (.int 1 t))) (c11 : ∃ t, PySem.W.nsIn K mainGlobals "SETS" = some (some (.int 2 t))) (c12 : ∃ t, PySem.W.nsIn K mainGlobals "ITEMS" = some (some (.int 3 t))) (c13 : ∃ t, PySem.W.nsIn K mainGlobals "SERVERS" = some (some (.int 4 t))) (c14 : ∃ t, PySem.W.nsIn K mainGlobals "DEEDS" = some (some (.int 5 t))) (c15 : ∃ t, PySem.W.nsIn K mainGlobals "PAIRS" = some (some (.int 6 t))) (c16 : ∃ t, PySem.W.nsIn K mainGlobals "END" = some (some (.int 7 t))) :
    LamX.LawAtS l w K CX0 13 63 "script" mg fa h := by
  have M : Cst mg := ⟨c1.imp fun _ e => PySem.W.mg_of X G e, c2.imp fun _ e => PySem.W.mg_of X G e, c3.imp fun _ e => PySem.W.mg_of X G e, c4.imp fun _ e => PySem.W.mg_of X G e, c5.imp fun _ e => PySem.W.mg_of X G e, c6.imp fun _ e => PySem.W.mg_of X G e, c7.imp fun _ e => PySem.W.mg_of X G e, c8.imp fun _ e => PySem.W.mg_of X G e, c9.imp fun _ e => PySem.W.mg_of X G e, c10.imp fun _ e => PySem.W.mg_of X G e, c11.imp fun _ e => PySem.W.mg_of X G e, c12.imp fun _ e => PySem.W.mg_of X G e, c13.imp fun _ e => PySem.W.mg_of X G e, c14.imp fun _ e => PySem.W.mg_of X G e, c15.imp fun _ e => PySem.W.mg_of X G e, c16.imp fun _ e => PySem.W.mg_of X G e⟩
  have mb : ∀ x ∈ bltns, mg x = none := fun x hx => PySem.W.mg_none_of X G (mb x hx)
  obtain ⟨f, oc, od, kV, doc, pm, an, cdv, ct, osl, h1, h2, h3, h4⟩ := d49
  have F_law := fun_mk (st := s_law) h2 h3 h4
  have e := hfa.symm.trans (PySem.W.mg_of X G h1)
  cases e
  have D_is_word := d1.mk (ps := ["text", "letters", "most"]) X G fun _ _ _ _ _ _ us hl => match us, hl with | [_, _, _], _ => rfl
  have D_is_number := d2.mk (ps := ["text"]) X G fun _ _ _ _ _ _ us hl => match us, hl with | [_], _ => rfl
  have D_is_id := d3.mk (ps := ["text"]) X G fun _ _ _ _ _ _ us hl => match us, hl with | [_], _ => rfl
  have D_is_label := d4.mk (ps := ["text"]) X G fun _ _ _ _ _ _ us hl => match us, hl with | [_], _ => rfl
  have D_is_name := d5.mk (ps := ["text"]) X G fun _ _ _ _ _ _ us hl => match us, hl with | [_], _ => rfl
  have D_read_number := d6.mk (ps := ["word"]) X G fun _ _ _ _ _ _ us hl => match us, hl with | [_], _ => rfl
  have D_read_id := d7.mk (ps := ["word"]) X G fun _ _ _ _ _ _ us hl => match us, hl with | [_], _ => rfl
  have D_read_name := d8.mk (ps := ["word"]) X G fun _ _ _ _ _ _ us hl => match us, hl with | [_], _ => rfl
  have D_read_ids := d9.mk (ps := ["word"]) X G fun _ _ _ _ _ _ us hl => match us, hl with | [_], _ => rfl
  have D_read_slot := d10.mk (ps := ["words"]) X G fun _ _ _ _ _ _ us hl => match us, hl with | [_], _ => rfl
  have D_split_slot := d11.mk (ps := ["words"]) X G fun _ _ _ _ _ _ us hl => match us, hl with | [_], _ => rfl
  have D_read_hosts_item := d12.mk (ps := ["words"]) X G fun _ _ _ _ _ _ us hl => match us, hl with | [_], _ => rfl
  have D_read_sealed_item := d13.mk (ps := ["words"]) X G fun _ _ _ _ _ _ us hl => match us, hl with | [_], _ => rfl
  have D_read_placed := d14.mk (ps := ["words"]) X G fun _ _ _ _ _ _ us hl => match us, hl with | [_], _ => rfl
  have D_read_deed := d15.mk (ps := ["words"]) X G fun _ _ _ _ _ _ us hl => match us, hl with | [_], _ => rfl
  have D_read_step := d16.mk (ps := ["words"]) X G fun _ _ _ _ _ _ us hl => match us, hl with | [_], _ => rfl
  have D_read_case_line := d17.mk (ps := ["words"]) X G fun _ _ _ _ _ _ us hl => match us, hl with | [_], _ => rfl
  have D_split_lines := d18.mk (ps := ["text"]) X G fun _ _ _ _ _ _ us hl => match us, hl with | [_], _ => rfl
  have D_read_line := d19.mk (ps := ["read", "words", "at"]) X G fun _ _ _ _ _ _ us hl => match us, hl with | [_, _, _], _ => rfl
  have D_read_lines := d20.mk (ps := ["read", "text"]) X G fun _ _ _ _ _ _ us hl => match us, hl with | [_, _], _ => rfl
  have D_read_groups := d21.mk (ps := ["text"]) X G fun _ _ _ _ _ _ us hl => match us, hl with | [_], _ => rfl
  have D_read_case := d22.mk (ps := ["text"]) X G fun _ _ _ _ _ _ us hl => match us, hl with | [_], _ => rfl
  have D_read_plan := d23.mk (ps := ["text"]) X G fun _ _ _ _ _ _ us hl => match us, hl with | [_], _ => rfl
  have D_ids_text := d24.mk (ps := ["ids"]) X G fun _ _ _ _ _ _ us hl => match us, hl with | [_], _ => rfl
  have D_item_text := d25.mk (ps := ["slot", "item"]) X G fun _ _ _ _ _ _ us hl => match us, hl with | [_, _], _ => rfl
  have D_placed_text := d26.mk (ps := ["slot", "item"]) X G fun _ _ _ _ _ _ us hl => match us, hl with | [_, _], _ => rfl
  have D_deed_text := d27.mk (ps := ["deed"]) X G fun _ _ _ _ _ _ us hl => match us, hl with | [_], _ => rfl
  have D_realm_lines := d28.mk (ps := ["realm"]) X G fun _ _ _ _ _ _ us hl => match us, hl with | [_], _ => rfl
  have D_state_lines := d29.mk (ps := ["state"]) X G fun _ _ _ _ _ _ us hl => match us, hl with | [_], _ => rfl
  have D_deed_lines := d30.mk (ps := ["deeds", "bounds"]) X G fun _ _ _ _ _ _ us hl => match us, hl with | [_, _], _ => rfl
  have D_case_text := d31.mk (ps := ["case"]) X G fun _ _ _ _ _ _ us hl => match us, hl with | [_], _ => rfl
  have D_plan_text := d32.mk (ps := ["plan"]) X G fun _ _ _ _ _ _ us hl => match us, hl with | [_], _ => rfl
  have D_law_mix := d33.mk (ps := ["number"]) X G fun _ _ _ _ _ _ us hl => match us, hl with | [_], _ => rfl
  have D_law_tape := d34.mk (ps := ["script", "budget"]) X G fun _ _ _ _ _ _ us hl => match us, hl with | [_, _], _ => rfl
  have D_law_take := d35.mk (ps := ["tape", "many"]) X G fun _ _ _ _ _ _ us hl => match us, hl with | [_, _], _ => rfl
  have D_law_id := d36.mk (ps := ["tape"]) X G fun _ _ _ _ _ _ us hl => match us, hl with | [_], _ => rfl
  have D_law_label := d37.mk (ps := ["tape"]) X G fun _ _ _ _ _ _ us hl => match us, hl with | [_], _ => rfl
  have D_law_number := d38.mk (ps := ["tape"]) X G fun _ _ _ _ _ _ us hl => match us, hl with | [_], _ => rfl
  have D_law_name := d39.mk (ps := ["tape"]) X G fun _ _ _ _ _ _ us hl => match us, hl with | [_], _ => rfl
  have D_law_some := d40.mk (ps := ["tape", "most"]) X G fun _ _ _ _ _ _ us hl => match us, hl with | [_, _], _ => rfl
  have D_law_slot := d41.mk (ps := ["tape"]) X G fun _ _ _ _ _ _ us hl => match us, hl with | [_], _ => rfl
  have D_law_item_of := d42.mk (ps := ["tape", "slot"]) X G fun _ _ _ _ _ _ us hl => match us, hl with | [_, _], _ => rfl
  have D_law_one := d43.mk (ps := ["tape"]) X G fun _ _ _ _ _ _ us hl => match us, hl with | [_], _ => rfl
  have D_law_ids_text := d44.mk (ps := ["ids"]) X G fun _ _ _ _ _ _ us hl => match us, hl with | [_], _ => rfl
  have D_law_entry_text := d45.mk (ps := ["slot", "item"]) X G fun _ _ _ _ _ _ us hl => match us, hl with | [_, _], _ => rfl
  have D_law_deed_text := d46.mk (ps := ["deed"]) X G fun _ _ _ _ _ _ us hl => match us, hl with | [_], _ => rfl
  have D_law_case := d47.mk (ps := ["tape"]) X G fun _ _ _ _ _ _ us hl => match us, hl with | [_], _ => rfl
  have D_law_lines := d48.mk (ps := ["case"]) X G fun _ _ _ _ _ _ us hl => match us, hl with | [_], _ => rfl
  refine ⟨PySem.W.fnOf "law" "law" (defArgs s_law) (defBody s_law) (defScope s_law) .none kV doc pm an cdv ct, [], spLaw [] K, fun p hp => ?_, fun p hp => ?_, fun p hp => ?_, fun s u => .of_eq rfl, fun H a ns hl _ hT hS => ?_, fun base _ _ hTB => ?_⟩
  · cases hp
  · cases hp
  · cases hp
  · exact ⟨a, ns, rfl, hS, hl, fun _ => rfl⟩
  · have O_law_mix := ok_law_mix (P := l.prog) (w := w) (base := base) (D := D_law_mix) (mb := mb)
    have O_law_tape := ok_law_tape (P := l.prog) (w := w) (base := base) (T := []) (D := D_law_tape) (mb := mb)
    have O_law_take := ok_law_take (P := l.prog) (w := w) (base := base) (T := []) (D := D_law_take) (mb := mb) (G_law_mix := O_law_mix)
    have O_is_word := ok_is_word (P := l.prog) (w := w) (base := base) (T := []) (D := D_is_word) (mb := mb)
    have O_is_id := ok_is_id (P := l.prog) (w := w) (base := base) (T := []) (D := D_is_id) (M := M) (G_is_word := O_is_word)
    have O_is_label := ok_is_label (P := l.prog) (w := w) (base := base) (T := []) (D := D_is_label) (M := M) (G_is_word := O_is_word)
    have O_is_name := ok_is_name (P := l.prog) (w := w) (base := base) (T := []) (D := D_is_name) (mb := mb) (M := M) (G_is_label := O_is_label)
    have O_is_number := ok_is_number (P := l.prog) (w := w) (base := base) (T := []) (D := D_is_number) (mb := mb) (M := M) (G_is_word := O_is_word)
    have O_read_number := ok_read_number (P := l.prog) (w := w) (base := base) (T := []) (D := D_read_number) (mb := mb) (G_is_number := O_is_number)
    have O_read_id := ok_read_id (P := l.prog) (w := w) (base := base) (T := []) (D := D_read_id) (mb := mb) (G_is_id := O_is_id)
    have O_read_name := ok_read_name (P := l.prog) (w := w) (base := base) (T := []) (D := D_read_name) (mb := mb) (G_is_name := O_is_name)
    have O_read_ids := ok_read_ids (P := l.prog) (w := w) (base := base) (T := []) (D := D_read_ids) (mb := mb) (G_read_id := O_read_id)
    have O_read_slot := ok_read_slot (P := l.prog) (w := w) (base := base) (T := []) (D := D_read_slot) (mb := mb) (G_read_name := O_read_name) (G_read_id := O_read_id)
    have O_split_slot := ok_split_slot (P := l.prog) (w := w) (base := base) (T := []) (D := D_split_slot) (G_read_slot := O_read_slot)
    have O_read_hosts_item := ok_read_hosts_item (P := l.prog) (w := w) (base := base) (T := []) (D := D_read_hosts_item) (M := M) (G_read_ids := O_read_ids) (G_read_number := O_read_number)
    have O_read_sealed_item := ok_read_sealed_item (P := l.prog) (w := w) (base := base) (T := []) (D := D_read_sealed_item) (mb := mb) (G_read_ids := O_read_ids) (G_read_number := O_read_number)
    have O_read_placed := ok_read_placed (P := l.prog) (w := w) (base := base) (T := []) (D := D_read_placed) (mb := mb) (G_split_slot := O_split_slot) (G_read_hosts_item := O_read_hosts_item) (G_read_sealed_item := O_read_sealed_item)
    have O_read_deed := ok_read_deed (P := l.prog) (w := w) (base := base) (T := []) (D := D_read_deed) (mb := mb) (G_read_placed := O_read_placed) (G_read_id := O_read_id) (G_read_name := O_read_name)
    have O_read_step := ok_read_step (P := l.prog) (w := w) (base := base) (T := []) (D := D_read_step) (mb := mb) (G_read_number := O_read_number) (G_read_deed := O_read_deed)
    have O_read_case_line := ok_read_case_line (P := l.prog) (w := w) (base := base) (T := []) (D := D_read_case_line) (mb := mb) (M := M) (G_read_name := O_read_name) (G_read_number := O_read_number) (G_read_id := O_read_id) (G_read_deed := O_read_deed) (G_read_placed := O_read_placed)
    have O_split_lines := ok_split_lines (P := l.prog) (w := w) (base := base) (T := []) (D := D_split_lines) (mb := mb)
    obtain ⟨fs, ms, As⟩ := held_one O_read_step
    obtain ⟨fc, mc, Ac⟩ := held_one O_read_case_line
    have O_line_s := ok_read_line (P := l.prog) (w := w) (base := base) (S := oneS fs (spRStep [])) (D := D_read_line) (A_read := As)
    have O_line_c := ok_read_line (P := l.prog) (w := w) (base := base) (S := oneS fc (spRCase [])) (D := D_read_line) (A_read := Ac)
    have O_lines_s := ok_read_lines (P := l.prog) (w := w) (base := base) (T := []) (S := oneS fs (spRStep [])) (D := D_read_lines) (mb := mb) (G_split_lines := O_split_lines) (G_read_line := O_line_s)
    have O_read_plan := ok_read_plan (P := l.prog) (w := w) (base := base) (T := []) (fs := fs) (D := D_read_plan) (m_read_step := ms) (G_read_lines := O_lines_s)
    have O_read_groups := ok_read_groups (P := l.prog) (w := w) (base := base) (T := []) (fc := fc) (D := D_read_groups) (mb := mb) (M := M) (m_read_case_line := mc) (G_split_lines := O_split_lines) (G_read_line := O_line_c)
    have O_read_case := ok_read_case (P := l.prog) (w := w) (base := base) (T := []) (D := D_read_case) (mb := mb) (M := M) (G_read_groups := O_read_groups)
    have O_ids_text := ok_ids_text (P := l.prog) (w := w) (base := base) (D := D_ids_text)
    have O_item_text := ok_item_text (P := l.prog) (w := w) (base := base) (D := D_item_text) (G_ids_text := O_ids_text)
    have O_placed_text := ok_placed_text (P := l.prog) (w := w) (base := base) (D := D_placed_text) (G_item_text := O_item_text)
    have O_deed_text := ok_deed_text (P := l.prog) (w := w) (base := base) (D := D_deed_text) (G_placed_text := O_placed_text)
    have O_realm_lines := ok_realm_lines (P := l.prog) (w := w) (base := base) (T := []) (D := D_realm_lines) (mb := mb)
    have O_state_lines := ok_state_lines (P := l.prog) (w := w) (base := base) (T := []) (D := D_state_lines) (mb := mb) (G_placed_text := O_placed_text)
    have O_deed_lines := ok_deed_lines (P := l.prog) (w := w) (base := base) (T := []) (D := D_deed_lines) (mb := mb) (G_deed_text := O_deed_text)
    have O_case_text := ok_case_text (P := l.prog) (w := w) (base := base) (T := []) (D := D_case_text) (mb := mb) (G_realm_lines := O_realm_lines) (G_state_lines := O_state_lines) (G_deed_lines := O_deed_lines)
    have O_plan_text := ok_plan_text (P := l.prog) (w := w) (base := base) (T := []) (D := D_plan_text) (G_deed_text := O_deed_text)
    have O_law_id := ok_law_id (P := l.prog) (w := w) (base := base) (T := []) (D := D_law_id) (mb := mb) (G_law_take := O_law_take)
    have O_law_label := ok_law_label (P := l.prog) (w := w) (base := base) (T := []) (D := D_law_label) (mb := mb) (G_law_take := O_law_take) (G_law_id := O_law_id)
    have O_law_number := ok_law_number (P := l.prog) (w := w) (base := base) (T := []) (D := D_law_number) (G_law_take := O_law_take)
    have O_law_name := ok_law_name (P := l.prog) (w := w) (base := base) (T := []) (D := D_law_name) (mb := mb) (G_law_take := O_law_take) (G_law_label := O_law_label)
    have O_law_some := ok_law_some (P := l.prog) (w := w) (base := base) (T := []) (D := D_law_some) (mb := mb) (G_law_take := O_law_take) (G_law_id := O_law_id)
    have O_law_slot := ok_law_slot (P := l.prog) (w := w) (base := base) (T := []) (D := D_law_slot) (mb := mb) (G_law_take := O_law_take) (G_law_name := O_law_name) (G_law_id := O_law_id)
    have O_law_item_of := ok_law_item_of (P := l.prog) (w := w) (base := base) (T := []) (D := D_law_item_of) (G_law_some := O_law_some) (G_law_number := O_law_number)
    have O_law_one := ok_law_one (P := l.prog) (w := w) (base := base) (T := []) (D := D_law_one) (G_law_take := O_law_take) (G_law_id := O_law_id) (G_law_name := O_law_name) (G_law_slot := O_law_slot) (G_law_item_of := O_law_item_of)
    have O_law_ids_text := ok_law_ids_text (P := l.prog) (w := w) (base := base) (D := D_law_ids_text)
    have O_law_entry_text := ok_law_entry_text (P := l.prog) (w := w) (base := base) (D := D_law_entry_text) (mb := mb) (G_law_ids_text := O_law_ids_text)
    have O_law_deed_text := ok_law_deed_text (P := l.prog) (w := w) (base := base) (D := D_law_deed_text) (G_law_entry_text := O_law_entry_text)
    have O_law_case := ok_law_case (P := l.prog) (w := w) (base := base) (T := []) (D := D_law_case) (mb := mb) (G_law_take := O_law_take) (G_law_id := O_law_id) (G_law_name := O_law_name) (G_law_number := O_law_number) (G_law_some := O_law_some) (G_law_slot := O_law_slot) (G_law_item_of := O_law_item_of) (G_law_one := O_law_one)
    have O_law_lines := ok_law_lines (P := l.prog) (w := w) (base := base) (T := []) (D := D_law_lines) (mb := mb) (G_law_entry_text := O_law_entry_text) (G_law_deed_text := O_law_deed_text)
    exact ok_law F_law mb O_law_tape O_law_take O_law_number O_law_case O_law_lines O_law_one O_law_deed_text O_case_text O_read_case O_plan_text O_read_plan

end NK
open PySem PySem.W PyProof.Rows
set_option maxHeartbeats 0 in
theorem PySem.Challenge.cw_neverdark_k01_texts_of_cases_holds : PySem.Challenge.rw_neverdark_k01_texts_of_cases.Holds := by
  w_on; o_law; k_head; (case hw => w_witness2)
  k_fill
  refine LamX.walk_ofTs (l := PySem.Challenge.rw_neverdark_k01_texts_of_cases) (n := 63) (k := 13) (x := "script") (CX := fun _ => L2.CX0) rfl (by decide) rfl ⟨rfl, by decide, by decide⟩ (fun w h Y => Y) ?F (fun _ _ _ _ _ h => h)
  case F =>
    intro w mg fa h Y KX G hmg
    refine' NK.all_mk KX G hmg ?d1 ?d2 ?d3 ?d4 ?d5 ?d6 ?d7 ?d8 ?d9 ?d10 ?d11 ?d12 ?d13 ?d14 ?d15 ?d16 ?d17 ?d18 ?d19 ?d20 ?d21 ?d22 ?d23 ?d24 ?d25 ?d26 ?d27 ?d28 ?d29 ?d30 ?d31 ?d32 ?d33 ?d34 ?d35 ?d36 ?d37 ?d38 ?d39 ?d40 ?d41 ?d42 ?d43 ?d44 ?d45 ?d46 ?d47 ?d48 ?d49 ?mb ?c1 ?c2 ?c3 ?c4 ?c5 ?c6 ?c7 ?c8 ?c9 ?c10 ?c11 ?c12 ?c13 ?c14 ?c15 ?c16
    case d1 => (refine' NK.DefIn.of ?x1 ?x2 ?x3 ?x4; (case x1 => k_is); (case x2 => k_is); (case x3 => k_is); (case x4 => k_is))
    case d2 => (refine' NK.DefIn.of ?x1 ?x2 ?x3 ?x4; (case x1 => k_is); (case x2 => k_is); (case x3 => k_is); (case x4 => k_is))
    case d3 => (refine' NK.DefIn.of ?x1 ?x2 ?x3 ?x4; (case x1 => k_is); (case x2 => k_is); (case x3 => k_is); (case x4 => k_is))
    case d4 => (refine' NK.DefIn.of ?x1 ?x2 ?x3 ?x4; (case x1 => k_is); (case x2 => k_is); (case x3 => k_is); (case x4 => k_is))
    case d5 => (refine' NK.DefIn.of ?x1 ?x2 ?x3 ?x4; (case x1 => k_is); (case x2 => k_is); (case x3 => k_is); (case x4 => k_is))
    case d6 => (refine' NK.DefIn.of ?x1 ?x2 ?x3 ?x4; (case x1 => k_is); (case x2 => k_is); (case x3 => k_is); (case x4 => k_is))
    case d7 => (refine' NK.DefIn.of ?x1 ?x2 ?x3 ?x4; (case x1 => k_is); (case x2 => k_is); (case x3 => k_is); (case x4 => k_is))
    case d8 => (refine' NK.DefIn.of ?x1 ?x2 ?x3 ?x4; (case x1 => k_is); (case x2 => k_is); (case x3 => k_is); (case x4 => k_is))
    case d9 => (refine' NK.DefIn.of ?x1 ?x2 ?x3 ?x4; (case x1 => k_is); (case x2 => k_is); (case x3 => k_is); (case x4 => k_is))
    case d10 => (refine' NK.DefIn.of ?x1 ?x2 ?x3 ?x4; (case x1 => k_is); (case x2 => k_is); (case x3 => k_is); (case x4 => k_is))
    case d11 => (refine' NK.DefIn.of ?x1 ?x2 ?x3 ?x4; (case x1 => k_is); (case x2 => k_is); (case x3 => k_is); (case x4 => k_is))
    case d12 => (refine' NK.DefIn.of ?x1 ?x2 ?x3 ?x4; (case x1 => k_is); (case x2 => k_is); (case x3 => k_is); (case x4 => k_is))
    case d13 => (refine' NK.DefIn.of ?x1 ?x2 ?x3 ?x4; (case x1 => k_is); (case x2 => k_is); (case x3 => k_is); (case x4 => k_is))
    case d14 => (refine' NK.DefIn.of ?x1 ?x2 ?x3 ?x4; (case x1 => k_is); (case x2 => k_is); (case x3 => k_is); (case x4 => k_is))
    case d15 => (refine' NK.DefIn.of ?x1 ?x2 ?x3 ?x4; (case x1 => k_is); (case x2 => k_is); (case x3 => k_is); (case x4 => k_is))
    case d16 => (refine' NK.DefIn.of ?x1 ?x2 ?x3 ?x4; (case x1 => k_is); (case x2 => k_is); (case x3 => k_is); (case x4 => k_is))
    case d17 => (refine' NK.DefIn.of ?x1 ?x2 ?x3 ?x4; (case x1 => k_is); (case x2 => k_is); (case x3 => k_is); (case x4 => k_is))
    case d18 => (refine' NK.DefIn.of ?x1 ?x2 ?x3 ?x4; (case x1 => k_is); (case x2 => k_is); (case x3 => k_is); (case x4 => k_is))
    case d19 => (refine' NK.DefIn.of ?x1 ?x2 ?x3 ?x4; (case x1 => k_is); (case x2 => k_is); (case x3 => k_is); (case x4 => k_is))
    case d20 => (refine' NK.DefIn.of ?x1 ?x2 ?x3 ?x4; (case x1 => k_is); (case x2 => k_is); (case x3 => k_is); (case x4 => k_is))
    case d21 => (refine' NK.DefIn.of ?x1 ?x2 ?x3 ?x4; (case x1 => k_is); (case x2 => k_is); (case x3 => k_is); (case x4 => k_is))
    case d22 => (refine' NK.DefIn.of ?x1 ?x2 ?x3 ?x4; (case x1 => k_is); (case x2 => k_is); (case x3 => k_is); (case x4 => k_is))
    case d23 => (refine' NK.DefIn.of ?x1 ?x2 ?x3 ?x4; (case x1 => k_is); (case x2 => k_is); (case x3 => k_is); (case x4 => k_is))
    case d24 => (refine' NK.DefIn.of ?x1 ?x2 ?x3 ?x4; (case x1 => k_is); (case x2 => k_is); (case x3 => k_is); (case x4 => k_is))
    case d25 => (refine' NK.DefIn.of ?x1 ?x2 ?x3 ?x4; (case x1 => k_is); (case x2 => k_is); (case x3 => k_is); (case x4 => k_is))
    case d26 => (refine' NK.DefIn.of ?x1 ?x2 ?x3 ?x4; (case x1 => k_is); (case x2 => k_is); (case x3 => k_is); (case x4 => k_is))
    case d27 => (refine' NK.DefIn.of ?x1 ?x2 ?x3 ?x4; (case x1 => k_is); (case x2 => k_is); (case x3 => k_is); (case x4 => k_is))
    case d28 => (refine' NK.DefIn.of ?x1 ?x2 ?x3 ?x4; (case x1 => k_is); (case x2 => k_is); (case x3 => k_is); (case x4 => k_is))
    case d29 => (refine' NK.DefIn.of ?x1 ?x2 ?x3 ?x4; (case x1 => k_is); (case x2 => k_is); (case x3 => k_is); (case x4 => k_is))
    case d30 => (refine' NK.DefIn.of ?x1 ?x2 ?x3 ?x4; (case x1 => k_is); (case x2 => k_is); (case x3 => k_is); (case x4 => k_is))
    case d31 => (refine' NK.DefIn.of ?x1 ?x2 ?x3 ?x4; (case x1 => k_is); (case x2 => k_is); (case x3 => k_is); (case x4 => k_is))
    case d32 => (refine' NK.DefIn.of ?x1 ?x2 ?x3 ?x4; (case x1 => k_is); (case x2 => k_is); (case x3 => k_is); (case x4 => k_is))
    case d33 => (refine' NK.DefIn.of ?x1 ?x2 ?x3 ?x4; (case x1 => k_is); (case x2 => k_is); (case x3 => k_is); (case x4 => k_is))
    case d34 => (refine' NK.DefIn.of ?x1 ?x2 ?x3 ?x4; (case x1 => k_is); (case x2 => k_is); (case x3 => k_is); (case x4 => k_is))
    case d35 => (refine' NK.DefIn.of ?x1 ?x2 ?x3 ?x4; (case x1 => k_is); (case x2 => k_is); (case x3 => k_is); (case x4 => k_is))
    case d36 => (refine' NK.DefIn.of ?x1 ?x2 ?x3 ?x4; (case x1 => k_is); (case x2 => k_is); (case x3 => k_is); (case x4 => k_is))
    case d37 => (refine' NK.DefIn.of ?x1 ?x2 ?x3 ?x4; (case x1 => k_is); (case x2 => k_is); (case x3 => k_is); (case x4 => k_is))
    case d38 => (refine' NK.DefIn.of ?x1 ?x2 ?x3 ?x4; (case x1 => k_is); (case x2 => k_is); (case x3 => k_is); (case x4 => k_is))
    case d39 => (refine' NK.DefIn.of ?x1 ?x2 ?x3 ?x4; (case x1 => k_is); (case x2 => k_is); (case x3 => k_is); (case x4 => k_is))
    case d40 => (refine' NK.DefIn.of ?x1 ?x2 ?x3 ?x4; (case x1 => k_is); (case x2 => k_is); (case x3 => k_is); (case x4 => k_is))
    case d41 => (refine' NK.DefIn.of ?x1 ?x2 ?x3 ?x4; (case x1 => k_is); (case x2 => k_is); (case x3 => k_is); (case x4 => k_is))
    case d42 => (refine' NK.DefIn.of ?x1 ?x2 ?x3 ?x4; (case x1 => k_is); (case x2 => k_is); (case x3 => k_is); (case x4 => k_is))
    case d43 => (refine' NK.DefIn.of ?x1 ?x2 ?x3 ?x4; (case x1 => k_is); (case x2 => k_is); (case x3 => k_is); (case x4 => k_is))
    case d44 => (refine' NK.DefIn.of ?x1 ?x2 ?x3 ?x4; (case x1 => k_is); (case x2 => k_is); (case x3 => k_is); (case x4 => k_is))
    case d45 => (refine' NK.DefIn.of ?x1 ?x2 ?x3 ?x4; (case x1 => k_is); (case x2 => k_is); (case x3 => k_is); (case x4 => k_is))
    case d46 => (refine' NK.DefIn.of ?x1 ?x2 ?x3 ?x4; (case x1 => k_is); (case x2 => k_is); (case x3 => k_is); (case x4 => k_is))
    case d47 => (refine' NK.DefIn.of ?x1 ?x2 ?x3 ?x4; (case x1 => k_is); (case x2 => k_is); (case x3 => k_is); (case x4 => k_is))
    case d48 => (refine' NK.DefIn.of ?x1 ?x2 ?x3 ?x4; (case x1 => k_is); (case x2 => k_is); (case x3 => k_is); (case x4 => k_is))
    case d49 => (refine' NK.DefIn.of ?x1 ?x2 ?x3 ?x4; (case x1 => k_is); (case x2 => k_is); (case x3 => k_is); (case x4 => k_is))
    case mb =>
      intro x hx
      rcases List.mem_cons.mp hx with e | hx
      · rw [e]; k_is
      rcases List.mem_cons.mp hx with e | hx
      · rw [e]; k_is
      rcases List.mem_cons.mp hx with e | hx
      · rw [e]; k_is
      rcases List.mem_cons.mp hx with e | hx
      · rw [e]; k_is
      rcases List.mem_cons.mp hx with e | hx
      · rw [e]; k_is
      rcases List.mem_cons.mp hx with e | hx
      · rw [e]; k_is
      rcases List.mem_cons.mp hx with e | hx
      · rw [e]; k_is
      rcases List.mem_cons.mp hx with e | hx
      · rw [e]; k_is
      rcases List.mem_cons.mp hx with e | hx
      · rw [e]; k_is
      rcases List.mem_cons.mp hx with e | hx
      · rw [e]; k_is
      rcases List.mem_cons.mp hx with e | hx
      · rw [e]; k_is
      rcases List.mem_cons.mp hx with e | hx
      · rw [e]; k_is
      rcases List.mem_cons.mp hx with e | hx
      · rw [e]; k_is
      rcases List.mem_cons.mp hx with e | hx
      · rw [e]; k_is
      cases hx
    case c1 => refine' NK.cstS_of ?x; (case x => k_is)
    case c2 => refine' NK.cstS_of ?x; (case x => k_is)
    case c3 => refine' NK.cstI_of ?x; (case x => k_is)
    case c4 => refine' NK.cstI_of ?x; (case x => k_is)
    case c5 => refine' NK.cstI_of ?x; (case x => k_is)
    case c6 => refine' NK.cstI_of ?x; (case x => k_is)
    case c7 => refine' NK.cstI_of ?x; (case x => k_is)
    case c8 => refine' NK.cstI_of ?x; (case x => k_is)
    case c9 => refine' NK.cstI_of ?x; (case x => k_is)
    case c10 => refine' NK.cstI_of ?x; (case x => k_is)
    case c11 => refine' NK.cstI_of ?x; (case x => k_is)
    case c12 => refine' NK.cstI_of ?x; (case x => k_is)
    case c13 => refine' NK.cstI_of ?x; (case x => k_is)
    case c14 => refine' NK.cstI_of ?x; (case x => k_is)
    case c15 => refine' NK.cstI_of ?x; (case x => k_is)
    case c16 => refine' NK.cstI_of ?x; (case x => k_is)

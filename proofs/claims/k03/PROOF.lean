import PyProof.Rows.All
import Wide.All
import OpenK.AllK
import Wide.FinOn
import PySem.Challenge.RW_neverdark_k03_first_wrong_line
import HandS.ForMost
import HandS.Walk
import HandS.IsInst
import HandS.Style
import HandS.FStr
import HandS.WideBits
import HandS.Deep
import HandS.Steps
import HandS.Lambda
import HandS.EndTab
import KE.SortKeyHeap
import KE.DatumOrd
import HandS.ForExc
import HandS.ExcIs
import HandS.ExcField
import HandS.ExcSuper
import KE.KExcSuper
import KE.KDictPairs
import KE.KDictCopyH
import PyProof.P3In
import HandS.NoneIn
import HandS.Star
import HandS.List
import KE.DataMinMax
import HandS.Flow
import HandS.Iter
import HandS.Zip
import HandS.DictTup
import KE.GoesEnumKw
import KE.GoesMore
import KE.SortData
import HandS.Codes
import KE.KUnpackStar
import HandS.CallLocal
import HandS.RaiseFrom
import HandS.SuiteRaise
import HandS.ExcCtx
import HandS.ReplaceLit
import KE.RegKSuper
set_option Elab.async false
set_option linter.all false
set_option maxRecDepth 100000
set_option maxHeartbeats 4000000
namespace NK
open PySem PySem.Spec PyProof.Rows L2
/-! ### a def of the text that keeps a promise, found by its name -/
def Ok (P : Program) (w : World) (K : PySem.W.Frag) (mg : Str → Option Value) (base : Heap) (k : Nat) (x : Str) (ps : List Str) (sp : Sp) : Prop :=
  ∃ (f : Addr) (fd : FuncData), FnOk P w K mg base CX0 k f fd ps sp ∧ mg x = some (.ref f) ∧ PySem.W.keepIn K (.ref f) = true ∧ Binds K fd ps []
def Def (K : PySem.W.Frag) (mg : Str → Option Value) (x : Str) (st : Stmt) (ps : List Str) : Prop :=
  ∃ (f : Addr) (fd : FuncData), Fun K x x st f fd ∧ mg x = some (.ref f) ∧ Binds K fd ps []
section
variable {P : Program} {w : World} {K : PySem.W.Frag} {mg : Str → Option Value} {base : Heap}
theorem Def.ok {x : Str} {st : Stmt} {N ps : List Str} {k : Nat} {sp : Sp} (D : Def K mg x st ps) (S : FnScope N ps (defScope st)) (len : ∀ vs H Q E, sp vs H Q E → vs.length = ps.length)
    (hbody : ∀ (cdv : Value) (f : Addr) (A : Around) (outer : List Env) (s : Shared) (H : Hp) (vs : List V) (Q : VK) (E : XK), Room k (A.deeper (envOfC x (defScope st) s.heap.objs.size f cdv)) → sp vs H Q E →
      ∃ t, PSs (cxOf CX0 P w K mg base N x (defScope st) f cdv A outer s H E).nox (defBody st) t ∧ t { nx := fun _ H' => Q .non H', rt := Q } (start N vs) H) : Ok P w K mg base (k + 1) x ps sp := by
  obtain ⟨f, fd, F, hm, hb⟩ := D
  exact ⟨f, fd, F.ok S len fun cdv A outer s H vs Q E hr h => hbody cdv f A outer s H vs Q E hr h, hm, F.kp, hb⟩
theorem Ok.mono {j k : Nat} {x : Str} {ps : List Str} {sp : Sp} (h : Ok P w K mg base j x ps sp) (hk : j ≤ k) : Ok P w K mg base k x ps sp := by
  obtain ⟨f, fd, F, r⟩ := h
  exact ⟨f, fd, F.mono hk, r⟩
end
section
variable {X : Cx}
theorem pe_callO {x : Str} {p pos : Pos} {e : Expr} {es : List Expr} {t : TA} {k : Nat} {ps : List Str} {sp : Sp} (h : Ok X.prog X.w X.K X.mg X.base k x ps sp) (hr : Room k X.A) (hg : Gl X x) (ha : PA X (e :: es) t)
    (hdb : (x == ("__debug__" : Str)) = false := by decide) (he : starEach (e :: es) X.env = (false, eval e X.env) :: starEach es X.env := by rfl) (hpl : (backTo pos (starEach es X.env)).any (·.1) = false := by rfl) :
    PE X (.Call (.Name x p) (e :: es) [] pos) (tCall sp [] E0 t) := by
  obtain ⟨f, fd, F, hm, hk, hb⟩ := h
  exact pe_call F hr hg hm hk hb .nil pass0 ha hdb he hpl
/-- a module's constant -/
theorem pe_glS {x : Str} {z : Str} {pos : Pos} (hg : Gl X x) (hm : ∃ t, X.mg x = some (.str z t)) (hd : (x == ("__debug__" : Str)) = false := by decide) : PE X (.Name x pos) (tC (.str z)) := by
  obtain ⟨t, hm⟩ := hm
  exact pe_glob hg hm ⟨t, rfl⟩ hd
theorem pe_glI {x : Str} {z : Int} {pos : Pos} (hg : Gl X x) (hm : ∃ t, X.mg x = some (.int z t)) (hd : (x == ("__debug__" : Str)) = false := by decide) : PE X (.Name x pos) (tC (.int z)) := by
  obtain ⟨t, hm⟩ := hm
  exact pe_glob hg hm ⟨t, rfl⟩ hd
/-- the empty tuple ahead of another one -/
def rCatT0 (K : PySem.W.Frag) : R2 := fun x y H Q => ∃ a b ys, x = .ref a ∧ y = .ref b ∧ SqT K H a [] ∧ SqT K H b ys ∧ Q (.ref b) H
theorem op_catT0 {X : Cx} (K : PySem.W.Frag) (hK : X.K = K) : OpR X (binaryOp .Add) (rCatT0 K) := by
  subst hK
  intro pins s σ H x y v u Q I rx ry h
  obtain ⟨a, b, ys, rfl, rfl, ha, hb, q⟩ := h
  cases rx
  cases ry
  obtain ⟨its, rv, ⟨o, ho, hc, n, hd⟩, hz⟩ := I.tuple ha
  obtain ⟨its2, rv2, ⟨o2, ho2, hc2, n2, hd2⟩, hz2⟩ := I.tuple hb
  cases rv
  obtain ⟨c1, d1, k1, s1⟩ := o
  obtain ⟨c2, d2, k2, s2⟩ := o2
  simp only at hc hd hc2 hd2
  subst hc hd hc2 hd2
  have t1 : s.TypeIs (.ref a) "tuple" := ⟨_, ho, rfl⟩
  have t2 : s.TypeIs (.ref b) "tuple" := ⟨_, ho2, rfl⟩
  refine PySem.wpAny_binaryOp_concat (T := "tuple") (id := "tuple.__add__") t1 t2 PySem.noFill_tuple_add PySem.seq_tuple_add ?_
  exact PySem.call_meets PySem.F.slot_tuple_add t1 PySem.F.entry_tuple_add (PySem.F.args_tuple_add_2 _ _) (PyProof.Rows.tuple_addW0 a b #[] its2.toArray n n2 d1 d2 s1 s2 rfl) ⟨ho, ho2, ⟨.ref b, H, I, rfl, q⟩⟩
/-! ### one rule for each sign, whatever its operands are; K is the written part by its name -/
def rPlus (K : PySem.W.Frag) : R2 := fun x y H Q => (rI0 (fun i j => .int (i + j)) x y H Q) ∨ (∃ i j, x = .str i ∧ y = .str j ∧ i.length + j.length ≤ sizeLine ∧ Q (.str (i ++ j)) H) ∨ (rCat x y H Q) ∨ (rCatT K x y H Q) ∨ (rCatT0 K x y H Q)
theorem op_plus (K : PySem.W.Frag) (hK : X.K = K) : OpR X (binaryOp .Add) (rPlus K) := by
  have h0 := op_catT0 (X := X) K hK
  subst hK
  exact op_add.or (op_add_str.or (op_cat.or (op_catT.or h0)))
def rEqU (K : PySem.W.Frag) : R2 := fun x y H Q => rEq x y H Q ∨ rEqD K x y H Q
def rNeU (K : PySem.W.Frag) : R2 := fun x y H Q => rNe x y H Q ∨ rNeD K x y H Q
theorem op_eqU (K : PySem.W.Frag) (hK : X.K = K) (hu : X.A.units + 64 < cLine) : OpR X (compareOp .Eq) (rEqU K) := by
  subst hK
  exact op_eq.or (op_eqD hu)
theorem op_neU (K : PySem.W.Frag) (hK : X.K = K) (hu : X.A.units + 64 < cLine) : OpR X (compareOp .NotEq) (rNeU K) := by
  subst hK
  exact op_ne.or (op_neD hu)
def rInU (K : PySem.W.Frag) : R2 := fun x y H Q => rIn K false x y H Q ∨ rInS x y H Q
def rNinU (K : PySem.W.Frag) : R2 := fun x y H Q => rIn K true x y H Q ∨ rNotInS x y H Q
theorem op_inU (K : PySem.W.Frag) (hK : X.K = K) : OpR X (compareOp .In) (rInU K) := by
  subst hK
  exact op_in_seq.or op_in_sign
theorem op_ninU (K : PySem.W.Frag) (hK : X.K = K) : OpR X (compareOp .NotIn) (rNinU K) := by
  subst hK
  exact op_notIn_seq.or op_notIn_sign
def rIsU : R2 := fun x y H Q => rIsB x y H Q ∨ rIsN x y H Q
def rIsNU : R2 := fun x y H Q => rNotB x y H Q ∨ rNotN x y H Q
theorem op_isU : OpR X (compareOp .Is) rIsU := op_isBl.or op_isN
theorem op_isnotU : OpR X (compareOp .IsNot) rIsNU := op_notBl.or op_notN
theorem ix_U (K : PySem.W.Frag) (hK : X.K = K) : IxR X (rIx K) := by
  subst hK
  exact ix_seq
def rSlU (K : PySem.W.Frag) : V → Option Int → Option Int → Hp → VK → Prop := fun x lo hi H Q => rSlL K x lo hi H Q ∨ rSlS x lo hi H Q ∨ rSlT K x lo hi H Q
theorem sl_U (K : PySem.W.Frag) (hK : X.K = K) : SlR X (rSlU K) := by
  subst hK
  exact sl_list.or (sl_str.or sl_tup)
def rLenU (K : PySem.W.Frag) : List V → Hp → VK → Prop := fun xs H Q => (∃ z, xs = [.str z] ∧ z.length ≤ sizeLine ∧ Q (.int z.length) H) ∨ (∃ p ys, xs = [.ref p] ∧ (SqL K H p ys ∨ SqT K H p ys) ∧ Q (.int ys.length) H)
theorem call_lenU (K : PySem.W.Frag) (hK : X.K = K) : CallR X (.builtin "len") (rLenU K) := by
  subst hK
  exact call_len_str.or call_len_seq
def rInt1 : List V → Hp → VK → Prop := fun xs H Q => (∃ i, xs = [.int i] ∧ Q (.int i) H) ∨ ∃ k, xs = [.bl k] ∧ Q (.int (if k then 1 else 0)) H
theorem call_int1U : CallR X (.type "int") rInt1 := call_int1
def rListOf (K : PySem.W.Frag) : List V → Hp → VK → Prop := fun xs H Q => ∃ p ys, xs = [.ref p] ∧ (SqL K H p ys ∨ SqT K H p ys) ∧ ∀ l, H l = none → Q (.ref l) (upd H l (.lst ys))
theorem call_listU (K : PySem.W.Frag) (hK : X.K = K) : CallR X (.type "list") (rListOf K) := by
  subst hK
  exact call_list_of
def rTupOf (K : PySem.W.Frag) : List V → Hp → VK → Prop := fun xs H Q => ∃ p ys, xs = [.ref p] ∧ ((SqL K H p ys ∧ ∀ l, H l = none → Q (.ref l) (upd H l (.tup ys))) ∨ (SqT K H p ys ∧ Q (.ref p) H))
theorem call_tupU (K : PySem.W.Frag) (hK : X.K = K) : CallR X (.type "tuple") (rTupOf K) := by
  subst hK
  exact call_tuple_of
theorem call_allU (K : PySem.W.Frag) (hK : X.K = K) (hc : X.calm = true) : CallR X (.builtin "all") (rAll K) := by
  subst hK
  exact cr_all hc
theorem call_anyU (K : PySem.W.Frag) (hK : X.K = K) (hc : X.calm = true) : CallR X (.builtin "any") (rAny K) := by
  subst hK
  exact cr_any hc
theorem call_isiU (K : PySem.W.Frag) (hK : X.K = K) : CallR X (.builtin "isinstance") (rIsi K) := by
  subst hK
  exact call_isi
def rSplit : V → List V → Hp → VK → Prop := fun x xs H Q => ∃ a b, x = .str a ∧ xs = [.str b] ∧ (b.length == 0) = false ∧ a.length + 2 ≤ sizeLine ∧ rNewStrs (Txt.split a b) H Q
def rJoin (K : PySem.W.Frag) : V → List V → Hp → VK → Prop := fun x xs H Q => ∃ a p, ∃ ys : List Str, x = .str a ∧ xs = [.ref p] ∧ (SqL K H p (ys.map V.str) ∨ SqT K H p (ys.map V.str)) ∧ (ys.map (·.length)).sum + ys.length * a.length ≤ 16777216 ∧ Q (.str (Txt.join a ys)) H
def rEndsW : V → List V → Hp → VK → Prop := fun x xs H Q => ∃ a b, x = .str a ∧ xs = [.str b] ∧ Q (.bl (Txt.endswith a b)) H
theorem mt_splitU : MtR X "str.split" rSplit := mt_split
theorem mt_endsU : MtR X "str.endswith" rEndsW := mt_endswith
theorem mt_joinU (K : PySem.W.Frag) (hK : X.K = K) : MtR X "str.join" (rJoin K) := by
  subst hK
  exact mt_join
theorem pt_E {e : Expr} {t : TE} (h : PE X e t) (he : ∀ whole, isTrue e X.env whole = (do let v ← whole; standAt e.pos; holding [v] (truthy v)) := by intro _; rfl) : PT X e (tB t) := pt_val h he
theorem pe_rev (K : PySem.W.Frag) (hK : X.K = K) {e : Expr} {te : TE} {k : Nat} {p1 p2 p3 pos : Pos} (he : PE X e te) : PE X (.Subscript e (.Slice none none (some (.UnaryOp .USub (.Constant (.int 1) k p1) p2)) p3) pos) (tRevL K te) := by
  subst hK
  exact pe_revL he
end
/-! ### steps of a reading -/
section
variable {K : PySem.W.Frag} {σ : L2.St} {H : Hp} {Q : VK} {te ta tb : TE} {D : Ends} {nx : L2.St → Hp → Prop} {rt : VK} {bk ct : L2.St → Hp → Prop}
theorem rd_var {i : Nat} {v : V} (h : σ[i]? = some (some v)) (q : Q v H) : tVar i σ H Q := ⟨v, h, q⟩
theorem rd_c {v : V} (q : Q v H) : tC v σ H Q := q
theorem rd_op {r : R2} (q : ta σ H fun x H1 => tb σ H1 fun y H2 => r x y H2 Q) : tOp r ta tb σ H Q := q
theorem rd_un {r : V → Hp → VK → Prop} (q : ta σ H fun x H1 => r x H1 Q) : tUn r ta σ H Q := q
theorem rd_i0 {f : Int → Int → V} {i j : Int} (q : Q (f i j) H) : rI0 f (.int i) (.int j) H Q := ⟨i, j, rfl, rfl, q⟩
theorem rd_i {C : Int → Int → Prop} {f : Int → Int → V} {i j : Int} (c : C i j) (q : Q (f i j) H) : rI C f (.int i) (.int j) H Q := ⟨i, j, rfl, rfl, c, q⟩
theorem rd_plusI {i j : Int} (q : Q (.int (i + j)) H) : rPlus K (.int i) (.int j) H Q := .inl ⟨i, j, rfl, rfl, q⟩
theorem rd_plusS {i j : Str} (c : i.length + j.length ≤ sizeLine) (q : Q (.str (i ++ j)) H) : rPlus K (.str i) (.str j) H Q := .inr (.inl ⟨i, j, rfl, rfl, c, q⟩)
theorem rd_uI {f : Int → Int} {i : Int} (q : Q (.int (f i)) H) : rU (fun i => .int (f i)) (.int i) H Q := ⟨i, rfl, q⟩
theorem rd_eqS {x y : V} (h : scal x y = true) (q : Q (.bl (decide (x = y))) H) : rEqU K x y H Q := .inl ⟨h, q⟩
theorem rd_neS {x y : V} (h : scal x y = true) (q : Q (.bl (!decide (x = y))) H) : rNeU K x y H Q := .inl ⟨h, q⟩
theorem rd_ixL {p : Addr} {xs : List V} {i : Int} {v : V} (h : SqL K H p xs) (a : atI xs i = some v) (q : Q v H) : rIx K (.ref p) (.int i) H Q := .inl ⟨p, xs, i, v, rfl, rfl, h, a, q⟩
theorem rd_ixT {p : Addr} {xs : List V} {i : Int} {v : V} (h : SqT K H p xs) (a : atI xs i = some v) (q : Q v H) : rIx K (.ref p) (.int i) H Q := .inr (.inl ⟨p, xs, i, v, rfl, rfl, h, a, q⟩)
theorem rd_B {Q : Bool → Hp → Prop} (q : te σ H fun v H1 => ∃ b, v = .bl b ∧ Q b H1) : tB te σ H Q := q
theorem rd_bl {b : Bool} {Q : Bool → Prop} (q : Q b) : ∃ c, V.bl b = .bl c ∧ Q c := ⟨b, rfl, q⟩
theorem rd_if {c : TT} {t u : TS} (q : c σ H fun b H1 => if b = true then t D σ H1 else u D σ H1) : tIfS c t u D σ H := q
theorem rd_ifE {c : TT} (q : c σ H fun b H1 => if b = true then ta σ H1 Q else tb σ H1 Q) : tIf c ta tb σ H Q := q
theorem rd_seq {t u : TS} (q : t ⟨fun σ H => u ⟨nx, rt, bk, ct⟩ σ H, rt, bk, ct⟩ σ H) : tSeq t u ⟨nx, rt, bk, ct⟩ σ H := q
theorem rd_next (q : nx σ H) : tNext ⟨nx, rt, bk, ct⟩ σ H := q
theorem rd_asg {g : TG} (q : te σ H fun x H1 => g x σ H1 nx) : tAsg te g ⟨nx, rt, bk, ct⟩ σ H := q
theorem rd_name {i : Nat} {v : V} {Q : L2.St → Hp → Prop} (q : Q (σ.set i (some v)) H) : gName i v σ H Q := q
theorem rd_ret (q : te σ H rt) : tRet te ⟨nx, rt, bk, ct⟩ σ H := q
theorem rd_drop (q : te σ H fun _ H1 => nx σ H1) : tDrop te ⟨nx, rt, bk, ct⟩ σ H := q
theorem rd_call {sp : Sp} {E : XK} {t : TA} (q : t σ H fun vs H1 => sp (vs ++ []) H1 Q E) : tCall sp [] E t σ H Q := q
theorem rd_cons {tr : TA} {Q : List V → Hp → Prop} (q : ta σ H fun x H1 => tr σ H1 fun xs H2 => Q (x :: xs) H2) : tCons ta tr σ H Q := q
theorem rd_nil {Q : List V → Hp → Prop} (q : Q [] H) : tNil σ H Q := q
theorem rd_cb {r : List V → Hp → VK → Prop} {t : TA} (q : t σ H fun vs H1 => r vs H1 Q) : tCB r t σ H Q := q
theorem rd_sub {to ti : TE} {t : TSet} {v : V} {Q : L2.St → Hp → Prop} (q : to σ H fun o H1 => ti σ H1 fun i H2 => t o i v H2 fun H3 => Q σ H3) : gSub to ti t v σ H Q := q
theorem rd_not (q : ta σ H fun x H1 => ∃ c, x = .bl c ∧ Q (.bl (!c)) H1) : tNotV ta σ H Q := q
theorem rd_and (q : ta σ H fun x H1 => ∃ c, x = .bl c ∧ if c = true then tb σ H1 Q else Q (.bl false) H1) : tAndV ta tb σ H Q := q
theorem rd_or (q : ta σ H fun x H1 => ∃ c, x = .bl c ∧ if c = true then Q (.bl true) H1 else tb σ H1 Q) : tOrV ta tb σ H Q := q
theorem rd_T {Q : Bool → Hp → Prop} (q : te σ H fun v H1 => ∃ b, v = .bl b ∧ Q b H1) : tTest te σ H Q := q
theorem rd_tnot {t : TT} {Q : Bool → Hp → Prop} (q : t σ H fun c H1 => Q (!c) H1) : tNot t σ H Q := q
theorem rd_tand {t u : TT} {Q : Bool → Hp → Prop} (q : t σ H fun c H1 => if c = true then u σ H1 Q else Q false H1) : tAnd t u σ H Q := q
theorem rd_tor {t u : TT} {Q : Bool → Hp → Prop} (q : t σ H fun c H1 => if c = true then Q true H1 else u σ H1 Q) : tOr t u σ H Q := q
theorem rd_chain {r r' : R2} {tc : TE} (q : ta σ H fun x H1 => tb σ H1 fun y H2 => r x y H2 fun z H3 => ∃ k, z = .bl k ∧ (if k = true then tc σ H3 fun w' H4 => r' y w' H4 Q else Q (.bl false) H3)) : tChain r r' ta tb tc σ H Q := q
theorem rd_ite {p A B : Prop} [Decidable p] (h1 : p → A) (h2 : ¬ p → B) : if decide p = true then A else B := by
  by_cases h : p
  · rw [if_pos (decide_eq_true h)]
    exact h1 h
  · rw [if_neg (by rw [decide_eq_false h]; decide)]
    exact h2 h
theorem rd_itn {p A B : Prop} [Decidable p] (h1 : p → B) (h2 : ¬ p → A) : if (!decide p) = true then A else B := by
  by_cases h : p
  · rw [decide_eq_true h]
    exact h1 h
  · rw [decide_eq_false h]
    exact h2 h
theorem rd_len {z : Str} (h : z.length ≤ sizeLine) (q : Q (.int z.length) H) : rLenU K [.str z] H Q := .inl ⟨z, rfl, h, q⟩
theorem rd_lenL {p : Addr} {ys : List V} (h : SqL K H p ys) (q : Q (.int ys.length) H) : rLenU K [.ref p] H Q := .inr ⟨p, ys, rfl, .inl h, q⟩
theorem rd_int1 {i : Int} (q : Q (.int i) H) : rInt1 [.int i] H Q := .inl ⟨i, rfl, q⟩
theorem rd_listL {p : Addr} {ys : List V} (h : SqL K H p ys) (q : ∀ l, H l = none → Q (.ref l) (upd H l (.lst ys))) : rListOf K [.ref p] H Q := ⟨p, ys, rfl, .inl h, q⟩
theorem rd_tupL {p : Addr} {ys : List V} (h : SqL K H p ys) (q : ∀ l, H l = none → Q (.ref l) (upd H l (.tup ys))) : rTupOf K [.ref p] H Q := ⟨p, ys, rfl, .inl ⟨h, q⟩⟩
theorem rd_m1 {r : V → List V → Hp → VK → Prop} (q : ta σ H fun x H1 => (∃ a, x = .str a) ∧ tb σ H1 fun y H2 => r x [y] H2 Q) : tM1 r ta tb σ H Q := q
theorem rd_split {a b : Str} (hb : (b.length == 0) = false) (ha : a.length + 2 ≤ sizeLine) (q : ∀ p, H p = none → Q (.ref p) (upd H p (.lst ((Txt.split a b).map V.str)))) : rSplit (.str a) [.str b] H Q := ⟨a, b, rfl, rfl, hb, ha, q⟩
theorem rd_ends {a b : Str} (q : Q (.bl (Txt.endswith a b)) H) : rEndsW (.str a) [.str b] H Q := ⟨a, b, rfl, rfl, q⟩
theorem rd_join {a : Str} {p : Addr} {ys : List Str} (h : SqL K H p (ys.map V.str)) (c : (ys.map (·.length)).sum + ys.length * a.length ≤ 16777216) (q : Q (.str (Txt.join a ys)) H) : rJoin K (.str a) [.ref p] H Q := ⟨a, p, ys, rfl, rfl, .inl h, c, q⟩
theorem rd_inS {c : Nat} {z : Str} (q : Q (.bl (decide (c ∈ z.cps.toList))) H) : rInU K (.str ⟨#[c]⟩) (.str z) H Q := .inr ⟨c, z, rfl, rfl, q⟩
theorem rd_ninS {c : Nat} {z : Str} (q : Q (.bl (!decide (c ∈ z.cps.toList))) H) : rNinU K (.str ⟨#[c]⟩) (.str z) H Q := .inr ⟨c, z, rfl, rfl, q⟩
theorem rd_all {a : Addr} {bs : List Bool} (h : SqL K H a (bs.map V.bl)) (q : Q (.bl (bs.all id)) H) : rAll K [.ref a] H Q := ⟨a, bs, rfl, h, q⟩
theorem rd_isStr {z : Str} (q : Q (.bl true) H) : rIsi K [.str z, .ty "str"] H Q := ⟨_, _, _, _, true, rfl, .ty _, .base (.str _), rfl, q⟩
theorem rd_lst {t : TA} (q : t σ H fun xs H1 => xs.length ≤ sizeLine ∧ ∀ p, H1 p = none → Q (.ref p) (upd H1 p (.lst xs))) : tLst t σ H Q := q
theorem rd_tup {t : TA} (q : t σ H fun xs H1 => xs.length ≤ sizeLine ∧ ∀ p, H1 p = none → Q (.ref p) (upd H1 p (.tup xs))) : tTup t σ H Q := q
theorem rd_set {p : Addr} {k : Int} {v : V} {xs : List V} {j : Nat} {Q : Hp → Prop} (h : H p = some (.lst xs)) (a : ixN xs.length k = some j) (q : Q (upd H p (.lst (xs.set j v)))) : rSetL (.ref p) (.int k) v H Q := ⟨p, xs, k, j, rfl, rfl, h, a, q⟩
end
/-! ### what stays: all but the objects of ms, and the tables of code objects -/
open LamX in
structure Ext (T : List (Addr × Str)) (ms : List Addr) (H H' : Hp) : Prop where
  keep : ∀ b o, b ∉ ms → (∀ ps, o ≠ .tbl ps) → H b = some o → H' b = some o
  tabs : LamX.Tabs T H → LamX.Tabs T H'
/-- nothing but a table of code objects stands there -/
def Nw (H : Hp) (p : Addr) : Prop := ∀ o, H p = some o → ∃ ps, o = .tbl ps
theorem Nw.of {H : Hp} {p : Addr} (h : H p = none) : Nw H p := fun o e => by
  rw [h] at e
  cases e
theorem Nw.ne {H : Hp} {p q : Addr} {o : HO} (f : Nw H p) (h : H q = some o) (hn : ∀ ps, o ≠ .tbl ps) : q ≠ p := fun z => by
  rw [z] at h
  obtain ⟨ps, e⟩ := f o h
  exact hn ps e
theorem Nw.lst {H : Hp} {p q : Addr} {xs : List V} (f : Nw H p) (h : H q = some (.lst xs)) : q ≠ p := f.ne h fun _ z => by cases z
theorem Nw.tup {H : Hp} {p q : Addr} {xs : List V} (f : Nw H p) (h : H q = some (.tup xs)) : q ≠ p := f.ne h fun _ z => by cases z
section
variable {T : List (Addr × Str)} {ms : List Addr} {K : PySem.W.Frag} {H H1 H2 : Hp}
theorem Ext.back {p : Addr} (e : Ext T ms H H1) (hp : p ∉ ms) (f : Nw H1 p) : Nw H p := fun o ho => Classical.byContradiction fun n => n (f o (e.keep p o hp (fun ps z => n ⟨ps, z⟩) ho))
theorem Ext.refl : Ext T ms H H := ⟨fun _ _ _ _ h => h, id⟩
theorem Ext.trans (a : Ext T ms H H1) (b : Ext T ms H1 H2) : Ext T ms H H2 := ⟨fun c o hc hn h => b.keep c o hc hn (a.keep c o hc hn h), fun t => b.tabs (a.tabs t)⟩
theorem Ext.same (s : Same H H1) : Ext T ms H H1 := ⟨fun c o _ _ h => s c o h, fun t => t.ext s⟩
theorem Ext.new {p : Addr} {o : HO} (h : H p = none) : Ext T ms H (upd H p o) := .same fun b x e => by
  rw [upd_ne (ne_of_none e h)]
  exact e
theorem Ext.wide {ms' : List Addr} (a : Ext T ms H H1) (h : ∀ b, b ∈ ms → b ∈ ms') : Ext T ms' H H1 := ⟨fun c o hc hn => a.keep c o (fun z => hc (h c z)) hn, a.tabs⟩
theorem Ext.any (a : Ext T [] H H1) : Ext T ms H H1 := a.wide fun b h => absurd h (by simp)
/-- a list that may change is changed -/
theorem Ext.mut {p : Addr} {xs : List V} {u : HO} (hp : p ∈ ms) (h : H p = some (.lst xs)) : Ext T ms H (upd H p u) := ⟨fun b x hb _ e => by
  rw [upd_ne (fun z => hb (by rw [z]; exact hp))]
  exact e, fun t q hq => by
  obtain ⟨ps, h1, h2, h3⟩ := t q hq
  refine ⟨ps, ?_, h2, fun pos cv hc => ?_⟩
  · rw [upd_ne]
    · exact h1
    · intro z
      rw [z, h] at h1
      cases h1
  · obtain ⟨c, e1, e2⟩ := h3 pos cv hc
    refine ⟨c, e1, ?_⟩
    rw [upd_ne]
    · exact e2
    · intro z
      rw [z, h] at e2
      unfold LamX.CodeO at e2
      cases e2⟩
theorem Ext.lst {p : Addr} {xs : List V} (e : Ext T ms H H1) (hp : p ∉ ms) (h : H p = some (.lst xs)) : H1 p = some (.lst xs) := e.keep p _ hp (fun _ z => by cases z) h
theorem Ext.tup {p : Addr} {xs : List V} (e : Ext T ms H H1) (hp : p ∉ ms) (h : H p = some (.tup xs)) : H1 p = some (.tup xs) := e.keep p _ hp (fun _ z => by cases z) h
theorem Ext.seqL {a : Addr} {xs : List V} (e : Ext T ms H H1) (ha : a ∉ ms) (h : SqL K H a xs) : SqL K H1 a xs := by
  rcases h with (h | ⟨o, h⟩) | h
  · exact .inl (.inl (e.keep a _ ha (fun _ z => by cases z) h))
  · exact .inl (.inr ⟨o, e.keep a _ ha (fun _ z => by cases z) h⟩)
  · exact .inr h
theorem Ext.seqT {a : Addr} {xs : List V} (e : Ext T ms H H1) (ha : a ∉ ms) (h : SqT K H a xs) : SqT K H1 a xs := by
  rcases h with (h | ⟨o, h⟩) | h
  · exact .inl (.inl (e.keep a _ ha (fun _ z => by cases z) h))
  · exact .inl (.inr ⟨o, e.keep a _ ha (fun _ z => by cases z) h⟩)
  · exact .inr h
end
/-! ### the law's tape -/
/-- the tape at t: the script's list at l, its place, what is left of a cell, the running number, the budget -/
def Tape (l : Addr) (H : Hp) (t : Addr) : Prop := ∃ (ns : List Int) (pos : Nat) (rest st bud : Int), H t = some (.lst [.ref l, .int (pos : Int), .int rest, .int st, .int bud]) ∧ H l = some (.lst (ns.map V.int)) ∧ l ≠ t ∧ 0 ≤ rest ∧ 0 ≤ st
theorem Tape.ext {T : List (Addr × Str)} {H H1 : Hp} {l t : Addr} (p : Tape l H t) (e : Ext T [] H H1) : Tape l H1 t := by
  obtain ⟨ns, pos, rest, st, bud, h1, h2, h3⟩ := p
  exact ⟨ns, pos, rest, st, bud, e.lst (by simp) h1, e.lst (by simp) h2, h3⟩
theorem Tape.upd {H : Hp} {l t q : Addr} {o : HO} (p : Tape l H t) (h : H q = none) : Tape l (upd H q o) t := p.ext (T := []) (.new h)
/-- another object is changed -/
theorem Tape.own {H : Hp} {l t q : Addr} {o : HO} (p : Tape l H t) (h1 : q ≠ t) (h2 : q ≠ l) : Tape l (L2.upd H q o) t := by
  obtain ⟨ns, pos, rest, st, bud, a1, a2, h3⟩ := p
  exact ⟨ns, pos, rest, st, bud, by rw [upd_ne h1.symm]; exact a1, by rw [upd_ne h2.symm]; exact a2, h3⟩
theorem Tape.ne {H : Hp} {l t q : Addr} (p : Tape l H t) (h : Nw H q) : q ≠ t ∧ q ≠ l := by
  obtain ⟨ns, pos, rest, st, bud, a1, a2, _⟩ := p
  exact ⟨(h.lst a1).symm, (h.lst a2).symm⟩
def mixI (n : Int) : Int :=
  ((n * 6364136223846793005 + 1442695040888963407) % 18446744073709551616 * ((n * 6364136223846793005 + 1442695040888963407) % 18446744073709551616) / 4294967296 + (n * 6364136223846793005 + 1442695040888963407) % 18446744073709551616 * 69621) % 18446744073709551557
theorem mixI_nn (n : Int) : 0 ≤ mixI n := Int.emod_nonneg _ (by decide)
def spMix : Sp := fun vs H Q _ => ∃ n : Int, vs = [.int n] ∧ Q (.int (mixI n)) H
def spTape (T : List (Addr × Str)) (K : PySem.W.Frag) : Sp := fun vs H Q _ => ∃ (a : Addr) (ns : List Int) (b : Int), vs = [.ref a, .int b] ∧ SqL K H a (ns.map V.int) ∧ ns.length ≤ 63 ∧ ∀ t l H', Nw H t → Ext T [] H H' → Tape l H' t → Q (.ref t) H'
def spTake (T : List (Addr × Str)) : Sp := fun vs H Q _ => ∃ (l t : Addr) (m : Int), vs = [.ref t, .int m] ∧ 0 < m ∧ m < 2 ^ 64 ∧ Tape l H t ∧ ∀ d H', 0 ≤ d → d < m → Ext T [t] H H' → Tape l H' t → Q (.int d) H'

section
variable {T : List (Addr × Str)} {ms : List Addr} {K : PySem.W.Frag} {H H1 H2 : Hp}
/-- an own new list is changed -/
theorem Ext.own {p : Addr} {xs : List V} {u : HO} (e : Ext T ms H H1) (hn : Nw H p) (h : H1 p = some (.lst xs)) : Ext T ms H (upd H1 p u) := ⟨fun b x hb hx q => by
  rw [upd_ne (hn.ne q hx)]
  exact e.keep b x hb hx q, fun t => (Ext.mut (T := T) (ms := [p]) (u := u) (by simp) h).tabs (e.tabs t)⟩
theorem Ext.newR {p : Addr} {o : HO} (e : Ext T ms H H1) (h : H1 p = none) : Ext T ms H (upd H1 p o) := e.trans (.new h)
theorem Ext.mutR {p : Addr} {xs : List V} {u : HO} (e : Ext T ms H H1) (hp : p ∈ ms) (h : H1 p = some (.lst xs)) : Ext T ms H (upd H1 p u) := e.trans (.mut hp h)
theorem wipe1 {σ : L2.St} {k : Nat} {v : Option V} : wipe ((wipe σ [k]).set k v) [k] = wipe σ [k] := by
  show ((σ.set k none).set k v).set k none = σ.set k none
  rw [List.set_set, List.set_set]
/-- a comprehension over one name whose test and element are functions of the item -/
theorem lc_pure {J : It} {n : Nat} {G : Hp → Prop} {Y : Nat → Hp → V → Hp → Prop} {tt : TT} {te : TE} {σ : L2.St} {D : Addr} {Qd : Hp → Prop} {k : Nat} (w : Walk J n G Y) (xs : List V) (hn : n = xs.length) (hY : ∀ i H x H', Y i H x H' → H' = H ∧ xs[i]? = some x) (hD : H1 D = none)
    (hG : ∀ H, Ext T ms H1 H → G H) (p : V → Bool) (f : V → V) (hl : xs.length < sizeLine)
    (step : ∀ x ∈ xs, ∀ H, Ext T ms H1 H → ∀ (R : V → Hp → Prop) (S : Hp → Prop), (p x = true → ∀ H2, Ext T ms H H2 → R (f x) H2) → (p x = false → ∀ H2, Ext T ms H H2 → S H2) →
      tt ((wipe σ [k]).set k (some x)) H fun b H2 => if b = true then te ((wipe σ [k]).set k (some x)) H2 R else S H2)
    (hDm : D ∉ ms) (hd : ∀ H, Ext T ms H1 H → H D = some (.lst ((xs.filter p).map f)) → Qd H) :
    ∃ W : Nat → Nat → Hp → Prop, (∃ z, W 0 z (upd H1 D (.lst []))) ∧ ∀ j z H, W j z H →
      (J.stop j H ∧ Qd H) ∨ (J.go j H ∧ ∃ Nx : Hp → Prop, (∀ H', Nx H' → ∃ y, y < z ∧ W (j + 1) y H') ∧ ∀ x H', J.yld j H x H' → gName k x (wipe σ [k]) H' fun σ2 H2 => wipe σ2 [k] = wipe σ [k] ∧ tt σ2 H2 fun b H3 =>
        if b = true then te σ2 H3 fun y H4 => ∃ acc, H4 D = some (.lst acc) ∧ acc.length < sizeLine ∧ Nx (upd H4 D (.lst (acc ++ [y]))) else Nx H3) := by
  refine lc_it w (fun i H => Ext T ms H1 H ∧ H D = some (.lst (((xs.take i).filter p).map f))) ⟨.new hD, by rw [List.take_zero]; exact upd_same⟩ (fun i H _ h => hG H h.1) (fun i x H H' hi h y => ?_) (fun H h => ?_)
  · obtain ⟨e1, e2⟩ := hY i H x H' y
    subst e1
    obtain ⟨h1, h2⟩ := h
    have hx : x ∈ xs := List.mem_of_getElem? e2
    have et : xs.take (i + 1) = xs.take i ++ [x] := by rw [List.take_add_one, e2]; rfl
    refine ⟨wipe1, step x hx H' h1 _ _ (fun hp H2 e => ⟨_, e.lst hDm h2, ?_, ?_⟩) (fun hp H2 e => ?_)⟩
    · refine Nat.lt_of_le_of_lt ?_ hl
      rw [List.length_map]
      exact Nat.le_trans (List.length_filter_le _ _) (by rw [List.length_take]; exact Nat.min_le_right _ _)
    · refine ⟨(h1.trans e).own (.of hD) (e.lst hDm h2), ?_⟩
      rw [upd_same, et, List.filter_append, List.map_append, List.filter_cons_of_pos hp]
      rfl
    · refine ⟨h1.trans e, ?_⟩
      rw [et, List.filter_append, List.filter_cons_of_neg (by rw [hp]; decide), List.filter_nil, List.append_nil]
      exact e.lst hDm h2
  · obtain ⟨h1, h2⟩ := h
    rw [hn, List.take_length] at h2
    exact hd H h1 h2
end
/-! ### a list or a tuple walked -/
def iSeq (K : PySem.W.Frag) (tl : TE) : TI := fun σ H R => tl σ H fun x H1 => ∃ a, x = .ref a ∧ (((∃ xs, SqL K H1 a xs) ∧ R (Itl K a) H1) ∨ ((∃ xs, SqT K H1 a xs) ∧ R (Itt K a) H1))
theorem pi_seq {X : Cx} (K : PySem.W.Frag) (hK : X.K = K) {tg l : Expr} {tl : TE} (hl : PE X l tl) : PI X tg l (iSeq K tl) := by
  subst hK
  refine ⟨fun pins s σ H R I h => ?_⟩
  refine thn (hl.run pins s σ H _ I h) fun v s1 ⟨x, H1, I1, r1, a, e, q⟩ => ?_
  subst e
  cases r1
  have fr : ∀ b, b ∈ [s1.heap.objs.size] → ∀ {o : Obj}, FpOk X pins H1 b := fun b hb _ => by
    have e : b = s1.heap.objs.size := by simpa using hb
    rw [e]
    exact I1.fpOk (Nat.le_refl _) (I1.hok.fresh (Nat.le_refl _))
  rcases q with ⟨⟨xs, hq⟩, q⟩ | ⟨⟨xs, hq⟩, q⟩
  · obtain ⟨us, ru, pl, _⟩ := I1.list hq
    refine wpAny_pyIter_list pl.isList ?_
    exact ⟨s1.heap.objs.size, [s1.heap.objs.size], _, _, H1, rfl, I1.kept (t' := s1.toks) fun b o e => Heap.get?_push_of_some _ e, turn_list a _, ⟨_, Heap.get?_push_size _ rfl, rfl, rfl⟩, fun b hb => fr b hb (o := default), q⟩
  · obtain ⟨us, ru, pl, _⟩ := I1.tuple hq
    refine wpAny_pyIter_tuple (show s1.heap.IsTuple a us.toArray from pl) ?_
    exact ⟨s1.heap.objs.size, [s1.heap.objs.size], _, _, H1, rfl, I1.kept (t' := s1.toks) fun b o e => Heap.get?_push_of_some _ e, turn_tuple a _, ⟨_, Heap.get?_push_size _ rfl, rfl, rfl⟩, fun b hb => fr b hb (o := default), q⟩
/-! ### texts as lists of signs -/
abbrev sg (z : Str) : List Nat := z.cps.toList
theorem sg_len (z : Str) : (sg z).length = z.length := Array.length_toList
theorem sg_inj {a b : Str} (h : sg a = sg b) : a = b := TL.ext_tl h
theorem sg_app (a b : Str) : sg (a ++ b) = sg a ++ sg b := TL.tl_append a b
theorem endswith_iff (x y : Str) : Txt.endswith x y = true ↔ sg y <:+ sg x := by
  unfold Txt.endswith
  rw [StrLaws.subAt_eq, Bool.and_eq_true, decide_eq_true_eq, beq_iff_eq]
  rw [List.suffix_iff_eq_drop, ← sg_len, ← sg_len]
  have hx : x.cps.toList.length = (sg x).length := rfl
  constructor
  · rintro ⟨h1, h2⟩
    rw [List.take_of_length_le (by rw [List.length_drop]; omega)] at h2
    exact h2.symm
  · intro h
    have hl := congrArg List.length h
    rw [List.length_drop] at hl
    refine ⟨by omega, ?_⟩
    rw [List.take_of_length_le (by rw [List.length_drop]; omega)]
    exact h.symm

/-! ### comprehensions, read -/
def LcG (J : It) (g : TG) (tt : TT) (te : TE) (vs : List Nat) (σ : L2.St) (H1 : Hp) (Q : VK) : Prop := ∀ D, H1 D = none → ∃ W : Nat → Nat → Hp → Prop, (∃ z, W 0 z (upd H1 D (.lst []))) ∧ ∀ j z H, W j z H →
  (J.stop j H ∧ Q (.ref D) H) ∨ (J.go j H ∧ ∃ Nx : Hp → Prop, (∀ H', Nx H' → ∃ y, y < z ∧ W (j + 1) y H') ∧ ∀ x H', J.yld j H x H' → g x (wipe σ vs) H' fun σ2 H2 => wipe σ2 vs = wipe σ vs ∧ tt σ2 H2 fun b H3 =>
    if b = true then te σ2 H3 fun y H4 => ∃ acc, H4 D = some (.lst acc) ∧ acc.length < sizeLine ∧ Nx (upd H4 D (.lst (acc ++ [y]))) else Nx H3)
section
variable {K : PySem.W.Frag} {σ : L2.St} {H H1 : Hp} {Q : VK} {wi : TI} {g : TG} {tt : TT} {te : TE} {vs : List Nat} {R : It → Hp → Prop}
theorem rd_lc (q : wi σ H fun J H1 => LcG J g tt te vs σ H1 Q) : tLc wi g tt te vs σ H Q := q
theorem rd_iStr (q : te σ H fun v H1 => ∃ x, v = .str x ∧ R (Its x) H1) : iStr te σ H R := q
theorem rd_exStr {z : Str} {P : Str → Prop} (q : P z) : ∃ x, V.str z = .str x ∧ P x := ⟨z, rfl, q⟩
theorem rd_exRef {a : Addr} {P : Addr → Prop} (q : P a) : ∃ x, V.ref a = .ref x ∧ P x := ⟨a, rfl, q⟩
theorem rd_exInt {a : Int} {P : Int → Prop} (q : P a) : ∃ x, V.int a = .int x ∧ P x := ⟨a, rfl, q⟩
theorem rd_exInts {a : Int} {P : Int → Prop} (q : P a) : ∃ x, [V.int a] = [.int x] ∧ P x := ⟨a, rfl, q⟩
theorem rd_seqL {a : Addr} {xs : List V} {B C : Prop} (h : SqL K H1 a xs) (q : B) : ((∃ xs, SqL K H1 a xs) ∧ B) ∨ C := .inl ⟨⟨xs, h⟩, q⟩
theorem rd_seqT {a : Addr} {xs : List V} {B C : Prop} (h : SqT K H1 a xs) (q : B) : C ∨ ((∃ xs, SqT K H1 a xs) ∧ B) := .inr ⟨⟨xs, h⟩, q⟩
theorem rd_iSeq (q : te σ H fun x H1 => ∃ a, x = .ref a ∧ (((∃ xs, SqL K H1 a xs) ∧ R (Itl K a) H1) ∨ ((∃ xs, SqT K H1 a xs) ∧ R (Itt K a) H1))) : iSeq K te σ H R := q
theorem rd_rng {ta : TA} (q : ta σ H fun vs H1 => ∃ j : Int, vs = [.int j] ∧ -(2 ^ 62) ≤ j ∧ j < 2 ^ 62 ∧ R (Itr 0 j.toNat) H1) : iRng1 ta σ H R := q
/-- the signs of a text, each a text -/
def chrs (z : Str) : List V := (sg z).map fun c => .str ⟨#[c]⟩
variable (T : List (Addr × Str)) (ms : List Addr)
theorem lcg_str {z : Str} {k : Nat} (p : V → Bool) (f : V → V) (hz : z.length < sizeLine) (hm : ∀ D, H D = none → D ∉ ms)
    (step : ∀ x ∈ chrs z, ∀ H', Ext T ms H H' → ∀ (R : V → Hp → Prop) (S : Hp → Prop), (p x = true → ∀ H2, Ext T ms H' H2 → R (f x) H2) → (p x = false → ∀ H2, Ext T ms H' H2 → S H2) →
      tt ((wipe σ [k]).set k (some x)) H' fun b H2 => if b = true then te ((wipe σ [k]).set k (some x)) H2 R else S H2)
    (q : ∀ D H2, Nw H D → Ext T ms H H2 → H2 D = some (.lst (((chrs z).filter p).map f)) → Q (.ref D) H2) : LcG (Its z) (gName k) tt te [k] σ H Q := fun D hD =>
  lc_pure walk_str (chrs z) (by rw [chrs, List.length_map, sg_len]; rfl) (fun i H x H' y => by
    obtain ⟨e, c, h1, h2⟩ := y
    refine ⟨e, ?_⟩
    rw [chrs, List.getElem?_map, h2, show (sg z)[i]? = some c by rw [← h1]; exact Array.getElem?_toList]
    rfl) hD (fun _ _ => True.intro) p f (by rw [chrs, List.length_map, sg_len]; exact hz) step (hm D hD) fun H2 e h => q D H2 (.of hD) e h
theorem lcg_list {a : Addr} {xs : List V} {k : Nat} (h : SqL K H a xs) (p : V → Bool) (f : V → V) (hz : xs.length < sizeLine) (ha : a ∉ ms) (hm : ∀ D, H D = none → D ∉ ms)
    (step : ∀ x ∈ xs, ∀ H', Ext T ms H H' → ∀ (R : V → Hp → Prop) (S : Hp → Prop), (p x = true → ∀ H2, Ext T ms H' H2 → R (f x) H2) → (p x = false → ∀ H2, Ext T ms H' H2 → S H2) →
      tt ((wipe σ [k]).set k (some x)) H' fun b H2 => if b = true then te ((wipe σ [k]).set k (some x)) H2 R else S H2)
    (q : ∀ D H2, Nw H D → Ext T ms H H2 → H2 D = some (.lst ((xs.filter p).map f)) → Q (.ref D) H2) : LcG (Itl K a) (gName k) tt te [k] σ H Q := fun D hD =>
  lc_pure walk_list xs rfl (fun i H x H' y => y) hD (fun H' e => e.seqL ha h) p f hz step (hm D hD) fun H2 e h => q D H2 (.of hD) e h
theorem lcg_tup {a : Addr} {xs : List V} {k : Nat} (h : SqT K H a xs) (p : V → Bool) (f : V → V) (hz : xs.length < sizeLine) (ha : a ∉ ms) (hm : ∀ D, H D = none → D ∉ ms)
    (step : ∀ x ∈ xs, ∀ H', Ext T ms H H' → ∀ (R : V → Hp → Prop) (S : Hp → Prop), (p x = true → ∀ H2, Ext T ms H' H2 → R (f x) H2) → (p x = false → ∀ H2, Ext T ms H' H2 → S H2) →
      tt ((wipe σ [k]).set k (some x)) H' fun b H2 => if b = true then te ((wipe σ [k]).set k (some x)) H2 R else S H2)
    (q : ∀ D H2, Nw H D → Ext T ms H H2 → H2 D = some (.lst ((xs.filter p).map f)) → Q (.ref D) H2) : LcG (Itt K a) (gName k) tt te [k] σ H Q := fun D hD =>
  lc_pure walk_tup xs rfl (fun i H x H' y => y) hD (fun H' e => e.seqT ha h) p f hz step (hm D hD) fun H2 e h => q D H2 (.of hD) e h
end
/-- over a range, the elements drawn from the tape -/
theorem lcg_range_tape (T : List (Addr × Str)) {σ : L2.St} {H : Hp} {Q : VK} {te : TE} {n k : Nat} {l t : Addr} (hT : Tape l H t) (Pr : V → Prop) (hn : n < sizeLine)
    (step : ∀ (i : Nat) H', i < n → Ext T [t] H H' → Tape l H' t → ∀ R : VK, (∀ v H2, Pr v → Ext T [t] H' H2 → Tape l H2 t → R v H2) → te ((wipe σ [k]).set k (some (.int (0 + (i : Int))))) H' R)
    (q : ∀ D H2 vs, Nw H D → Ext T [t] H H2 → Tape l H2 t → H2 D = some (.lst vs) → vs.length = n → (∀ v ∈ vs, Pr v) → Q (.ref D) H2) : LcG (Itr 0 n) (gName k) tYes te [k] σ H Q := fun D hD => by
  obtain ⟨nt, nl⟩ := hT.ne (.of hD)
  refine lc_it walk_range (fun i H2 => Ext T [t] H H2 ∧ Tape l H2 t ∧ ∃ vs, H2 D = some (.lst vs) ∧ vs.length = i ∧ ∀ v ∈ vs, Pr v) ⟨.new hD, hT.upd hD, [], upd_same, rfl, by simp⟩ (fun _ _ _ _ => True.intro) (fun i x H1 H' hi h y => ?_) (fun H1 h => ?_)
  · obtain ⟨e1, e2⟩ := y
    subst e1
    subst e2
    obtain ⟨h1, h2, vs, h3, h4, h5⟩ := h
    refine ⟨wipe1, step i H' hi h1 h2 _ fun v H2 hp e t2 => ?_⟩
    have h3' := e.lst (show D ∉ [t] by simpa using nt) h3
    refine ⟨vs, h3', by omega, (h1.trans e).own (.of hD) h3', t2.own nt nl, vs ++ [v], upd_same, by rw [List.length_append, h4]; rfl, fun u hu => ?_⟩
    rcases List.mem_append.mp hu with hu | hu
    · exact h5 u hu
    · rw [List.mem_singleton.mp hu]
      exact hp
  · obtain ⟨h1, h2, vs, h3, h4, h5⟩ := h
    exact q D H1 vs (.of hD) h1 h2 h3 h4 h5
/-! ### loops, read -/
def ForG (J : It) (g : TG) (tb : TS) (D : Ends) (σ : L2.St) (H1 : Hp) : Prop := ∃ W : Nat → Nat → L2.St → Hp → Prop, (∃ z, W 0 z σ H1) ∧ ∀ j z σ H, W j z σ H →
  (J.stop j H ∧ D.nx σ H) ∨ (J.go j H ∧ ∃ N : L2.St → Hp → Prop, (∀ σ' H', N σ' H' → ∃ y, y < z ∧ W (j + 1) y σ' H') ∧ ∀ x H', J.yld j H x H' → g x σ H' fun σ2 H2 => tb { D with nx := N, ct := N, bk := D.nx } σ2 H2)
section
variable {K : PySem.W.Frag} {σ : L2.St} {H H1 : Hp} {wi : TI} {g : TG} {tb : TS} {nx bk ct : L2.St → Hp → Prop} {rt : VK}
theorem rd_for {D : Ends} (q : wi σ H fun J H1 => ForG J g tb D σ H1) : tFor wi g tb D σ H := q
theorem forg_it {J : It} {n : Nat} {G : Hp → Prop} {Y : Nat → Hp → V → Hp → Prop} (w : Walk J n G Y) (Pv : Nat → L2.St → Hp → Prop) (h0 : Pv 0 σ H) (hG : ∀ i σ H, i ≤ n → Pv i σ H → G H)
    (hs : ∀ i x σ H H', i < n → Pv i σ H → Y i H x H' → g x σ H' fun σ2 H2 => tb ⟨Pv (i + 1), rt, nx, Pv (i + 1)⟩ σ2 H2) (hd : ∀ σ H, Pv n σ H → nx σ H) : ForG J g tb ⟨nx, rt, bk, ct⟩ σ H := for_it w Pv h0 hG hs hd
theorem forg_str {z : Str} (Pv : Nat → L2.St → Hp → Prop) (h0 : Pv 0 σ H) (hs : ∀ i c σ H, (sg z)[i]? = some c → Pv i σ H → g (.str ⟨#[c]⟩) σ H fun σ2 H2 => tb ⟨Pv (i + 1), rt, nx, Pv (i + 1)⟩ σ2 H2) (hd : ∀ σ H, Pv (sg z).length σ H → nx σ H) :
    ForG (Its z) g tb ⟨nx, rt, bk, ct⟩ σ H := forg_it walk_str Pv h0 (fun _ _ _ _ _ => True.intro) (fun i x σ H H' hi p y => by
  obtain ⟨e, c, h1, h2⟩ := y
  rw [e, h2]
  exact hs i c σ H (by rw [← h1]; exact Array.getElem?_toList) p) fun σ H h => hd σ H (by rw [sg_len]; exact h)
theorem forg_list {a : Addr} {xs : List V} (Pv : Nat → L2.St → Hp → Prop) (h0 : Pv 0 σ H) (hl : ∀ i σ H, i ≤ xs.length → Pv i σ H → SqL K H a xs)
    (hs : ∀ i x σ H, xs[i]? = some x → Pv i σ H → g x σ H fun σ2 H2 => tb ⟨Pv (i + 1), rt, nx, Pv (i + 1)⟩ σ2 H2) (hd : ∀ σ H, Pv xs.length σ H → nx σ H) : ForG (Itl K a) g tb ⟨nx, rt, bk, ct⟩ σ H :=
  forg_it walk_list Pv h0 hl (fun i x σ H H' hi p y => by
    rw [y.1]
    exact hs i x σ H y.2 p) hd
theorem forg_tup {a : Addr} {xs : List V} (Pv : Nat → L2.St → Hp → Prop) (h0 : Pv 0 σ H) (hl : ∀ i σ H, i ≤ xs.length → Pv i σ H → SqT K H a xs)
    (hs : ∀ i x σ H, xs[i]? = some x → Pv i σ H → g x σ H fun σ2 H2 => tb ⟨Pv (i + 1), rt, nx, Pv (i + 1)⟩ σ2 H2) (hd : ∀ σ H, Pv xs.length σ H → nx σ H) : ForG (Itt K a) g tb ⟨nx, rt, bk, ct⟩ σ H :=
  forg_it walk_tup Pv h0 hl (fun i x σ H H' hi p y => by
    rw [y.1]
    exact hs i x σ H y.2 p) hd
theorem forg_range {lo : Int} {n : Nat} (Pv : Nat → L2.St → Hp → Prop) (h0 : Pv 0 σ H)
    (hs : ∀ (i : Nat) σ H, i < n → Pv i σ H → g (.int (lo + i)) σ H fun σ2 H2 => tb ⟨Pv (i + 1), rt, nx, Pv (i + 1)⟩ σ2 H2) (hd : ∀ σ H, Pv n σ H → nx σ H) : ForG (Itr lo n) g tb ⟨nx, rt, bk, ct⟩ σ H :=
  forg_it walk_range Pv h0 (fun _ _ _ _ _ => True.intro) (fun i x σ H H' hi p y => by
    obtain ⟨e1, e2⟩ := y
    rw [e1, e2]
    exact hs i σ H hi p) hd
end
theorem rd_ntt {A B : Prop} (h : B) : if (!true) = true then A else B := h
theorem rd_nff {A B : Prop} (h : A) : if (!false) = true then A else B := h
theorem rd_cut {σ : L2.St} {H : Hp} {nx bk ct : L2.St → Hp → Prop} {rt : VK} {t u : TS} (Mid : L2.St → Hp → Prop) (h1 : ∀ nx' : L2.St → Hp → Prop, (∀ σ' H', Mid σ' H' → nx' σ' H') → t ⟨nx', rt, bk, ct⟩ σ H) (h2 : ∀ σ' H', Mid σ' H' → u ⟨nx, rt, bk, ct⟩ σ' H') : tSeq t u ⟨nx, rt, bk, ct⟩ σ H := h1 _ h2
theorem rd_cutE {te : TE} {σ : L2.St} {H : Hp} {Q : VK} (Mid : V → Hp → Prop) (h1 : ∀ Q' : VK, (∀ v H', Mid v H' → Q' v H') → te σ H Q') (h2 : ∀ v H', Mid v H' → Q v H') : te σ H Q := h1 Q h2
theorem filtT {α : Type} (l : List α) : l.filter (fun _ => true) = l := List.filter_eq_self.mpr fun _ _ => rfl
/-! ### further steps -/
section
variable {K : PySem.W.Frag} {σ : L2.St} {H : Hp} {Q : VK} {te : TE}
theorem rd_tyes {Q : Bool → Hp → Prop} (q : Q true H) : tYes σ H Q := q
theorem dec_str (a b : Str) : decide (V.str a = V.str b) = decide (a = b) := by
  by_cases h : a = b
  · rw [h]
    simp
  · rw [decide_eq_false h]
    exact decide_eq_false fun z => h (V.str.inj z)
theorem dec_intV (a b : Int) : decide (V.int a = V.int b) = decide (a = b) := by
  by_cases h : a = b
  · rw [h]
    simp
  · rw [decide_eq_false h]
    exact decide_eq_false fun z => h (V.int.inj z)
theorem dec_bl (a b : Bool) : decide (V.bl a = V.bl b) = decide (a = b) := by
  by_cases h : a = b
  · rw [h]
    simp
  · rw [decide_eq_false h]
    exact decide_eq_false fun z => h (V.bl.inj z)
theorem rd_isBool {z : Bool} (q : Q (.bl true) H) : rIsi K [.bl z, .ty "bool"] H Q := ⟨_, _, _, _, true, rfl, .ty _, .base (.bl _), rfl, q⟩
theorem rd_ixS {z : Str} {i : Int} {c : Nat} (hz : z.length ≤ sizeLine) (h : atI z.cps.toList i = some c) (q : Q (.str ⟨#[c]⟩) H) : rIx K (.str z) (.int i) H Q := .inr (.inr ⟨z, i, c, rfl, rfl, hz, h, q⟩)
theorem rd_cat {a b : Addr} {xs ys : List V} (h1 : H a = some (.lst xs)) (h2 : H b = some (.lst ys)) (c : xs.length + ys.length ≤ sizeLine) (q : ∀ p, H p = none → Q (.ref p) (upd H p (.lst (xs ++ ys)))) : rPlus K (.ref a) (.ref b) H Q := .inr (.inr (.inl ⟨a, b, xs, ys, rfl, rfl, h1, h2, c, q⟩))
theorem rd_slS {z : Str} {lo hi : Option Int} (hz : z.length ≤ sizeLine) (q : Q (.str (cutS z lo hi)) H) : rSlU K (.str z) lo hi H Q := .inr (.inl ⟨z, rfl, hz, q⟩)
theorem rd_slL {a : Addr} {xs : List V} {lo hi : Option Int} (h : SqL K H a xs) (q : ∀ p, H p = none → Q (.ref p) (upd H p (.lst (cutV xs lo hi)))) : rSlU K (.ref a) lo hi H Q := .inl ⟨a, xs, rfl, h, q⟩
theorem rd_sl {r : V → Option Int → Option Int → Hp → VK → Prop} {tl th : TO} (q : te σ H fun x H1 => tl σ H1 fun lo H2 => th σ H2 fun hi H3 => r x lo hi H3 Q) : tSl r te tl th σ H Q := q
theorem rd_noP {Q : Option Int → Hp → Prop} (q : Q none H) : tNoPart σ H Q := q
theorem rd_part {Q : Option Int → Hp → Prop} (q : te σ H fun v H1 => ∃ i, v = .int i ∧ Q (some i) H1) : tPart te σ H Q := q
theorem rd_eqStr {a b : Str} (q : Q (.bl (decide (a = b))) H) : rEqU K (.str a) (.str b) H Q := .inl ⟨rfl, by rw [dec_str]; exact q⟩
theorem rd_neStr {a b : Str} (q : Q (.bl (!decide (a = b))) H) : rNeU K (.str a) (.str b) H Q := .inl ⟨rfl, by rw [dec_str]; exact q⟩
theorem rd_eqInt {a b : Int} (q : Q (.bl (decide (a = b))) H) : rEqU K (.int a) (.int b) H Q := .inl ⟨rfl, by rw [dec_intV]; exact q⟩
theorem rd_neInt {a b : Int} (q : Q (.bl (!decide (a = b))) H) : rNeU K (.int a) (.int b) H Q := .inl ⟨rfl, by rw [dec_intV]; exact q⟩
theorem rd_eqBl {a b : Bool} (q : Q (.bl (decide (a = b))) H) : rEqU K (.bl a) (.bl b) H Q := .inl ⟨rfl, by rw [dec_bl]; exact q⟩
theorem rd_rev (q : te σ H fun x H1 => ∃ a xs, x = .ref a ∧ SqL K H1 a xs ∧ ∀ p, H1 p = none → Q (.ref p) (upd H1 p (.lst xs.reverse))) : tRevL K te σ H Q := q
theorem rd_revL {a : Addr} {xs : List V} (h : SqL K H a xs) (q : ∀ p, H p = none → Q (.ref p) (upd H p (.lst xs.reverse))) : ∃ b ys, V.ref a = .ref b ∧ SqL K H b ys ∧ ∀ p, H p = none → Q (.ref p) (upd H p (.lst ys.reverse)) := ⟨a, xs, rfl, h, q⟩
theorem rd_exA {a : Str} {P : Prop} (q : P) : (∃ b, V.str a = .str b) ∧ P := ⟨⟨a, rfl⟩, q⟩
def tFs (ts : List TE) : TE := fun σ H Q => tJs ts Str.empty σ H fun out H1 => Q (.str out) H1
theorem pe_fstr {X : Cx} {v1 v2 : Expr} {rest : List Expr} {ts : List TE} {pos : Pos} (h : PJ X (v1 :: v2 :: rest) ts) : PE X (.JoinedStr (v1 :: v2 :: rest) pos) (tFs ts) := pe_joined h
theorem rd_fs {ts : List TE} (q : tJs ts Str.empty σ H fun out H1 => Q (.str out) H1) : tFs ts σ H Q := q
theorem rd_jc {t : TE} {ts : List TE} {acc : Str} {Q : Str → Hp → Prop} (q : t σ H fun x H1 => ∃ y : Str, x = .str y ∧ (acc ++ y).length ≤ sizeLine ∧ tJs ts (acc ++ y) σ H1 Q) : tJs (t :: ts) acc σ H Q := q
theorem rd_jn {acc : Str} {Q : Str → Hp → Prop} (q : Q acc H) : tJs [] acc σ H Q := q
theorem rd_fmt {t : TE} (q : t σ H fun x H1 => (∃ y : Str, x = .str y ∧ y.length ≤ sizeLine ∧ Q (.str y) H1) ∨ ∃ i : Int, x = .int i ∧ i.natAbs.log2 < 1920 ∧ Q (.str (toString i)) H1) : tFmt t σ H Q := q
theorem rd_fmtS {y : Str} {C : Prop} (h : y.length ≤ sizeLine) (q : Q (.str y) H) : (∃ z : Str, V.str y = .str z ∧ z.length ≤ sizeLine ∧ Q (.str z) H) ∨ C := .inl ⟨y, rfl, h, q⟩
theorem rd_exStrs {y : Str} {P : Str → Prop} (q : P y) : ∃ z : Str, V.str y = .str z ∧ P z := ⟨y, rfl, q⟩
theorem rd_bm {T : String} {r : V → List V → Hp → VK → Prop} {t : TA} (q : te σ H fun x H1 => tyV K T x H1 ∧ t σ H1 fun xs H2 => r x xs H2 Q) : tBM K T r te t σ H Q := q
theorem rd_tyL {p : Addr} {xs : List V} {P : Prop} (h : H p = some (.lst xs)) (q : P) : tyV K "list" (.ref p) H ∧ P := ⟨.inl ⟨rfl, xs, .inl (.inl h)⟩, q⟩
theorem rd_app {p : Addr} {xs : List V} {y : V} (h : H p = some (.lst xs)) (c : xs.length < sizeLine) (q : Q .non (upd H p (.lst (xs ++ [y])))) : rAppend (.ref p) [y] H Q := ⟨p, xs, y, rfl, rfl, h, c, q⟩
end
/-! ### a list of data, sorted -/
section
open PySem.W
def Srt (xs : List V) (ds : List PyData) (ys : List V) : Prop := EachIs (fun y d => (y, d) ∈ xs.zip ds) ys (ds.mergeSort (dataLe false id))
def rSortD (K : PySem.W.Frag) : List V → Hp → VK → Prop := fun vs H Q => ∃ (a : Addr) (xs : List V) (ds : List PyData), vs = [.ref a] ∧ SqL K H a xs ∧ DpAll K H xs ds ∧ AllAlike ds ∧ Sortable ds ∧ (∀ d ∈ ds, d.depth ≤ 60) ∧
  ∀ (ys : List V) (p : Addr), Srt xs ds ys → H p = none → Q (.ref p) (upd H p (.lst ys))
end
def dotS : Str := "."
theorem sg_dot : sg dotS = [46] := by decide +kernel
def lettersS : Str := "abcdefghijklmnopqrstuvwxyz0123456789"
def wordB (z ls : Str) (m : Int) : Bool := decide ((1 : Int) ≤ (z.length : Int)) && (decide ((z.length : Int) ≤ m) && (sg z).all fun c => decide (c ∈ sg ls))
def idB (z : Str) : Bool := wordB z lettersS 4
def labelB (z : Str) : Bool := wordB z lettersS 8
def partsL (z : Str) : List Str := Txt.split z dotS
def nameB (z : Str) : Bool := decide (z = dotS) || (decide (((partsL z).length : Int) ≤ 4) && (partsL z).all labelB)
def labelsL (z : Str) : List Str := if z = dotS then [] else (partsL z).reverse
def endsB (n o : Str) : Bool := decide (o = dotS) || (decide (n = o) || Txt.endswith n (dotS ++ o))
theorem parts_sg (z : Str) : (partsL z).map sg = TL.spl [46] 0 [] (sg z) := by
  have h := TL.split_spl z dotS (by rw [show TL.tl dotS = [46] from sg_dot]; simp) (TL.kind_ok (by decide +kernel))
  rw [show TL.tl dotS = [46] from sg_dot] at h
  exact h
/-- a text is none of its parts longer than itself -/
theorem spl_len : ∀ (l acc : List Nat), (TL.spl [46] 0 acc l).length = l.count 46 + 1
  | [], acc => rfl
  | c :: r, acc => by
    by_cases h : c = 46
    · subst h
      have e : TL.spl [46] 0 acc (46 :: r) = acc :: TL.spl [46] 0 [] r := by
        rw [TL.spl, if_pos (by rfl)]
        rfl
      rw [e, List.length_cons, spl_len r []]
      simp
    · have e : TL.spl [46] 0 acc (c :: r) = TL.spl [46] 0 (acc ++ [c]) r := by
        rw [TL.spl, if_neg]
        show ¬ (TL.pre [46] (c :: r) = true)
        unfold TL.pre
        simpa using h
      rw [e, spl_len r]
      rw [List.count_cons_of_ne h]
theorem parts_len (z : Str) : (partsL z).length = (sg z).count 46 + 1 := by
  rw [← spl_len (sg z) [], ← parts_sg, List.length_map]
theorem parts_le (z : Str) : (partsL z).length ≤ z.length + 1 := by
  have h := List.count_le_length (a := 46) (l := sg z)
  rw [sg_len] at h
  rw [parts_len]
  omega
theorem spl_mem : ∀ (l acc : List Nat) (x : List Nat), x ∈ TL.spl [46] 0 acc l → x.length ≤ acc.length + l.length
  | [], acc, x, h => by
    have h : x ∈ [acc] := h
    rw [List.mem_singleton.mp h]
    omega
  | c :: r, acc, x, h => by
    by_cases hc : c = 46
    · subst hc
      have e : TL.spl [46] 0 acc (46 :: r) = acc :: TL.spl [46] 0 [] r := by
        rw [TL.spl, if_pos (by rfl)]
        rfl
      rw [e] at h
      rcases List.mem_cons.mp h with h | h
      · rw [h]
        omega
      · have := spl_mem r [] x h
        simp only [List.length_cons, List.length_nil] at this ⊢
        omega
    · have e : TL.spl [46] 0 acc (c :: r) = TL.spl [46] 0 (acc ++ [c]) r := by
        rw [TL.spl, if_neg]
        show ¬ (TL.pre [46] (c :: r) = true)
        unfold TL.pre
        simpa using hc
      rw [e] at h
      have := spl_mem r _ x h
      simp only [List.length_cons, List.length_append, List.length_nil] at this ⊢
      omega
theorem parts_mem {z x : Str} (h : x ∈ partsL z) : x.length ≤ z.length := by
  have h1 : sg x ∈ TL.spl [46] 0 [] (sg z) := by
    rw [← parts_sg]
    exact List.mem_map_of_mem h
  have h2 := spl_mem _ _ _ h1
  rw [sg_len, sg_len] at h2
  simpa using h2
theorem fs_dot (u : Str) : (Str.empty ++ Str.ofString ".") ++ u = dotS ++ u := sg_inj (by rw [sg_app, sg_app, sg_app]; rfl)
theorem fs_len (u : Str) (h : u.length ≤ 1000) : (Str.empty ++ Str.ofString "." ++ u).length ≤ sizeLine := by
  have e : (dotS ++ u).length = 1 + u.length := by
    rw [← sg_len, sg_app, List.length_append, sg_dot, sg_len]
    rfl
  rw [fs_dot, e]
  exact Nat.le_trans (show _ ≤ 1001 by omega) (by decide)
theorem dot_len : (Str.ofString ".").length = 1 := by decide +kernel
theorem dot_app (u : Str) (h : u.length ≤ 1000) : (Str.ofString ".").length + u.length ≤ sizeLine := by
  rw [dot_len]
  exact Nat.le_trans (show _ ≤ 1001 by omega) (by decide)
/-- the law's own ends -/
def lawEndsB (n o : Str) : Bool := decide (o = dotS) || (decide (n = o) || decide (cutS n (some (-(o.length : Int) - 1)) none = dotS ++ o))
theorem sIx_tail (n k : Nat) : HT.sIx n 0 (some (-(k : Int) - 1)) = n - (k + 1) := by
  unfold HT.sIx
  simp only []
  split <;> omega
theorem cut_tail (n o : Str) : sg (cutS n (some (-(o.length : Int) - 1)) none) = (sg n).drop (n.length - (o.length + 1)) := by
  unfold cutS
  rw [sIx_tail, HT.sIx_none]
  show (List.toArray _).toList = _
  rw [List.take_of_length_le]
  rw [List.length_drop, show n.cps.toList.length = n.length from sg_len n]
  omega
theorem lawEnds_eq (n o : Str) : lawEndsB n o = endsB n o := by
  unfold lawEndsB endsB
  congr 2
  rw [Bool.eq_iff_iff, decide_eq_true_eq, endswith_iff]
  have hl : (sg (dotS ++ o)).length = o.length + 1 := by
    rw [sg_app, List.length_append, sg_dot, sg_len]
    simp
    omega
  constructor
  · intro h
    have h2 := cut_tail n o
    rw [h] at h2
    rw [h2]
    exact List.drop_suffix _ _
  · intro h
    refine sg_inj ?_
    rw [cut_tail]
    have h2 := List.suffix_iff_eq_drop.mp h
    rw [hl, sg_len] at h2
    exact h2.symm
section
variable (T : List (Addr × Str))
def spWord : Sp := fun vs H Q _ => ∃ (z ls : Str) (m : Int), vs = [.str z, .str ls, .int m] ∧ z.length ≤ 1000 ∧ ∀ H', Ext T [] H H' → Q (.bl (wordB z ls m)) H'
/-- a text in, a truth value out -/
def spTB (f : Str → Bool) : Sp := fun vs H Q _ => ∃ z : Str, vs = [.str z] ∧ z.length ≤ 1000 ∧ ∀ H', Ext T [] H H' → Q (.bl (f z)) H'
def spTTB (f : Str → Str → Bool) : Sp := fun vs H Q _ => ∃ z u : Str, vs = [.str z, .str u] ∧ z.length ≤ 1000 ∧ u.length ≤ 1000 ∧ ∀ H', Ext T [] H H' → Q (.bl (f z u)) H'
/-- a text in, a new list of texts out -/
def spTL (f : Str → List Str) : Sp := fun vs H Q _ => ∃ z : Str, vs = [.str z] ∧ z.length ≤ 1000 ∧ ∀ p H', Nw H p → Ext T [] H H' → H' p = some (.lst ((f z).map V.str)) → Q (.ref p) H'
end

/-! ### an index that lies in it -/
theorem at_in {α : Type} {l : List α} {i : Int} (h0 : 0 ≤ i) (h : i < l.length) : ∃ c, atI l i = some c ∧ l[i.toNat]? = some c ∧ c ∈ l := by
  have hi : i.toNat < l.length := by omega
  have e : i = ((i.toNat : Nat) : Int) := by omega
  obtain ⟨c, hc⟩ : ∃ c, l[i.toNat]? = some c := ⟨_, List.getElem?_eq_getElem hi⟩
  have h2 := atI_nat hc
  rw [← e] at h2
  exact ⟨c, h2, hc, List.mem_of_getElem? hc⟩
def spText (T : List (Addr × Str)) : Sp := fun vs H Q _ => ∃ (l t : Addr) (m : Int), vs = [.ref t, .int m] ∧ 0 < m ∧ m < 100 ∧ Tape l H t ∧ ∀ z H', (z.length : Int) < m → Ext T [t] H H' → Tape l H' t → Q (.str z) H'
def spName (T : List (Addr × Str)) : Sp := fun vs H Q _ => ∃ (l t : Addr) (m : Int), vs = [.ref t, .int m] ∧ 0 < m ∧ m ≤ 4 ∧ Tape l H t ∧ ∀ z H', nameB z = true → z.length ≤ 100 → Ext T [t] H H' → Tape l H' t → Q (.str z) H'

theorem strs_of {S : List Str} : ∀ {vs : List V}, (∀ v ∈ vs, ∃ x ∈ S, v = V.str x) → ∃ ys : List Str, vs = ys.map V.str ∧ ∀ y ∈ ys, y ∈ S
  | [], _ => ⟨[], rfl, by simp⟩
  | v :: r, h => by
    obtain ⟨ys, e, h2⟩ := strs_of (vs := r) fun u hu => h u (List.mem_cons_of_mem _ hu)
    obtain ⟨x, hx, rfl⟩ := h v List.mem_cons_self
    refine ⟨x :: ys, by rw [e]; rfl, fun y hy => ?_⟩
    rcases List.mem_cons.mp hy with hy | hy
    · rw [hy]
      exact hx
    · exact h2 y hy
theorem sum_le {B : Nat} : ∀ {l : List Nat}, (∀ x ∈ l, x ≤ B) → l.sum ≤ l.length * B
  | [], _ => by simp
  | x :: r, h => by
    have h1 := h x List.mem_cons_self
    have h2 := sum_le (l := r) fun y hy => h y (List.mem_cons_of_mem _ hy)
    rw [List.sum_cons, List.length_cons, Nat.succ_mul]
    omega
theorem joinL_len (S : List Nat) : ∀ ps : List (List Nat), (TL.joinL S ps).length ≤ (ps.map List.length).sum + ps.length * S.length
  | [] => by simp [TL.joinL]
  | [p] => by
    show p.length ≤ _
    simp
  | p :: q :: r => by
    have ih := joinL_len S (q :: r)
    show (p ++ (S ++ TL.joinL S (q :: r))).length ≤ _
    rw [List.length_append, List.length_append, List.map_cons, List.sum_cons, List.length_cons (a := p), Nat.succ_mul]
    omega
def joinS (ys : List Str) : Str := Txt.join dotS ys
theorem join_len (ys : List Str) : (joinS ys).length ≤ (ys.map (·.length)).sum + ys.length := by
  have h := joinL_len (sg dotS) (ys.map sg)
  have e : sg (joinS ys) = TL.joinL (sg dotS) (ys.map sg) := by
    show sg (Txt.join dotS ys) = _
    rw [TL.join_eq]
    exact TL.tl_join dotS ys
  rw [← e, sg_len, sg_dot, List.length_map, List.map_map] at h
  have e2 : List.map (List.length ∘ sg) ys = ys.map (·.length) := List.map_congr_left fun y _ => sg_len y
  rw [e2] at h
  simpa using h
theorem parts_join {ys : List Str} (hne : ys ≠ []) (h : ∀ y ∈ ys, 46 ∉ sg y) : partsL (joinS ys) = ys := TL.split_join sg_dot (by decide +kernel) hne h
theorem label_nodot {y : Str} (h : labelB y = true) : 46 ∉ sg y := fun hm => by
  unfold labelB wordB at h
  rw [Bool.and_eq_true, Bool.and_eq_true] at h
  have h2 := of_decide_eq_true (List.all_eq_true.mp h.2.2 46 hm)
  exact absurd h2 (by decide +kernel)
theorem name_join {ys : List Str} (hne : ys ≠ []) (hl : ys.length ≤ 4) (h : ∀ y ∈ ys, labelB y = true) : nameB (joinS ys) = true := by
  unfold nameB
  rw [parts_join hne fun y hy => label_nodot (h y hy), decide_eq_true (show (ys.length : Int) ≤ 4 by omega), List.all_eq_true.mpr h]
  simp
def namesL : List Str := ["land", "shop", "a", "b", "workshop", "x1"]
theorem namesL_ok : ∀ y ∈ namesL, labelB y = true ∧ y.length ≤ 8 := by decide +kernel
def spForms (T : List (Addr × Str)) : Sp := fun vs H Q _ => ∃ (l t : Addr), vs = [.ref t] ∧ Tape l H t ∧ ∀ H', Ext T [t] H H' → Tape l H' t → Q (.bl true) H'
theorem strs_ofP {Pr : Str → Prop} : ∀ {vs : List V}, (∀ v ∈ vs, ∃ x, Pr x ∧ v = V.str x) → ∃ ys : List Str, vs = ys.map V.str ∧ ∀ y ∈ ys, Pr y
  | [], _ => ⟨[], rfl, by simp⟩
  | v :: r, h => by
    obtain ⟨ys, e, h2⟩ := strs_ofP (vs := r) fun u hu => h u (List.mem_cons_of_mem _ hu)
    obtain ⟨x, hx, rfl⟩ := h v List.mem_cons_self
    refine ⟨x :: ys, by rw [e]; rfl, fun y hy => ?_⟩
    rcases List.mem_cons.mp hy with hy | hy
    · rw [hy]
      exact hx
    · exact h2 y hy
theorem at_last {α : Type} {l : List α} {v : α} (h : l.getLast? = some v) : atI l (-1) = some v := by
  obtain ⟨r, e⟩ := List.getLast?_eq_some_iff.mp h
  rw [e]
  exact atI_last _ _

/-! an own exception whose __init__ says super().__init__(f"..") and keeps its one argument -/
section
open PySem PySem.W PySem.Calls PyProof.Rows PySem.HandSPX
def supA (fld : Str) (p1 p2 : Pos) : Arguments := { posonlyargs := [], args := [{ arg := "self", annotation := none, pos := p1 }, { arg := fld, annotation := none, pos := p2 }], vararg := none, kwonlyargs := [], kw_defaults := [], kwarg := none, defaults := [] }
def supB (fld : Str) (parts : List Expr) (ps : List Pos) (q1 q2 q3 q4 : Pos) : List Stmt :=
  [.Expr (.Call (.Attribute (.Call (.Name "super" (ps.getD 0 ⟨0, 0, 0, 0⟩)) [] [] (ps.getD 1 ⟨0, 0, 0, 0⟩)) "__init__" (ps.getD 2 ⟨0, 0, 0, 0⟩)) [.JoinedStr parts (ps.getD 3 ⟨0, 0, 0, 0⟩)] [] (ps.getD 4 ⟨0, 0, 0, 0⟩)) (ps.getD 5 ⟨0, 0, 0, 0⟩),
   .Assign [.Attribute (.Name "self" q1) fld q2] (.Name fld q3) q4]
def supS (fld : Str) : Scope := { kind := .function, names := [(PySem.Str.ofString "self", .local), (fld, .local), (PySem.Str.ofString "__class__", .free), (PySem.Str.ofString "super", .globalImplicit)], isGenerator := false, isCoroutine := false, more := [] }
/-- a word or a number that an f-string shows -/
def Showable (v : Value) : Prop := (∃ z t, v = .str z t ∧ z.length ≤ 1000) ∨ ∃ i t, v = .int i t ∧ i.natAbs.log2 < 1920
/-- the f-string gives some text -/
def PartsOk (fld : Str) (parts : List Expr) (jp : Pos) : Prop := ∀ (prog : Program) (w : World) (A : Around) (E : Value → Shared → Prop) (qual : Str) (L a cc : Addr) (cd : Value) (s : Shared) (m : Str → Option Value) (v : Value) (Q : Value → Shared → Prop),
  s.heap.Ns L m → m fld = some v → Showable v → (∀ z tk t', Q (.str z tk) { s with toks := t' }) → wpAny (model prog w) A (eval (.JoinedStr parts jp) (ksEnv qual (supS fld) L a cd cc)) Q E s
def pz (ps : List Pos) (i : Nat) : Pos := ps.getD i ⟨0, 0, 0, 0⟩
def CallOk (fld : Str) (parts : List Expr) (ps : List Pos) : Prop := ∀ (qual : Str) (L a cc : Addr) (cd : Value), ∃ pl : Sem Bool,
  eval (.Call (.Attribute (.Call (.Name "super" (pz ps 0)) [] [] (pz ps 1)) "__init__" (pz ps 2)) [.JoinedStr parts (pz ps 3)] [] (pz ps 4)) (ksEnv qual (supS fld) L a cd cc) = (do
      let ov ← attributeBase (.Call (.Name "super" (pz ps 0)) [] [] (pz ps 1)) "__init__" (ksEnv qual (supS fld) L a cd cc) (eval (.Call (.Name "super" (pz ps 0)) [] [] (pz ps 1)) (ksEnv qual (supS fld) L a cd cc))
      standAt (pz ps 2).atName
      let (f, first) ← holding [ov] (getMethod ov "__init__" pl)
      callWith (pz ps 4) f first (backTo (pz ps 4) (starEach [.JoinedStr parts (pz ps 3)] (ksEnv qual (supS fld) L a cd cc))) [])
structure SupTxt (P : Program) (K : Frag) (mg : Str → Option Value) (nm fld : Str) (C fI : Addr) : Prop where
  gC : mg nm = some (.ref C)
  cls : ∃ nm q N bs bm sn sub ab col dd k0 k1 k2 k3 k5, K.lookup C = some (excClassObj nm q C N bs bm true sn sub ab col dd k0 k1 k2 k3 k5 "ValueError.__new__") ∧ refsVE bm = true
  sa : findIn K (.ref C) "__setattr__" = some (some (.builtin "object.__setattr__"))
  ga : findIn K (.ref C) "__getattribute__" = some (some (.builtin "BaseException.__getattribute__"))
  gg : findIn K (.ref C) "__getattr__" = some none
  noN : findIn K (.ref C) fld = some none
  iC : findIn K (.ref C) "__init__" = some (some (.ref fI))
  tC : typeIn K (.ref fI) = some (.type "function")
  kC : keepIn K (.ref C) = true
  exC : subIn K (.ref C) (.type "BaseException") = some true
  tyC : typeIn K (.ref C) = some (.type "type")
  hdC : hasDictIn K C = true
  te : exmOne K (.ref C) (.ref C) = some true
  sup : ks_superIn K C C "__init__" = some (some (.builtin "ValueError.__init__"))
  subV : subIn K (.ref C) (.type "ValueError") = some true
  selfC : mroIn K C (.ref C) = some true
  gsup : nsIn K mainGlobals "super" = some none
  opq : nsIn K cStatics "thirdparty.any" = some none
  htop : (P.main.scope.names.lookup ("super" : Str)).isSome = false
  fn : ∃ (oc : Value) (od : Option Addr) (doc pm kV : Value) (an : Option Addr) (cda cc : Addr) (ct : Value) (osl : Array (Option Value)) (p1 p2 q1 q2 q3 q4 : Pos) (ps : List Pos) (parts : List Expr) (qual : Str),
    K.lookup fI = some ⟨oc, od, .func (ksFn "__init__" qual (supA fld p1 p2) (supB fld parts ps q1 q2 q3 q4) (supS fld) .none kV doc pm an (.ref cda) ct cc), osl⟩ ∧ codeIn K (.ref cda) qual = true ∧
    (∃ ccl cdd vs ccs file tf, K.lookup cda = some ⟨ccl, cdd, .fields vs, ccs⟩ ∧ vs[2]? = some (.str file tf) ∧ ((P.main.file : Str) == file) = true) ∧
    (∃ cl cld csl, K.lookup cc = some ⟨cl, cld, .cell (some (.ref C)), csl⟩) ∧ PartsOk fld parts (pz ps 3) ∧ CallOk fld parts ps
theorem kept_but {K : Frag} {h h' : Heap} {x : Addr} (X : K.In h) (hx : K.lookup x = none) (k : ∀ b o, b ≠ x → h.get? b = some o → h'.get? b = some o) : K.In h' := fun a o e =>
  k a o (fun z => by rw [z, hx] at e; cases e) (X a o e)
/-- what __init__ leaves of a fresh exception at x -/
structure InitEnd (h h' : Heap) (x C dx : Addr) (fld : Str) (v : Value) : Prop where
  keep : ∀ b o, b ≠ x → h.get? b = some o → h'.get? b = some o
  obj : ∃ t1 : Addr, h'.get? x = some { cls := .ref C, dict := some dx, data := .fields #[.ref t1, .none, .none, .none, .bool false, .none] }
  dbig : h.objs.size ≤ dx
  dne : dx ≠ x
  ns : h'.Ns1 dx (fun y => if y = fld then some v else none)
structure OwnMade (h h' : Heap) (e C d : Addr) (fld : Str) (v : Value) : Prop where
  keep : ∀ b o, h.get? b = some o → h'.get? b = some o
  new : h.objs.size ≤ e
  obj : ∃ oe vs, h'.get? e = some oe ∧ oe.cls = .ref C ∧ oe.dict = some d ∧ oe.data = .fields vs ∧ vs[1]? = some .none
  dbig : h.objs.size ≤ d
  dne : d ≠ e
  ns : h'.Ns1 d (fun y => if y = fld then some v else none)
theorem one_size (v : Value) : [v].length ≤ sizeLine := by
  rw [sizeLine_eq]
  exact (by decide : 1 ≤ 16777216)
theorem ld_ks {M : Model} {s : Shared} {name : Str} {scope : Scope} {L a cc : Addr} {cd : Value} {m : Str → Option Value} {x : Str} {pos : Pos} {v : Value} {Q : Value → Shared → Prop} {A : Around} {E : Value → Shared → Prop} (hn : s.heap.Ns L m) (hv : m x = some v) (h : Q v s)
    (hk : scope.kind = .function) (hl : (ksEnv name scope L a cd cc).kindOf x = some .local) (hd : (x == ("__debug__" : Str)) = false) :
    wpAny M A (eval (.Name x pos) (ksEnv name scope L a cd cc)) Q E s := wpAny_Name (wpAny_loadName_local hk hl hn hv h) hd
theorem len_small {z : Str} (h : z.length ≤ 100000) : z.length ≤ sizeLine := Nat.le_trans h (by rw [sizeLine_eq]; decide)
end
section
open PySem PySem.W PySem.Calls PyProof.Rows PySem.HandSPX
section
variable {prog : Program} {w : World} {A : Around} {E : Value → Shared → Prop} {qual fld : Str} {L a cc : Addr} {cd : Value} {s : Shared} {m : Str → Option Value} {v : Value}
theorem fmt_fld {pos p : Pos} {Q : Value → Shared → Prop} (hn : s.heap.Ns L m) (hv : m fld = some v) (hs : Showable v) (hl : (ksEnv qual (supS fld) L a cd cc).kindOf fld = some .local) (hd : (fld == ("__debug__" : Str)) = false)
    (h : ∀ (z : Str) tk t', z.length ≤ 2000 → Q (.str z tk) { s with toks := t' }) : wpAny (model prog w) A (eval (.FormattedValue (.Name fld p) (-1) none pos) (ksEnv qual (supS fld) L a cd cc)) Q E s := by
  refine wpAny_FormattedValue_plain (ld_ks hn hv ?_ rfl hl hd)
  rcases hs with ⟨z, t, rfl, hz⟩ | ⟨i, t, rfl, hi⟩
  · exact wpAny_formatField_str (h z t _ (by omega)) (h z _ _ (by omega)) (len_small (by omega))
  · refine wpAny_formatField_int hi (h _ _ _ ?_)
    have e := int_text_length_le (k := 1920) (by decide) hi
    have e2 : (Str.ofString (toString i)).length = (toString i).length := PySem.ofString_length _
    show (Str.ofString (toString i)).length ≤ 2000
    omega
theorem join2 {c1 : Str} {k1 : Nat} {p1 p2 p3 jp : Pos} {Q : Value → Shared → Prop} (hn : s.heap.Ns L m) (hv : m fld = some v) (hs : Showable v) (hl : (ksEnv qual (supS fld) L a cd cc).kindOf fld = some .local) (hd : (fld == ("__debug__" : Str)) = false) (hc : c1.length ≤ 100)
    (h : ∀ z tk t', Q (.str z tk) { s with toks := t' }) : wpAny (model prog w) A (eval (.JoinedStr [.Constant (.str c1) k1 p1, .FormattedValue (.Name fld p2) (-1) none p3] jp) (ksEnv qual (supS fld) L a cd cc)) Q E s := by
  refine wpAny_JoinedStr ?_
  show wpAny _ _ (eval (.Constant (.str c1) k1 p1) _) _ _ _
  refine Constant_str ?_
  refine ⟨_, _, rfl, ?_, ?_⟩
  · rw [strLen_append]
    have e0 : Str.empty.length = 0 := rfl
    exact Nat.le_trans (show _ ≤ 100000 by omega) (by rw [sizeLine_eq]; decide)
  · show wpAny _ _ (eval (.FormattedValue (.Name fld p2) (-1) none p3) _) _ _ _
    refine fmt_fld (s := { s with toks := s.toks + 1 }) hn hv hs hl hd fun z tk t' hz => ?_
    have e : ((Str.empty ++ c1) ++ z).length ≤ 100000 := by
      rw [strLen_append, strLen_append]
      have e0 : Str.empty.length = 0 := rfl
      omega
    exact ⟨_, _, rfl, len_small e, len_small e, h _ _ _⟩
theorem join3 {c1 c2 : Str} {k1 k2 : Nat} {p1 p2 p3 p4 jp : Pos} {Q : Value → Shared → Prop} (hn : s.heap.Ns L m) (hv : m fld = some v) (hs : Showable v) (hl : (ksEnv qual (supS fld) L a cd cc).kindOf fld = some .local) (hd : (fld == ("__debug__" : Str)) = false) (hc : c1.length ≤ 100) (hc2 : c2.length ≤ 100)
    (h : ∀ z tk t', Q (.str z tk) { s with toks := t' }) : wpAny (model prog w) A (eval (.JoinedStr [.Constant (.str c1) k1 p1, .FormattedValue (.Name fld p2) (-1) none p3, .Constant (.str c2) k2 p4] jp) (ksEnv qual (supS fld) L a cd cc)) Q E s := by
  refine wpAny_JoinedStr ?_
  show wpAny _ _ (eval (.Constant (.str c1) k1 p1) _) _ _ _
  refine Constant_str ?_
  refine ⟨_, _, rfl, ?_, ?_⟩
  · rw [strLen_append]
    have e0 : Str.empty.length = 0 := rfl
    exact Nat.le_trans (show _ ≤ 100000 by omega) (by rw [sizeLine_eq]; decide)
  · show wpAny _ _ (eval (.FormattedValue (.Name fld p2) (-1) none p3) _) _ _ _
    refine fmt_fld (s := { s with toks := s.toks + 1 }) hn hv hs hl hd fun z tk t' hz => ?_
    have e : ((Str.empty ++ c1) ++ z).length ≤ 100000 := by
      rw [strLen_append, strLen_append]
      have e0 : Str.empty.length = 0 := rfl
      omega
    have e2 : (((Str.empty ++ c1) ++ z) ++ c2).length ≤ 100000 := by
      rw [strLen_append, strLen_append, strLen_append]
      have e0 : Str.empty.length = 0 := rfl
      omega
    refine ⟨_, _, rfl, len_small e, ?_⟩
    show wpAny _ _ (eval (.Constant (.str c2) k2 p4) _) _ _ _
    refine Constant_str ?_
    exact ⟨_, _, rfl, len_small e2, len_small e2, h _ _ _⟩
end
section
variable {prog : Program} {w : World} {A : Around} {E : Value → Shared → Prop} {R : Result → Shared → Prop} {s : Shared} {K : Frag} {mg : Str → Option Value} {nm fld : Str} {C fI : Addr}
theorem opaque_keep {h h' : Heap} {M : Model} (X : K.In h) (e : nsIn K cStatics "thirdparty.any" = some none) : Looks M h (opaqueClassAbove (.ref C)) none := looks_opaque X e
/-- ValueError.__init__ bound, called -/
theorem call_mw {h : Heap} {g : Array GenState} {d : Drawn} {t : Nat} {os : OsState} {nm q : Str} {N : Addr} {bs bm : List Value} {hdct : Bool} {sn : List Str} {sub : List Value} {ab : Bool} {col : Option Bool} {dd : Option Addr} {k0 k1 k2 k3 k5 : Option Value} {u e t0 : Addr} {rest : List Value} {Q : Value → Shared → Prop}
    (hC : h.get? C = some (excClassObj nm q C N bs bm hdct sn sub ab col dd k0 k1 k2 k3 k5 "ValueError.__new__")) (he : h.get? e = some (excO C t0)) (hu : h.get? u = some (kxs_mw "ValueError.__init__" e)) (hrest : rest.length ≤ sizeLine)
    (hq : ∀ h' t1, (∀ b o, b ≠ e → h.get? b = some o → h'.get? b = some o) → h'.get? e = some (excO C t1) → Q .none ⟨h', g, d, t, os⟩) :
    wpAny (model prog w) A (call (.ref u) rest) Q E ⟨h, g, d, t, os⟩ := by
  refine wpAny_call (codeAny_of_tree ?_)
  show wpAny _ A.in1 (callAny (.ref u) ⟨rest, []⟩) _ _ _
  simp only [callAny]
  refine wpAny_bind (wpAny_load hu ?_)
  simp only [kxs_mw, show (Value.type "method-wrapper" == Value.type "method" || Value.type "method-wrapper" == Value.type "builtin_function_or_method" || Value.type "method-wrapper" == Value.type "method-wrapper") = true by decide, if_true]
  refine KFB.if_so (by decide) ?_
  refine wpAny_bind (check_bound_init F.excBase_ValueError.toExcCallFacts hC he rfl ?_)
  refine wpAny_bind (wpAny_pure (wpAny_pure ?_))
  refine ⟨plainId_quiet F.excBase_ValueError.init.plain _, codeAny_builtin F.excBase_ValueError.initEntry ?_⟩
  rw [Around.under_plainId F.excBase_ValueError.init.plain _]
  wp_walk
  refine hq _ h.objs.size (fun b o hb ho => ?_) ?_
  · rw [Heap.get?_update_other _ _ (Ne.symm hb)]
    exact Heap.get?_push_of_some _ ho
  · rw [Heap.get?_update_self _ (Heap.get?_push_of_some _ he) rfl]
    rfl
end
end
section
open PySem PySem.W PySem.Calls PyProof.Rows PySem.HandSPX
section
variable {prog : Program} {w : World} {A : Around} {E : Value → Shared → Prop} {R : Result → Shared → Prop} {s : Shared} {K : Frag} {mg : Str → Option Value} {nm fld : Str} {C fI : Addr}
structure FldOk (fld : Str) : Prop where
  fs : ("self" : Str) ≠ fld
  fl : ((supS fld).names.lookup fld) = some .local
  lo : (supS fld).names.lookup ("self" : Str) = some .local
  fr : (supS fld).names.lookup ("__class__" : Str) = some .free
  gl : (supS fld).names.lookup ("super" : Str) = some .globalImplicit
  db : (fld == ("__debug__" : Str)) = false
  nc : ∀ x ∈ (supS fld).names, x.2 ≠ .cell
  bd : ∀ (qual : Str) (p1 p2 : Pos) (body : List Stmt) (kV doc pm : Value) (an : Option Addr) (cdv ct : Value) (cc : Addr) (x v : Value), bindArgs (ksFn "__init__" qual (supA fld p1 p2) body (supS fld) .none kV doc pm an cdv ct cc) ⟨[x, v], []⟩ = pure [(("self" : Str), x), (fld, v)]
theorem fld_word : FldOk "word" := ⟨by decide +kernel, rfl, rfl, rfl, rfl, by decide +kernel, by decide +kernel, fun _ _ _ _ _ _ _ _ _ _ _ _ _ => rfl⟩
theorem fld_line : FldOk "line" := ⟨by decide +kernel, rfl, rfl, rfl, rfl, by decide +kernel, by decide +kernel, fun _ _ _ _ _ _ _ _ _ _ _ _ _ => rfl⟩
theorem sup_init (T : SupTxt prog K mg nm fld C fI) {x t0 : Addr} {v : Value} (X : K.In s.heap) (hlim : s.heap.NoLimit) (hG : s.heap.Ns mainGlobals mg) (hB : ∃ mb, s.heap.Ns builtinsNs mb ∧ ∀ x : Str, x ≠ "__name__" → mb x = bootBuiltins x)
    (hx : s.heap.get? x = some (excO C t0)) (hnx : K.lookup x = none) (hroom : A.depth < recursionLimit) (hs : Showable v) (FO : FldOk fld)
    (hq : ∀ h' tk dx, InitEnd s.heap h' x C dx fld v → R (.ok (.ret .none)) { s with heap := h', toks := tk }) :
    codeAny (model prog w) A (.call (.ref fI) ⟨[.ref x, v], []⟩) R s := by
  obtain ⟨hfs, hfl, hlo, hfr, hgl, hdb, hnc, hbd⟩ := FO
  obtain ⟨oc, od, doc, pm, kV, an, cda, cc, ct, osl, p1, p2, q1, q2, q3, q4, ps, parts, qual, ho, hcd, ⟨ccl, cdd, cvs, ccs, file, tf, hcode, hvs, hfile⟩, ⟨cl, cld, csl, hcell⟩, hpo, hco⟩ := T.fn
  obtain ⟨nm', q, N, bs, bm, sn, sub, ab, col, dd, k0, k1, k2, k3, k5, hC, hbm⟩ := T.cls
  have hcl : clsIn K C = some { name := nm', bases := bs, mro := .ref C :: bm, ns := N, qualname := q, hasDict := true, slotNames := sn, subclasses := sub, abstract := ab, collection := col, hasDel := false } := by unfold clsIn; rw [hC] <;> rfl
  refine ks_codeAny_call_defAt (fd := ksFn "__init__" qual (supA fld p1 p2) (supB fld parts ps q1 q2 q3 q4) (supS fld) .none kV doc pm an (.ref cda) ct cc) (body := supB fld parts ps q1 q2 q3 q4) (binds := [("self", .ref x), (fld, v)]) hroom (X _ _ ho) rfl hlim (codeRec_of X hcd) rfl
    (BindsTo.of_eq (hbd _ _ _ _ _ _ _ _ _ _ _ _ _)) hnc (fun y hy => ?_) (fun h₀ hns hk => ?_)
  · rcases List.mem_cons.mp hy with rfl | hy
    · exact hlo
    · rw [List.mem_singleton.mp hy]
      exact hfl
  obtain ⟨hp, g, d, tk, os⟩ := s
  dsimp only at hns hk hx X hlim hG hB hq ⊢
  have X₀ : K.In h₀ := X.keeps hk
  have hself : ([(("self" : Str), Value.ref x), (fld, v)].reverse.lookup ("self" : Str)) = some (.ref x) := by
    show List.lookup _ [(fld, v), (("self" : Str), Value.ref x)] = _
    have e : (("self" : Str) == fld) = false := by simpa using hfs
    simp [List.lookup, e]
  have hfld : ([(("self" : Str), Value.ref x), (fld, v)].reverse.lookup fld) = some v := by
    show List.lookup _ [(fld, v), (("self" : Str), Value.ref x)] = _
    simp [List.lookup]
  generalize hm : (fun x_1 => [(("self" : Str), Value.ref x), (fld, v)].reverse.lookup x_1) = m at hns
  have hself : m "self" = some (.ref x) := by rw [← hm]; exact hself
  have hfld : m fld = some v := by rw [← hm]; exact hfld
  have hx₀ := hk _ _ hx
  have I₀ : InstAt h₀ x (excO C t0) C none := ⟨hx₀, rfl, rfl, trivial⟩
  have hD1 := X₀ _ _ hC
  show _root_.PySem.wpAt (model prog w) _ (.func _ (ksEnv qual (supS fld) hp.objs.size fI (.ref cda) cc)) (execs (supB fld parts ps q1 q2 q3 q4) (ksEnv qual (supS fld) hp.objs.size fI (.ref cda) cc)) _ _ _
  obtain ⟨pl, hco⟩ := hco qual hp.objs.size fI cc (.ref cda)
  refine ks_wpAt_execs_cons (ks_wpAt_Expr_any (ks_wpAt_MethodCall (pl := pl) ?_ hco))
  obtain ⟨mb, hB1, hB2⟩ := hB
  refine ks_wpAt_super_base (env := ksEnv qual (supS fld) hp.objs.size fI (.ref cda) cc) hgl hfr rfl rfl (X₀ _ _ ho) rfl rfl rfl (X₀ _ _ hcode) rfl hvs hfile T.htop ?_
  refine ks_loadName_global rfl hgl (loadGlobal_builtin (env := ksEnv qual (supS fld) hp.objs.size fI (.ref cda) cc) (hG.keeps hk) (mg_none_of X hG T.gsup) (hB1.keeps hk) ((hB2 _ (by decide +kernel)).trans (by first | boot_by_name | rfl | kernel_rfl)) ⟨rfl, ?_⟩)
  refine wpAny_loadName_free rfl hfr rfl ⟨_, X₀ _ _ hcell, rfl⟩ ?_
  refine wpAny_loadName_local rfl hlo hns hself ?_
  refine ks_wpAny_isType_cls hD1 rfl ⟨rfl, ?_⟩
  refine ks_wpAny_call_super hD1 rfl hx₀ rfl (fun c e => by cases e) (looks_mroIn X₀ T.selfC) (fun h₁ hso k₁ => ?_)
  have X₁ : K.In h₁ := X₀.keeps k₁
  have hx₁ := k₁ _ _ hx₀
  have I₁ : InstAt h₁ x (excO C t0) C none := ⟨hx₁, rfl, rfl, trivial⟩
  have hI : Looks (model prog w) h₁ (isInstance (.ref x) (.type "ValueError")) true := I₁.type.andThen (looks_subIn X₁ T.subV)
  have hsup := T.sup
  unfold ks_superIn at hsup
  rw [hcl] at hsup
  refine kxs_getMethod kxs_ValueError hso (looks_opaque X₁ T.opq) (l₀ := .ref C :: bm) ?_ rfl X₁ hsup hI (ks_ne X₁ I₁ hcl) rfl ?_
  · exact fun A Q E s k q => wpAny_bind ((looks_clsIn X₁ hcl) A _ E s k (wpAny_pure q))
  have hns₂ := (hns.keeps k₁).keeps (h' := h₁.push (kxs_mw "ValueError.__init__" x)) fun b o e => Heap.get?_push_of_some _ e
  have hmw : (h₁.push (kxs_mw "ValueError.__init__" x)).get? h₁.objs.size = some (kxs_mw "ValueError.__init__" x) := Heap.get?_push_at rfl rfl
  have k₂ : ∀ b o, h₀.get? b = some o → (h₁.push (kxs_mw "ValueError.__init__" x)).get? b = some o := fun b o e => Heap.get?_push_of_some _ (k₁ _ _ e)
  generalize hh2 : h₁.push (kxs_mw "ValueError.__init__" x) = h₂ at hns₂ hmw k₂
  refine kxs_callWith (i := "ValueError.__init__") (x := x) rfl (evalArgs_plain (spliced_cons ?_))
  refine hpo prog w _ _ qual _ _ _ _ _ m v _ hns₂ hfld hs fun z tk1 t1 => ?_
  refine spliced_nil ⟨hmw, ?_⟩
  have X₂ : K.In h₂ := X₀.keeps k₂
  have hx₂ := k₂ _ _ hx₀
  refine call_mw (X₂ _ _ hC) hx₂ hmw (one_size _) fun h₃ t3 k₃ hx₃ => ?_
  have X₃ : K.In h₃ := kept_but X₂ hnx k₃
  have hxL : hp.objs.size ≠ x := Nat.ne_of_gt (Heap.lt_size hx)
  have hns₃ : h₃.Ns hp.objs.size m := by
    obtain ⟨oL, es, ep, hL, r⟩ := hns₂
    exact ⟨oL, es, ep, k₃ _ _ hxL hL, r⟩
  show _root_.PySem.wpAt _ _ _ (execs _ _) _ _ _
  refine ks_wpAt_execs_cons (ks_wpAt_Assign_Attr ?_)
  refine wpAt_of_wpAny (ld_ks hns₃ hfld ?_ rfl hfl hdb)
  refine ld_ks hns₃ hself ?_ rfl hlo (by decide)
  refine set_plain X₃ (ox := excO C t3) (od := none) ⟨hx₃, rfl, rfl, trivial⟩ T.sa ?_
  refine exc_osa X₃ hx₃ hcl (show refsVE (.ref C :: bm) = true from hbm) rfl T.noN (fun h₄ tk₄ dx k₄ dn dne hx₄ hn₄ => ?_)
  show _root_.PySem.wpAt _ _ _ (execs _ _) _ _ _
  have z : hp.objs.size < h₃.objs.size := hns₃.lt
  refine wpAt_of_wpAny (wpAny_execs_nil (hq h₄ tk₄ dx ⟨fun b o hb e => k₄ b o hb (k₃ b o hb (k₂ b o (hk b o e))), ⟨t3, hx₄⟩, Nat.le_of_lt (Nat.lt_of_lt_of_le z dn), dne, hn₄⟩))
theorem sup_made (T : SupTxt prog K mg nm fld C fI) {v : Value} (X : K.In s.heap) (hlim : s.heap.NoLimit) (hG : s.heap.Ns mainGlobals mg) (hB : ∃ mb, s.heap.Ns builtinsNs mb ∧ ∀ x : Str, x ≠ "__name__" → mb x = bootBuiltins x) (hroom : A.depth + 1 < recursionLimit) (hs : Showable v)
    (FO : FldOk fld)
    (hq : ∀ h' tk e d, OwnMade s.heap h' e C d fld v → R (.ok (.ret (.ref e))) { s with heap := h', toks := tk }) :
    codeAny (model prog w) A (.call (.ref C) ⟨[v], []⟩) R s := by
  obtain ⟨nm, q, N, bs, bm, sn, sub, ab, col, dd, k0, k1, k2, k3, k5, hC, hbm⟩ := T.cls
  obtain ⟨hp, g, dr, tk, os⟩ := s
  have k : ∀ b o, hp.get? b = some o → ((hp.push (kdv_tup [v])).push (excO C hp.objs.size)).get? b = some o := fun b o e => Heap.get?_push_of_some _ (Heap.get?_push_of_some _ e)
  have hget : ((hp.push (kdv_tup [v])).push (excO C hp.objs.size)).get? (hp.objs.size + 1) = some (excO C hp.objs.size) := by heap_get
  have hnx : K.lookup (hp.objs.size + 1) = none := by
    cases e : K.lookup (hp.objs.size + 1) with
    | none => rfl
    | some o =>
      have z : hp.get? (hp.objs.size + 1) = some o := X _ _ e
      exact absurd (Nat.lt_of_succ_lt (Heap.lt_size z)) (Nat.lt_irrefl _)
  refine call_own F.excBase_ValueError (fun X => refsVE_contains X bm hbm) (X _ _ hC) (looks_findIn X T.iC) (fun self => bind_fn X self T.tC) (one_size v) ?_
  refine sup_init (s := ⟨(hp.push (kdv_tup [v])).push (excO C hp.objs.size), g, dr, tk, os⟩) T (X.keeps k) (hlim.keeps k) (hG.keeps k) (hB.imp fun mb h => ⟨h.1.keeps k, h.2⟩) hget hnx ?_ hs FO fun h' tk' dx ⟨k', hx, dn, dne, hns⟩ => ?_
  · show A.depth + 1 < recursionLimit
    exact hroom
  · have old : ∀ b o, hp.get? b = some o → h'.get? b = some o := fun b o e => k' b o (Nat.ne_of_lt (Nat.lt_succ_of_lt (Heap.lt_size e))) (k b o e)
    have z : hp.objs.size + 1 + 1 ≤ dx := by
      first
        | (simpa only [Heap.size_push] using dn)
        | exact dn
        | (have q := dn; rw [Heap.size_push, Heap.size_push] at q; exact q)
    obtain ⟨t1, hx⟩ := hx
    exact ⟨rfl, hq h' tk' (hp.objs.size + 1) dx ⟨old, Nat.le_succ _, ⟨_, _, hx, rfl, rfl, rfl, rfl⟩, Nat.le_trans (Nat.le_trans (Nat.le_succ _) (Nat.le_succ _)) z, dne, hns⟩⟩
end
end
section
open PySem PySem.Spec PyProof.Rows L2
theorem relO_fld {v : V} {v' : Value} (r : RelV v v') (fld f : Str) : RelO (List.lookup f [(fld, v)]) (if f = fld then some v' else none) := by
  by_cases hw : f = fld
  · subst hw
    rw [if_pos rfl]
    have q : List.lookup f [(f, v)] = some v := by simp [List.lookup]
    rw [q]
    exact r
  · rw [if_neg hw]
    have qw : (f == fld) = false := by simpa using hw
    have q2 : List.lookup f [(fld, v)] = none := by simp [List.lookup, qw]
    rw [q2]
    trivial
/-- a word or a small number -/
def ShowV (v : V) : Prop := (∃ z, v = .str z ∧ z.length ≤ 1000) ∨ ∃ i : Int, v = .int i ∧ i.natAbs.log2 < 1920
theorem showV_of {v : V} {u : Value} (h : ShowV v) (r : RelV v u) : Showable u := by
  rcases h with ⟨z, rfl, hz⟩ | ⟨i, rfl, hi⟩
  · obtain ⟨t, rfl⟩ := r
    exact .inl ⟨z, t, rfl, hz⟩
  · obtain ⟨t, rfl⟩ := r
    exact .inr ⟨i, t, rfl, hi⟩
section
variable {X : Cx} {C fI : Addr} {nm fld : Str}
/-- C(e) -/
def tMkSup (C : Addr) (fld : Str) (ta : TA) : L2.St → Hp → XK → Prop := fun σ H Q => ta σ H fun vs H1 => ∃ v, vs = [v] ∧ ShowV v ∧ ∀ d, H1 d = none → Q (.ref C) (some d) (upd H1 d (.xd [(fld, v)]))
theorem pmk_sup {a : Expr} {ta : TA} {p pos : Pos} {k : Nat} (FO : FldOk fld) (T : SupTxt X.prog X.K X.mg nm fld C fI) (hr : Room k X.A) (ha : PA X [a] ta) (hg : Gl X nm) (hdb : (nm == ("__debug__" : Str)) = false)
    (he : starEach (a :: []) X.env = (false, eval a X.env) :: starEach [] X.env) (hpl : (backTo pos (starEach [] X.env)).any (·.1) = false) :
    PMk X (.Call (.Name nm p) [a] [] pos) (tMkSup C fld ta) := by
  intro pins s σ H Q I h
  refine wpAny_Call_Name_kw (ld_glob I hg T.gC ?_ hdb)
  refine PySem.W.callWith_K (h₀ := X.base) I.ok.mod.kin T.kC (thn (ha.run pos pins s σ H _ I h) fun us s1 hh => ?_) he hpl
  obtain ⟨vs, H1, I1, r1, v, ev, hsv, q1⟩ := hh
  subst ev
  refine ⟨I1.kIn, ?_⟩
  cases r1 with
  | cons rv rn =>
    rename_i v' us'
    cases rn
    show wpAny _ _ (call (.ref C) [v']) _ _ _
    have hlim := I1.nolimit
    have hG := I1.mod.glob.keeps I1.bk
    have hB : ∃ mb, s1.heap.Ns builtinsNs mb ∧ ∀ x : Str, x ≠ "__name__" → mb x = bootBuiltins x := I1.mod.blt.imp fun mb h => ⟨h.1.keeps I1.bk, h.2⟩
    obtain ⟨hp, g, dr, tk, os⟩ := s1
    refine wpAny_call (sup_made T I1.kIn hlim hG hB (by have := hr.dp; omega) (showV_of hsv rv) FO fun h' tk' e d M => ?_)
    show MkP X pins σ Q (.ref e) ⟨h', g, dr, tk', os⟩
    obtain ⟨oe, fv, hoe, hc, hd, hdat, h1⟩ := M.obj
    have hns := M.ns
    obtain ⟨G', g1, g2⟩ := restrict h' fun b => decide (b ≠ e)
    have gk : ∀ b, b ≠ e → G'.get? b = h'.get? b := fun b hb => g1 b (decide_eq_true hb)
    have ge : G'.get? e = none := g2 e (by simp)
    have old : ∀ b o, hp.get? b = some o → G'.get? b = some o := fun b o q => (gk b (Nat.ne_of_lt (Nat.lt_of_lt_of_le (Heap.lt_size q) M.new))).trans (M.keep b o q)
    have ob : ObjOk X.prog X.w (upd H1 d (.xd [(fld, v)])) G' d (.xd [(fld, v)]) :=
      ⟨_, hns.at (fun o q => (gk d M.dne).trans q), fun f => relO_fld rv fld f⟩
    have J : Inv X pins σ (upd H1 d (.xd [(fld, v)])) ⟨G', g, dr, tk', os⟩ := I1.laid (t' := tk') old M.dbig ob
    refine ⟨e, oe, fv, ⟨G', g, dr, tk', os⟩, _, .ref C, some d, rfl, J, fun b o q => ?_, ge, hoe, ⟨hc, hd⟩, hdat, h1, ?_, rfl, I1.bare, raises_own T.exC T.tyC, q1 d (I1.hok.fresh M.dbig)⟩
    · by_cases hb : b = e
      · have q' : G'.get? b = some o := q
        rw [hb, ge] at q'; cases q'
      · exact (gk b hb).symm.trans q
    · rw [upd_ne (Ne.symm M.dne)]
      exact I1.hok.fresh M.new
/-- raise C(e) -/
def tRaiseSup (C : Addr) (fld : Str) (W : WX) (ta : TA) : TS := fun _ σ H => tMkSup C fld ta σ H fun cls d H' => W cls d σ H'
theorem ps_raiseSup {a : Expr} {ta : TA} {W : WX} {p pos pos2 : Pos} {k : Nat} (hc : X.calm = true) (FO : FldOk fld) (T : SupTxt X.prog X.K X.mg nm fld C fI) (hr : Room k X.A) (tk : Takes X W) (ha : PA X [a] ta) (hg : Gl X nm := by rfl) (hdb : (nm == ("__debug__" : Str)) = false := by decide)
    (he : starEach (a :: []) X.env = (false, eval a X.env) :: starEach [] X.env := by rfl) (hpl : (backTo pos (starEach [] X.env)).any (·.1) = false := by rfl) :
    PS X (.Raise (some (.Call (.Name nm p) [a] [] pos)) none pos2) (tRaiseSup C fld W ta) := ps_raise hc tk (pmk_sup FO T hr ha hg hdb he hpl)
end
end

open PySem PySem.Spec PyProof.Rows L2
/-! ### sorted of data -/
section
open PySem.W
theorem each_vals : ∀ {xs : List V} {us : List Value}, Vals xs us → EachIs (fun u x => RelV x u) us xs
  | _, _, .nil => .nil
  | _, _, .cons r t => .cons r (each_vals t)
theorem each_zip {γ : Type} : ∀ {xs : List V} {us : List Value} {ds : List γ}, Vals xs us → ds.length = xs.length → EachIs (fun u d => ∃ y, RelV y u ∧ (y, d) ∈ xs.zip ds) us ds
  | _, _, [], .nil, _ => .nil
  | _, _, d :: ds, .nil, h => by cases h
  | _, _, [], .cons _ _, h => by cases h
  | _, _, d :: ds, .cons (a := x) r t, h => by
    refine .cons ⟨x, r, List.mem_cons_self⟩ ?_
    exact (each_zip t (by simpa using h)).mono fun u e ⟨y, h1, h2⟩ => ⟨y, h1, List.mem_cons_of_mem _ h2⟩
/-- the sorted values, by their abstract ones -/
theorem each_back {γ : Type} {R : V → γ → Prop} : ∀ {us : List Value} {ds : List γ}, EachIs (fun u d => ∃ y, RelV y u ∧ R y d) us ds → ∃ ys, Vals ys us ∧ EachIs R ys ds
  | _, _, .nil => ⟨[], .nil, .nil⟩
  | _, _, .cons ⟨y, h1, h2⟩ t => by
    obtain ⟨ys, a, b⟩ := each_back t
    exact ⟨y :: ys, .cons h1 a, .cons h2 b⟩
theorem dpAll_len {K : PySem.W.Frag} {H : Hp} : ∀ {xs : List V} {ds : List PyData}, DpAll K H xs ds → ds.length = xs.length
  | _, _, .nil => rfl
  | _, _, .cons _ t => by rw [List.length_cons, List.length_cons, dpAll_len t]
theorem call_sortedU {X : Cx} (K : PySem.W.Frag) (hK : X.K = K) (hu : X.A.units + 64 < cLine) : CallR X (.builtin "sorted") (rSortD K) := by
  subst hK
  intro pins s σ H vs us Q I r h
  obtain ⟨a, xs, ds, rfl, hs, hd, hal, hk, hdep, q⟩ := h
  cases r with
  | cons r t =>
    cases t
    cases r
    obtain ⟨its, rv, hl, hz⟩ := I.list hs
    have hlen := dpAll_len hd
    obtain ⟨as, hr⟩ := Dp.readsAll I ds xs its hd rv
    have er : EachIs (fun v d => ∃ as, Reads s.heap v (id d) as) its ds := readsAll_each (enc := id) (bs := ds) (by rw [List.map_id]; exact hr)
    refine sorted_data (bs := ds) (enc := id) hl.isList (each_zip rv hlen) er (by rw [List.map_id]; exact hal) (by rw [List.map_id]; exact hk) (by rw [hlen]; exact hz) (fun d hm => ?_) fun out ho he => ?_
    · have := hdep d hm
      show X.A.units + 2 + d.depth < cLine
      omega
    · obtain ⟨ys, h1, h2⟩ := each_back he
      obtain ⟨ep, hp⟩ := PyProof.Rows.sortedAll_at s.heap its (List.toArray out)
      refine ⟨.ref _, upd H (s.heap.objs.size + 1) (.lst ys), I.laid (t' := s.toks) (fun _ _ => PyProof.Rows.sortedAll_old) (Nat.le_succ _) ⟨?_, out, ep, h1, hp⟩, rfl, q ys _ h2 (I.hok.fresh (Nat.le_succ _))⟩
      rw [h1.length, ho, hlen]
      exact hz
end

open PySem PySem.Spec PyProof.Rows L2
/-! ### sorted(xs, key=lambda x: ..) whose keys are ints -/
section
variable {P : Program} {w : World} {K : PySem.W.Frag} {mg : Str → Option Value} {base : Heap} {N : List Str} {x q : Str} {scope : Scope} {k : Nat} {f c : Addr} {params : Arguments} {body : Expr} {pm ctv : Value} {tb : TE}
/-- a lambda's object without captured names, called on one value -/
theorem lam_run {A : Around} {outer : List Env} {s : Shared} {H : Hp} {u : Value} {v : V} {Q : VK} (of : s.heap.get? f = some (PySem.W.kla_obj "<lambda>" q params body scope [] pm c ctv)) (hc : s.heap.CodeRec (.ref c) q) (S : FnScope N [x] scope) (hr : Room (k + 1) A)
    (e0 : Env0 P w K mg base A outer s H) (hb : bindArgs (PySem.W.kla_fn "<lambda>" q params body scope [] pm (.ref c) ctv) ⟨[u], []⟩ = pure [(x, u)]) (r : RelV v u)
    (hbody : PE (cxOf CX0 P w K mg base N q scope f (.ref c) A outer s H E0) body tb) (h : tb (start N [v]) H Q) :
    codeAny (model P w) A (.call (.ref f) ⟨[u], []⟩) (CR CX0 outer P w H s Q E0) s := by
  have lim : s.heap.NoLimit := e0.mod.nolimit.keeps fun b o e => (e0.bs b o e).1
  refine PySem.W.kla_callFunE hr.depth of rfl S.co S.gen rfl hc ?_
  rw [hb]
  refine wpAny_pure (wpAny_newFunctionEnv_cells S.kind (fun y hy => ?_) fun env he s1 z => ?_)
  · obtain rfl : y = (x, u) := by simpa using hy
    rcases S.par x (by simp) with j | j
    · exact .inl j
    · exact .inr ⟨j, PySem.W.cellsFrom_some _ _ _ (.inl j)⟩
  · subst he
    refine ⟨lim.keeps z.toInCall.keep, ?_⟩
    have I : Inv (cxOf CX0 P w K mg base N q scope f (.ref c) A outer s H E0) [] (start N [v]) H s1 := inv_start S hr.hd e0 rfl (.cons r .nil) z
    refine PySem.W.kla_codeExpr (wpAny_mono (hbody.run [] s1 _ H Q I h) (fun y s' hy => ?_) fun e s' he => he)
    obtain ⟨y', H', J, ry, qy⟩ := hy
    exact ⟨y', H', J.os, J.bare, J.base, J.hok, ry, qy⟩
end
/-- an untracked object is changed -/
theorem hok_free {P : Program} {w : World} {H : Hp} {h h' : Heap} {c : Addr} (ok : HOk P w H h) (n : H c = none) (kp : ∀ b o, b ≠ c → h.get? b = some o → h'.get? b = some o) : HOk P w H h' := fun a o e =>
  (ok a o e).stay (fun b u hb g => kp b u (by
    rintro rfl
    rcases hb with hb | hb
    · rw [← hb, n] at e
      cases e
    · rw [n] at hb
      cases hb) g) (fun _ z => z) fun _ _ z => z
theorem un_free {fs : List Addr} {H : Hp} {h h' : Heap} {c : Addr} (kp : ∀ b o, b ≠ c → h.get? b = some o → h'.get? b = some o) (there : ∃ o, h'.get? c = some o) : Un fs [c] H H h h' where
  keep := fun b o e _ _ hx => kp b o (by simpa using hx) e
  slot := fun b o e _ _ hx => ⟨o.slots, kp b o (by simpa using hx) e⟩
  free := fun _ _ _ n _ => n
  there := fun b o e hx => ⟨o, kp b o (by simpa using hx) e⟩
  tups := fun _ _ e => e
  frzs := fun _ _ _ e => e
  tbls := fun _ ps e => ⟨#[], by simpa using e⟩
/-- what was not there does not count -/
theorem un_drop {fs : List Addr} {H H' : Hp} {h h' : Heap} {c : Addr} (u : Un fs [c] H H' h h') (n : h.get? c = none) : Un fs [] H H' h h' := by
  have ne : ∀ b o, h.get? b = some o → b ∉ [c] := fun b o e z => by
    rw [show b = c by simpa using z, n] at e
    cases e
  exact ⟨fun b o e n1 n2 _ => u.keep b o e n1 n2 (ne b o e), fun b o e n1 n2 _ => u.slot b o e n1 n2 (ne b o e), fun b o e n1 _ => u.free b o e n1 (ne b o e), fun b o e _ => u.there b o e (ne b o e), u.tups, u.frzs, u.tbls⟩
theorem not_fr {X : Cx} {pins : List (Addr × Obj)} {σ : L2.St} {H : Hp} {s : Shared} (I : Inv X pins σ H s) {b : Addr} (hb : s.heap.objs.size ≤ b) : b ∉ frs X.stack := by
  intro z
  cases List.mem_cons.mp (I.stkSub b z) with
  | inl e =>
    have h1 := I.lt
    subst e
    exact absurd (Nat.lt_of_lt_of_le h1 hb) (Nat.lt_irrefl _)
  | inr e => exact I.nofs hb e
theorem vals_each : ∀ {xs : List V} {us : List Value}, PySem.W.EachIs (fun u x => RelV x u) us xs → Vals xs us
  | _, _, .nil => .nil
  | _, _, .cons r t => .cons r (vals_each t)
theorem ints_read (h : Heap) : ∀ {ks : List Int} {us : List Value}, Vals (ks.map V.int) us → PySem.W.EachIs (fun u d => ∃ as, Reads h u d as) us (ks.map PyData.int)
  | [], _, .nil => .nil
  | n :: ks, _, .cons ⟨t, e⟩ r => by
    subst e
    exact .cons ⟨[], .int n t⟩ (ints_read h r)

section
open PySem.W
def tSortLam (T : List (Addr × Str)) (K : PySem.W.Frag) (N : List Str) (ta : TA) (tb : TE) : TE := fun σ H Q => ta σ H fun vs H1 => ∃ (a : Addr) (xs : List V) (κ : V → Int), vs = [.ref a] ∧ SqL K H1 a xs ∧ LamX.Tabs T H1 ∧
  (∀ x ∈ xs, ∀ H2, Ext T [] H1 H2 → ∀ Q' : VK, (∀ H3, Ext T [] H2 H3 → Q' (.int (κ x)) H3) → tb (start N [x]) H2 Q') ∧ ∀ q H3, Nw H1 q → Ext T [] H1 H3 → H3 q = some (.lst (xs.mergeSort fun a b => decide (κ a ≤ κ b))) → Q (.ref q) H3
theorem tab_ext {T : List (Addr × Str)} {H H1 : Hp} (e : LamX.ExtN H H1) (t : LamX.Tabs T H1) : Ext T [] H H1 := ⟨fun b o _ n h => e b o h n, fun _ => t⟩
/-- the sort's loop over the items and its end -/
theorem sort_lam_run {X : Cx} {pins : List (Addr × Obj)} {σ : L2.St} {H : Hp} {s : Shared} {T : List (Addr × Str)} {N : List Str} {x q : Str} {scope : Scope} {k : Nat} {f c l : Addr} {params : Arguments} {body : Expr} {pm ctv : Value} {tb : TE} {xs : List V} {κ : V → Int} {Q : VK}
    (I : Inv X pins σ H s) (of : s.heap.get? f = some (kla_obj "<lambda>" q params body scope [] pm c ctv)) (fn : H f = none) (ff : f ∉ frs X.stack) (hc : H c = some (LamX.CodeO c q)) (S : FnScope N [x] scope) (hr : Room (k + 2) X.A)
    (hb : ∀ u, bindArgs (kla_fn "<lambda>" q params body scope [] pm (.ref c) ctv) ⟨[u], []⟩ = pure [(x, u)])
    (hbody : ∀ (A : Around) (s : Shared) (H : Hp), Room k (A.deeper (envOfC q scope s.heap.objs.size f (.ref c))) → PE (cxOf CX0 X.prog X.w X.K X.mg X.base N q scope f (.ref c) A X.stack s H E0) body tb)
    (hl : SqL X.K H l xs) (turn : ∀ x ∈ xs, ∀ H2, Ext T [] H H2 → ∀ Q' : VK, (∀ H3, Ext T [] H2 H3 → Q' (.int (κ x)) H3) → tb (start N [x]) H2 Q')
    (done : ∀ q H3, Nw H q → Ext T [] H H3 → H3 q = some (.lst (xs.mergeSort fun a b => decide (κ a ≤ κ b))) → Q (.ref q) H3) :
    wpAny (model X.prog X.w) X.A (call (.builtin "sorted") [.ref l] [(Str.ofString "key", .ref f)]) (EP X pins σ Q) X.xe s := by
  obtain ⟨its, rv, pl, hz⟩ := I.list hl
  have hlen : its.length = xs.length := rv.length.symm
  have hz' : its.length ≤ sizeLine := by rw [hlen]; exact hz
  refine sorted_of_sort pl.isList hz' (ksk_s1 _ _) (fun _ => ksk_l1 _ _) fun E' => ?_
  rw [ksk_t1]
  have hA := copyHeap_at s.heap its
  have hsz : (copyHeap s.heap its).objs.size = s.heap.objs.size + 2 := by
    unfold copyHeap
    rw [size_push', Heap.size_update, size_push']
  generalize ha : s.heap.objs.size + 1 = a at hA ⊢
  unfold ksk_tree
  obtain ⟨e1, hA1⟩ : ∃ e1, ((copyHeap s.heap its).update a (Obj.mapSeq fun _ => (#[] : Array Value))).get? a = some (seqObj "list" #[] e1) := ⟨_, get?_update_seq hA fun _ => #[]⟩
  refine wpAny_bind (listItems_at hA rfl ?_)
  refine wpAny_bind (listUpdate_at hA rfl ?_ (by rw [List.size_toArray]; exact hz') (Nat.zero_le _))
  refine wpAny_bind (seqEpoch_at hA1 rfl ?_)
  refine wpAny_bind (wpAny_newTuple ?_ (by show its.length ≤ _; exact hz'))
  refine wpAny_bind (wpAny_newList ?_ (Nat.zero_le _))
  refine wpAny_holding ?_
  have hkv : ((copyHeap s.heap its).update a (Obj.mapSeq fun _ => (#[] : Array Value)) |>.push (seqObj "tuple" its.toArray 0)).objs.size = s.heap.objs.size + 3 := by
    rw [size_push', Heap.size_update, hsz]
  show wpAny _ _ _ _ _ { s with heap := (((copyHeap s.heap its).update a (Obj.mapSeq fun _ => (#[] : Array Value))).push (seqObj "tuple" its.toArray 0)).push (seqObj "list" #[] 0) }
  have gK : ((((copyHeap s.heap its).update a (Obj.mapSeq fun _ => (#[] : Array Value))).push (seqObj "tuple" its.toArray 0)).push (seqObj "list" #[] 0)).get? (s.heap.objs.size + 3) = some (seqObj "list" #[] 0) := by
    rw [← hkv]
    exact Heap.get?_push_size _ rfl
  have gA : ((((copyHeap s.heap its).update a (Obj.mapSeq fun _ => (#[] : Array Value))).push (seqObj "tuple" its.toArray 0)).push (seqObj "list" #[] 0)).get? a = some (seqObj "list" #[] e1) := Heap.get?_push_of_some _ (Heap.get?_push_of_some _ hA1)
  have gO : ∀ b o, s.heap.get? b = some o → ((((copyHeap s.heap its).update a (Obj.mapSeq fun _ => (#[] : Array Value))).push (seqObj "tuple" its.toArray 0)).push (seqObj "list" #[] 0)).get? b = some o := fun b o e => by
    have hb : b ≠ a := by
      rw [← ha]
      exact Nat.ne_of_lt (Nat.lt_succ_of_lt (Heap.lt_size e))
    exact sortingHeap_old hb (copyHeap_old e)
  have eK : (((copyHeap s.heap its).update a (Obj.mapSeq fun _ => (#[] : Array Value))).push (seqObj "tuple" its.toArray 0)).objs.size = s.heap.objs.size + 3 := hkv
  rw [eK]
  generalize hk : s.heap.objs.size + 3 = kS at gK ⊢
  generalize ((((copyHeap s.heap its).update a (Obj.mapSeq fun _ => (#[] : Array Value))).push (seqObj "tuple" its.toArray 0)).push (seqObj "list" #[] 0)) = G at gK gA gO ⊢
  have hka : kS ≠ a := by
    rw [← hk, ← ha]
    exact Nat.ne_of_gt (Nat.lt_succ_of_lt (Nat.lt_succ_self _))
  have hleA : s.heap.objs.size ≤ a := by
    rw [← ha]
    exact Nat.le_succ _
  have hleK : s.heap.objs.size ≤ kS := by
    rw [← hk]
    exact Nat.le_add_right _ 3
  have sA : s.heap.get? a = none := Heap.get?_none_of_le hleA
  have sK : s.heap.get? kS = none := Heap.get?_none_of_le hleK
  have fA := not_fr I hleA
  have fK := not_fr I hleK
  unfold ksk_rest
  refine wpAny_bind (wpAny_rule ?_)
  rw [List.forIn_toArray]
  refine wpAny_bind (ksk_fold (fun i st => ∃ (Hi : Hp) (keys : Array Value) (ep : Nat), st.os = s.os ∧ AllBare st.gens ∧ Un (frs X.stack) [] H Hi s.heap st.heap ∧ HOk X.prog X.w Hi st.heap ∧ Ext T [] H Hi ∧ Hi a = none ∧ Hi kS = none ∧ Hi f = none ∧
      st.heap.get? kS = some (seqObj "list" keys ep) ∧ st.heap.get? a = some (seqObj "list" #[] e1) ∧ st.heap.get? f = some (kla_obj "<lambda>" q params body scope [] pm c ctv) ∧ Vals (((xs.take i).map κ).map V.int) keys.toList) its 0 _
    ⟨H, #[], 0, rfl, I.bare, .kept gO, I.hok.kept gO, .refl, I.hok.fresh hleA, I.hok.fresh hleK, fn, gK, gA, gO _ _ of, .nil⟩ ?step ?fin)
  case step =>
    rintro j v st hv ⟨Hi, keys, ep, k1, k2, k3, k4, k5, k6, k7, k8, k9, k10, k11, k12⟩
    simp only [Nat.zero_add] at k12 ⊢
    have J : Inv X pins σ Hi st := I.call' (ch := []) k1 k3 k4 k2 (by simp)
    have hj : j < its.length := (List.getElem?_eq_some_iff.mp hv).1
    obtain ⟨y, hy⟩ : ∃ y, xs[j]? = some y := ⟨_, List.getElem?_eq_getElem (by omega)⟩
    have hym : y ∈ xs := List.mem_of_getElem? hy
    obtain ⟨v', hv', ry⟩ := rv.get hy
    rw [hv] at hv'
    cases hv'
    have e0 := J.env0
    have hci : Hi c = some (LamX.CodeO c q) := k5.keep c _ (by simp) (fun ps z => LamX.codeO_ne ps z) hc
    obtain ⟨⟨oc, vs0, tq, c1, c2, c3⟩, _, _⟩ := k4 c _ hci
    have hr2 : Room (k + 1) X.A.in1.in1 := ⟨hr.hd, by have := hr.dp; show X.A.depth + 3 * (k + 1) + 5 < _; omega, by have := hr.un; show X.A.units + 1 + 1 + 16 * (k + 1) + 200 < _; omega⟩
    have rc := lam_run (k := k) (A := X.A.in1.in1) (outer := X.stack) (Q := fun r H3 => r = .int (κ y) ∧ Ext T [] Hi H3) k11 ⟨c, oc, vs0, tq, rfl, c1, c2, c3⟩ S hr2 ⟨e0.frames, e0.mod, e0.bs, e0.bsz, e0.funs, e0.frf, e0.hok, e0.bare⟩ (hb v) ry
      (hbody X.A.in1.in1 st Hi (hr2.deeper _)) (turn y hym Hi k5 _ fun H3 e3 => ⟨rfl, e3⟩)
    refine wpAny_bind (wpAny_attempt (wpAny_mono (wpAny_call (Q := fun u s2 => ∃ H', s2.os = s.os ∧ AllBare s2.gens ∧ Un (frs X.stack) [] Hi H' st.heap s2.heap ∧ HOk X.prog X.w H' s2.heap ∧ Ext T [] Hi H' ∧ ∃ t, u = .int (κ y) t) (E := fun _ _ => False)
      (codeAny_mono rc fun r s2 hq => ?_)) (fun u s2 he => ?_) fun _ _ z => z.elim))
    · cases r with
      | error e => exact False.elim hq
      | ok fl =>
        cases fl with
        | next => exact False.elim hq
        | brk => exact False.elim hq
        | cont => exact False.elim hq
        | ret u =>
          obtain ⟨z, H', h1, h2, h3, h4, h5, h6, h7⟩ := hq
          subst h6
          exact ⟨H', h1.trans k1, h2, h3, h4, h7, h5⟩
    · obtain ⟨H', m1, m2, m3, m4, m5, t', rfl⟩ := he
      have nA := m3.free a _ k10 k6 (by simp)
      have nK := m3.free kS _ k9 k7 (by simp)
      have nF := m3.free f _ k11 k8 (by simp)
      have gK2 := m3.keep kS _ k9 k7 fK (by simp)
      have gA2 := m3.keep a _ k10 k6 fA (by simp)
      have gF2 := m3.keep f _ k11 k8 ff (by simp)
      have sb := Heap.SameBut.update s2.heap kS (Obj.mapSeq (·.push (.int (κ y) t')))
      obtain ⟨c2', hc2⟩ : ∃ c2, (s2.heap.update kS (Obj.mapSeq (·.push (.int (κ y) t')))).get? kS = some (seqObj "list" (keys.push (.int (κ y) t')) c2) := ⟨_, get?_update_seq gK2 (·.push (.int (κ y) t'))⟩
      have kp : ∀ b o, b ≠ kS → s2.heap.get? b = some o → (s2.heap.update kS (Obj.mapSeq (·.push (.int (κ y) t')))).get? b = some o := fun b o hb e => (sb.2 b hb).trans e
      have hkl : keys.size = j := by
        have h1 := k12.length
        have h0 : keys.toList.length = keys.size := Array.length_toList
        rw [List.length_map, List.length_map, List.length_take] at h1
        omega
      have hfk : f ≠ kS := fun z => by
        rw [z] at of
        rw [sK] at of
        cases of
      refine wpAny_bind (listUpdate_at gK2 rfl ?_ (by rw [hkl]; omega) (by show (keys.push _).size ≤ _; rw [Array.size_push, hkl]; omega))
      refine wpAny_pure ⟨rfl, H', keys.push (.int (κ y) t'), c2', m1, m2, ?_, hok_free m4 nK kp, k5.trans m5, nA, nK, nF, hc2, kp a _ hka.symm gA2, kp f _ hfk gF2, ?_⟩
      · exact un_drop (((k3.mono (fun _ z => z) (fun _ z => absurd z (by simp))).trans (m3.mono (fun _ z => z) (fun _ z => absurd z (by simp)))).trans (un_free kp ⟨_, hc2⟩)) sK
      · rw [List.take_add_one, hy, Array.toList_push, List.map_append, List.map_append]
        exact k12.append (.cons ⟨t', rfl⟩ .nil)
  case fin =>
    rintro st ⟨Hi, keys, ep, k1, k2, k3, k4, k5, k6, k7, k8, k9, k10, k11, k12⟩
    have et : xs.take (0 + its.length) = xs := List.take_of_length_le (by omega)
    rw [et] at k12
    have hkl : keys.size = its.length := by
      have h1 := k12.length
      have h0 : keys.toList.length = keys.size := Array.length_toList
      rw [List.length_map, List.length_map] at h1
      omega
    refine wpAny_bind (listItems_at k9 rfl ?_)
    have hrd : EachIs (fun u d => ∃ as, Reads st.heap u d as) keys.toList (xs.map fun y => PyData.int (κ y)) := by
      have h1 := ints_read st.heap (ks := xs.map κ) k12
      rw [List.map_map] at h1
      exact h1
    have hal : AllAlike (xs.map fun y => PyData.int (κ y)) := fun d hd d' hd' => by
      obtain ⟨y, _, rfl⟩ := List.mem_map.mp hd
      obtain ⟨y', _, rfl⟩ := List.mem_map.mp hd'
      rfl
    have hso : PySem.W.Sortable (xs.map fun y => PyData.int (κ y)) := .inr fun d hd => by
      obtain ⟨y, _, rfl⟩ := List.mem_map.mp hd
      exact ⟨(fun z => nomatch z), (fun _ z => nomatch z)⟩
    refine keyH_end (κ := dataKind st.heap (xs.map fun y => PyData.int (κ y))) (h₁ := hideAll st.heap [kS]) (fun b o _ e => of_hideAll _ e) (hideAll_none _ (by simp)) k9 k10 hka
      (SortsAt.data (s := st) hrd hal hso fun d hd => ?_) hkl hz' fun h' tk c3 kb na => ?_
    · obtain ⟨y, _, rfl⟩ := List.mem_map.mp hd
      have h1 := hr.un
      show X.A.units + 1 + 1 + 0 < cLine
      omega
    · refine ⟨rfl, ?_⟩
      have ho := keyedOut_each (fun y : V => PyData.int (κ y)) (rev := false) (bs := xs) (vs := its) ⟨st.heap, keys.toList, hal, rfl, hrd⟩ (each_vals rv)
      rw [dataLe_int] at ho
      have hv := vals_each ho
      have kp : ∀ b o, b ≠ a → b ≠ kS → st.heap.get? b = some o → h'.get? b = some o := fun b o h1 h2 e => kb b o h1 (hideAll_get _ e (by simpa using h2))
      have nA : ∀ b u, Hi b = some u → b ≠ a := fun b u e => ne_of_none e k6
      have nK : ∀ b u, Hi b = some u → b ≠ kS := fun b u e => ne_of_none e k7
      have oA : ∀ b o, s.heap.get? b = some o → b ≠ a := fun b o e z => by
        rw [z, sA] at e
        cases e
      have oK : ∀ b o, s.heap.get? b = some o → b ≠ kS := fun b o e z => by
        rw [z, sK] at e
        cases e
      have hml : (xs.mergeSort fun a b => decide (κ a ≤ κ b)).length ≤ sizeLine := by
        rw [List.length_mergeSort]
        exact hz
      have hok2 : HOk X.prog X.w (upd Hi a (.lst (xs.mergeSort fun a b => decide (κ a ≤ κ b)))) h' := fun b u e => by
        by_cases hb : b = a
        · subst hb
          rw [upd_same] at e
          cases e
          exact ⟨hml, _, c3, hv, na⟩
        · rw [upd_ne hb] at e
          refine (k4 b u e).stay (fun d o hd g => ?_) (fun d g => by rw [upd_ne (nA d _ g)]; exact g) fun d ys g => by rw [upd_ne (nA d _ g)]; exact g
          rcases hd with rfl | hd
          · exact kp _ _ hb (nK _ _ e) g
          · exact kp _ _ (nA _ _ hd) (nK _ _ hd) g
      have un2 : Un (frs X.stack) [] H (upd Hi a (.lst (xs.mergeSort fun a b => decide (κ a ≤ κ b)))) s.heap h' := by
        refine ⟨fun b o e n nf nx => kp b o (oA b o e) (oK b o e) (k3.keep b o e n nf nx), fun b o e n nf nx => ?_, fun b o e n nx => ?_, fun b o e nx => ?_, fun b ys e => ?_, fun b o u e => ?_, fun b ps e => ?_⟩
        · obtain ⟨sl, e2⟩ := k3.slot b o e n nf nx
          exact ⟨sl, kp b _ (oA b o e) (oK b o e) e2⟩
        · rw [upd_ne (oA b o e)]
          exact k3.free b o e n nx
        · obtain ⟨o', e2⟩ := k3.there b o e nx
          exact ⟨o', kp b _ (oA b o e) (oK b o e) e2⟩
        · have e2 := k3.tups b ys e
          rw [upd_ne (nA b _ e2)]
          exact e2
        · have e2 := k3.frzs b o u e
          rw [upd_ne (nA b _ e2)]
          exact e2
        · obtain ⟨more, e2⟩ := k3.tbls b ps e
          exact ⟨more, by rw [upd_ne (nA b _ e2)]; exact e2⟩
      refine ⟨.ref a, _, I.call' (s' := { st with heap := h', toks := tk }) (ch := []) k1 un2 hok2 k2 (by simp), rfl, done a _ (.of (I.hok.fresh hleA)) (k5.newR k6) upd_same⟩
theorem pe_sortedLam {X : Cx} {T : List (Addr × Str)} (K : PySem.W.Frag) (hK : X.K = K) {N : List Str} {x : Str} {e : Expr} {ta : TA} {tb : TE} {c P : Addr} {k : Nat} {params : Arguments} {body : Expr} {scope : Scope} {p lpos kpos pos : Pos}
    (TB : LamX.TabB X.base X.mg c P) (hcode : X.env.code = .ref c) (hmT : (P, X.env.qual ++ "<lambda>") ∈ T) (hu : ∀ z ∈ T, z.1 = P → z.2 = X.env.qual ++ "<lambda>") (hr : Room (k + 2) X.A) (S : FnScope N [x] scope)
    (hbody : ∀ (A : Around) (s : Shared) (H : Hp) (f c' : Addr), Room k (A.deeper (envOfC (X.env.qual ++ "<lambda>") scope s.heap.objs.size f (.ref c'))) → PE (cxOf CX0 X.prog X.w X.K X.mg X.base N (X.env.qual ++ "<lambda>") scope f (.ref c') A X.stack s H E0) body tb)
    (hg : Gl X "sorted") (hm : X.mg "sorted" = none) (ha : PA X [e] ta) (hcl : cloFrom X.env.cells scope.names [] = [] := by rfl) (hfr : ∀ y ∈ scope.names, y.2 ≠ .free := by decide +kernel)
    (hdef : defaultsOf params X.env = ([], []) := by rfl)
    (hb : ∀ (q : Str) (pm cv ctv u : Value), bindArgs (kla_fn "<lambda>" q params body scope [] pm cv ctv) ⟨[u], []⟩ = pure [(x, u)] := by intros; rfl)
    (hst : backTo pos (starEach [e] X.env) = (false, eval e X.env) :: backTo pos (starEach [] X.env) := by rfl) (hpl : (backTo pos (starEach [e] X.env)).any (·.1) = false := by rfl) :
    PE X (.Call (.Name "sorted" p) [e] [⟨some "key", .Lambda params body scope lpos, kpos⟩] pos) (tSortLam T K N ta tb) := by
  subst hK
  refine ⟨fun pins s σ H Q I h => ?_⟩
  refine wpAny_Call_Name_kw (ld_blt I hg hm (by decide +kernel : bootBuiltins "sorted" = some (.builtin "sorted")) ?_)
  refine PyProof.Rows.callWith_kw (thn (ha.run pos pins s σ H _ I h) fun us s1 ⟨vs, H1, I1, r1, a, xs, κ, ea, hl, ht, turn, done⟩ => ?_) hst hpl rfl rfl
  subst ea
  cases r1 with
  | cons r rr =>
    cases rr
    cases r
    show wpAny _ _ (evalAll [do let v ← eval (.Lambda params body scope lpos) X.env; standAt pos; pure v]) _ _ s1
    refine wpAny_evalAll_cons (wpAny_bind (LamX.lam_make2 I1 TB hcode hmT hu ht hdef (fun y hy z => absurd z (hfr y hy)) fun f c' pm ctv H2 s2 I2 eN T2 hf hfn hff hco => ?_))
    refine wpAny_bind (wpAny_standAt (wpAny_pure (wpAny_evalAll_nil ?_)))
    rw [hcl] at hf
    have e2 := tab_ext eN T2
    exact sort_lam_run (k := k) (κ := κ) (T := T) (I2) hf hfn hff hco S hr (fun u => hb _ _ _ _ u) (fun A s H hr' => hbody A s H f c' hr') (e2.seqL (by simp) hl) (fun x hx H3 e3 => turn x hx H3 (e2.trans e3)) fun q H3 nq e3 hq => done q H3 (e2.back (by simp) nq) (e2.trans e3) hq
theorem rd_sortLam {T : List (Addr × Str)} {K : PySem.W.Frag} {N : List Str} {ta : TA} {tb : TE} {σ : L2.St} {H : Hp} {Q : VK} (q : ta σ H fun vs H1 => ∃ (a : Addr) (xs : List V) (κ : V → Int), vs = [.ref a] ∧ SqL K H1 a xs ∧ LamX.Tabs T H1 ∧
  (∀ x ∈ xs, ∀ H2, Ext T [] H1 H2 → ∀ Q' : VK, (∀ H3, Ext T [] H2 H3 → Q' (.int (κ x)) H3) → tb (start N [x]) H2 Q') ∧ ∀ q H3, Nw H1 q → Ext T [] H1 H3 → H3 q = some (.lst (xs.mergeSort fun a b => decide (κ a ≤ κ b))) → Q (.ref q) H3) : tSortLam T K N ta tb σ H Q := q
end
/-! ### a def whose own code object is known: it makes a lambda -/
def DefC (K : PySem.W.Frag) (mg : Str → Option Value) (x : Str) (st : Stmt) (ps : List Str) (c : Addr) : Prop :=
  ∃ (f : Addr) (oc : Value) (od : Option Addr) (kV doc pm : Value) (an : Option Addr) (ct : Value) (osl : Array (Option Value)),
    K.lookup f = some ⟨oc, od, .func (PySem.W.fnOf x x (defArgs st) (defBody st) (defScope st) .none kV doc pm an (.ref c) ct), osl⟩ ∧ PySem.W.codeIn K (.ref c) x = true ∧ PySem.W.keepIn K (.ref f) = true ∧ mg x = some (.ref f) ∧
    Binds K (PySem.W.fnOf x x (defArgs st) (defBody st) (defScope st) .none kV doc pm an (.ref c) ct) ps []
theorem DefC.ok {P : Program} {w : World} {K : PySem.W.Frag} {mg : Str → Option Value} {base : Heap} {x : Str} {st : Stmt} {N ps : List Str} {k : Nat} {sp : Sp} {c : Addr} (D : DefC K mg x st ps c) (S : FnScope N ps (defScope st)) (len : ∀ vs H Q E, sp vs H Q E → vs.length = ps.length)
    (hbody : ∀ (f : Addr) (A : Around) (outer : List Env) (s : Shared) (H : Hp) (vs : List V) (Q : VK) (E : XK), Room k (A.deeper (envOfC x (defScope st) s.heap.objs.size f (.ref c))) → sp vs H Q E →
      ∃ t, PSs (cxOf CX0 P w K mg base N x (defScope st) f (.ref c) A outer s H E).nox (defBody st) t ∧ t { nx := fun _ H' => Q .non H', rt := Q } (start N vs) H) : Ok P w K mg base (k + 1) x ps sp := by
  obtain ⟨f, oc, od, kV, doc, pm, an, ct, osl, lk, hcd, hk, hm, hb⟩ := D
  refine ⟨f, _, fn_of lk hcd S len fun A outer s H vs Q E hr h => ?_, hm, hk, hb⟩
  obtain ⟨t, h1, h2⟩ := hbody f A outer s H vs Q E hr h
  exact ⟨t, h1.nox, h2⟩

open PySem PySem.Spec PyProof.Rows L2
/-! ### tuple(xs) whose object is known, dict() of it -/
section
variable {X : Cx}
/-- a tuple's object without a dict of its own -/
def PlT (H : Hp) (a : Addr) (xs : List V) : Prop := ∃ o : Obj, o.dict = none ∧ H a = some (.frz o (.tup xs))
def rTupF (K : PySem.W.Frag) : List V → Hp → VK → Prop := fun xs H Q => ∃ p ys, xs = [.ref p] ∧ ((SqL K H p ys ∧ ∀ l o, H l = none → o.dict = none → Q (.ref l) (upd H l (.frz o (.tup ys)))) ∨ (SqT K H p ys ∧ Q (.ref p) H))
theorem call_tupF (K : PySem.W.Frag) (hK : X.K = K) : CallR X (.type "tuple") (rTupF K) := by
  subst hK
  intro pins s σ H xs us Q I r h
  obtain ⟨p, ys, rfl, h⟩ := h
  obtain ⟨u, rfl, rx⟩ := vals1 r
  cases rx
  rcases h with ⟨hq, q⟩ | ⟨hq, q⟩
  · obtain ⟨its, r', pl, hz⟩ := I.list hq
    have hlen := r'.length
    refine call_tuple_list pl.isList (fun h' kp => ?_) (by simp only [List.size_toArray] <;> omega)
    have I1 : Inv X pins σ H { s with heap := h' } := I.kept (t' := s.toks) kp
    have I2 : Inv X pins σ (upd H h'.objs.size (.frz { cls := .type "tuple", data := .seq its.toArray } (.tup ys))) { s with heap := h'.push { cls := .type "tuple", data := .seq its.toArray } } :=
      I1.laid (t' := s.toks) (fun b o e => Heap.get?_push_of_some _ e) (Nat.le_refl _) (show ObjOk X.prog X.w _ _ _ (.frz _ (.tup ys)) from ⟨Heap.get?_push_size _ rfl, hz, its, r', IsTup.new _ _⟩)
    exact ⟨.ref h'.objs.size, _, I2, rfl, q _ _ (I1.hok.fresh (Nat.le_refl _)) rfl⟩
  · obtain ⟨its, r', pl, hz⟩ := I.tuple hq
    exact call_tuple_same pl ⟨.ref p, H, I, rfl, q⟩
/-- the pairs of a tuple, whose keys are tuples -/
def PairsT (K : PySem.W.Frag) (H : Hp) : List Addr → List (List L2.Key × V) → Prop := Paired fun p kv => ∃ b, SqT K H p [.ref b, kv.2] ∧ H b = some (.tup (kv.1.map kV))
theorem pairsT_of {pins : List (Addr × Obj)} {σ : L2.St} {H : Hp} {s : Shared} (I : Inv X pins σ H s) : ∀ {ps : List Addr} {kvs : List (List L2.Key × V)}, PairsT X.K H ps kvs →
    ∃ prs : List (List L2.Key × Addr × Value), KT H kvs prs ∧ prs.length = ps.length ∧ ∀ (j : Nat) (q : List L2.Key × Addr × Value), prs[j]? = some q → ∃ b : Addr, ps[j]? = some b ∧ s.heap.IsTuple b #[.ref q.2.1, q.2.2] ∧ (tupleKind (mixKind X.prog X.w)).is s.heap q.1 q.2.1
  | _, _, .nil => ⟨[], .nil, rfl, fun j q e => by simp at e⟩
  | _, _, .cons (a := p) (b := kv) ⟨kb, h, hb⟩ t => by
    obtain ⟨prs, r, hl, hp⟩ := pairsT_of I t
    obtain ⟨its, rv, ht, _⟩ := I.tuple h
    obtain ⟨u, y, ei, ru, ry⟩ := vals2 rv
    subst ei
    cases ru
    refine ⟨(kv.1, kb, y) :: prs, .cons ⟨rfl, hb, ry⟩ r, by rw [List.length_cons, List.length_cons, hl], fun j q e => ?_⟩
    cases j with
    | zero =>
      have e' : (kv.1, kb, y) = q := Option.some.inj e
      subst e'
      exact ⟨p, rfl, ht, key_of I.hok hb⟩
    | succ j =>
      obtain ⟨b, e1, e2, e3⟩ := hp j q (by simpa using e)
      exact ⟨b, by simpa using e1, e2, e3⟩
theorem kt_keys {H : Hp} : ∀ {kvs : List (List L2.Key × V)} {prs : List (List L2.Key × Addr × Value)}, KT H kvs prs → prs.map (·.1) = kvs.map (·.1)
  | _, _, .nil => rfl
  | _, _, .cons h t => by rw [List.map_cons, List.map_cons, kt_keys t, h.1]
theorem kt_upd {H : Hp} {p : Addr} {o : HO} (hp : H p = none) : ∀ {kvs : List (List L2.Key × V)} {prs : List (List L2.Key × Addr × Value)}, KT H kvs prs → KT (upd H p o) kvs prs
  | _, _, .nil => .nil
  | _, _, .cons h t => .cons ⟨h.1, (upd_ne (ne_of_none h.2.1 hp)).trans h.2.1, h.2.2⟩ (kt_upd hp t)
def rDictT (K : PySem.W.Frag) : List V → Hp → VK → Prop := fun xs H Q => ∃ (a : Addr) (ps : List Addr) (kvs : List (List L2.Key × V)), xs = [.ref a] ∧ PlT H a (ps.map V.ref) ∧ PairsT K H ps kvs ∧ (kvs.map (·.1)).Nodup ∧
    ∀ p, H p = none → Q (.ref p) (upd H p (.dT kvs))
theorem call_dictT (K : PySem.W.Frag) (hK : X.K = K) (hcalm : X.calm = true) (hu : X.A.units + 64 < cLine) : CallR X (.type "dict") (rDictT K) := by
  subst hK
  intro pins s σ H xs us Q I r q
  obtain ⟨a, ps, kvs, ex, ⟨o, hdn, ha⟩, hp, hnd, q⟩ := q
  subst ex
  obtain ⟨u, eu, rx⟩ := vals1 r
  subst eu
  cases rx
  obtain ⟨hget, hz, its, rv, hit⟩ := (show ObjOk X.prog X.w H s.heap a (.frz o (.tup (ps.map V.ref))) from I.hok a _ ha)
  have ei := refs_at rv
  subst ei
  rw [List.length_map] at hz
  obtain ⟨prs, rel, hl, hpr⟩ := pairsT_of I hp
  obtain ⟨o', ho', hc, n, hd⟩ := hit
  have eo : o' = o := by
    rw [hget] at ho'
    exact (Option.some.inj ho').symm
  subst eo
  have hnd2 : (prs.map (·.1)).Nodup := by rw [kt_keys rel]; exact hnd
  have hP := PySem.PairArg.tuple (prog := X.prog) (w := X.w) a (ps.map Value.ref).toArray (fun j => ps.getD j 0) (prs.map fun q => (Value.ref q.2.1, q.2.2))
  have hitem : PySem.PairItems s.heap (ps.map Value.ref).toArray (fun j => ps.getD j 0) (prs.map fun q => (Value.ref q.2.1, q.2.2)) := by
    refine ⟨by simp [hl], fun j k v e => ?_⟩
    rw [List.getElem?_map] at e
    obtain ⟨q', e1, e2⟩ := Option.map_eq_some_iff.mp e
    obtain ⟨b, h1, h2, h3⟩ := hpr j q' e1
    have e3 : k = .ref q'.2.1 := (congrArg Prod.fst e2).symm
    have e4 : v = q'.2.2 := (congrArg Prod.snd e2).symm
    have e5 : ps.getD j 0 = b := by rw [List.getD_eq_getElem?_getD, h1]; rfl
    refine ⟨by simp [h1], ?_⟩
    rw [e3, e4]
    show PySem.PairAt s.heap (ps.getD j 0) _ _
    rw [e5]
    exact .inl h2
  have hmem : ∀ x ∈ prs, (tupleKind (mixKind X.prog X.w)).is s.heap x.1 x.2.1 := fun x hx => by
    obtain ⟨j, hj⟩ := List.mem_iff_getElem?.mp hx
    obtain ⟨b, _, _, h3⟩ := hpr j x hj
    exact h3
  refine PySem.call_dict_pairsH (knd := tupleKind (mixKind X.prog X.w)) (ps := prs) hP (I.ok.hd hcalm) (show X.A.units + 1 + 1 < cLine by omega) ⟨⟨o', n, hget, hc, hdn, hd⟩, hitem⟩ ⟨by rw [List.length_map], fun i key v e => ?_⟩ (fun h' hk x hx => ?_) (by rw [List.length_map, hl]; exact hz) fun h' tk hd' k => ?_
  · have e : (prs.map fun q => (Value.ref q.2.1, q.2.2))[i]? = some (key, v) := e
    rw [List.getElem?_map] at e
    obtain ⟨q', e1, e2⟩ := Option.map_eq_some_iff.mp e
    refine ⟨q'.1, q'.2.1, ?_, (congrArg Prod.fst e2).symm⟩
    have e6 : q'.2.2 = v := congrArg Prod.snd e2
    rw [e1, ← e6]
  · obtain ⟨o2, its2, n2, h1, h2, h3, h4⟩ := hmem x hx
    exact ⟨o2, its2, n2, hk _ _ (Nat.ne_of_lt (Heap.lt_size h1)) (by simp) h1, h2, h3, h4⟩
  · rw [PySem.storedAllH_nil_of_nodup _ hnd2] at hd'
    have hm : (s.heap.objs.size == sysModules) = false := beq_eq_false_iff_ne.mpr (Nat.ne_of_gt I.big)
    have fr := I.hok.fresh (a := s.heap.objs.size) (Nat.le_refl _)
    obtain ⟨od, es, ep, w1, w2, w3, w4, w5, w6⟩ := hd'
    have hlen : kvs.length ≤ sizeLine := by
      have e1 := congrArg List.length (kt_keys rel)
      rw [List.length_map, List.length_map] at e1
      rw [← e1, hl]
      exact hz
    exact ⟨.ref s.heap.objs.size, upd H s.heap.objs.size (.dT kvs), I.laid (t' := tk) (fun b u e => k b u (by simp) e) (Nat.le_refl _) (show ObjOk X.prog X.w _ _ _ (.dT kvs) from ⟨hlen, hm, prs, kt_upd fr rel, od, es, ep, w1, w2, w3, w4, w6⟩), rfl, q _ fr⟩
/-- the pairs of a tuple, whose keys are texts or numbers -/
def rDictK (K : PySem.W.Frag) : List V → Hp → VK → Prop := fun xs H Q => ∃ (a : Addr) (ps : List Addr) (kvs : List (L2.Key × V)), xs = [.ref a] ∧ PlT H a (ps.map V.ref) ∧ Paired (fun p kv => SqT K H p [kV kv.1, kv.2]) ps kvs ∧
    ∀ p, H p = none → Q (.ref p) (upd H p (.dK (mergeK [] kvs)))
end

open PySem PySem.Spec PyProof.Rows L2
/-! ### data without lists -/
def SqP (H : Hp) (a : Addr) (xs : List V) : Prop := H a = some (.tup xs)
mutual
inductive Im (H : Hp) : V → PyData → Prop
  | non : Im H .non .none
  | int (i : Int) : Im H (.int i) (.int i)
  | str (x : Str) (h : PyData.strOk x = true) : Im H (.str x) (.str x)
  | tup {a : Addr} {xs : List V} {ds : List PyData} : SqP H a xs → ImAll H xs ds → Im H (.ref a) (.tuple ds)
inductive ImAll (H : Hp) : List V → List PyData → Prop
  | nil : ImAll H [] []
  | cons {v : V} {vs : List V} {d : PyData} {ds : List PyData} : Im H v d → ImAll H vs ds → ImAll H (v :: vs) (d :: ds)
end
mutual
theorem Im.dp {K : PySem.W.Frag} {H : Hp} : ∀ (d : PyData) (v : V), Im H v d → Dp K H v d
  | .none, _, h => by cases h; exact .non
  | .bool b, _, h => by cases h
  | .int i, _, h => by cases h; exact .int i
  | .str x, _, h => by cases h; exact .str x
  | .list _, _, h => by cases h
  | .dict _, _, h => by cases h
  | .tuple ds, _, h => by
    cases h with
    | tup h1 h2 => exact .tup (SqT.of h1) (ImAll.dp ds _ h2)
theorem ImAll.dp {K : PySem.W.Frag} {H : Hp} : ∀ (ds : List PyData) (vs : List V), ImAll H vs ds → DpAll K H vs ds
  | [], _, h => by cases h; exact .nil
  | d :: ds, _, h => by
    cases h with
    | cons h1 h2 => exact .cons (Im.dp d _ h1) (ImAll.dp ds _ h2)
end
/-- all the objects that may change are lists -/
def Lsts (H : Hp) (ms : List Addr) : Prop := ∀ b ∈ ms, ∃ xs, H b = some (.lst xs)
theorem SqP.ext {T : List (Addr × Str)} {ms : List Addr} {H H' : Hp} {a : Addr} {xs : List V} (h : SqP H a xs) (e : Ext T ms H H') (hm : Lsts H ms) : SqP H' a xs := by
  have hn : ∀ o, H a = some o → (∀ xs, o ≠ .lst xs) → a ∉ ms := fun o ho hl hb => by
    obtain ⟨ys, hy⟩ := hm a hb
    rw [ho] at hy
    exact hl ys (Option.some.inj hy)
  exact e.keep a _ (hn _ h fun _ z => by cases z) (fun _ z => by cases z) h
mutual
theorem Im.ext {T : List (Addr × Str)} {ms : List Addr} {H H' : Hp} (e : Ext T ms H H') (hm : Lsts H ms) : ∀ (d : PyData) (v : V), Im H v d → Im H' v d
  | .none, _, h => by cases h; exact .non
  | .bool b, _, h => by cases h
  | .int i, _, h => by cases h; exact .int i
  | .str x, _, h => by
    cases h with
    | str _ q => exact .str x q
  | .list _, _, h => by cases h
  | .dict _, _, h => by cases h
  | .tuple ds, _, h => by
    cases h with
    | tup h1 h2 => exact .tup (h1.ext e hm) (ImAll.ext e hm ds _ h2)
theorem ImAll.ext {T : List (Addr × Str)} {ms : List Addr} {H H' : Hp} (e : Ext T ms H H') (hm : Lsts H ms) : ∀ (ds : List PyData) (vs : List V), ImAll H vs ds → ImAll H' vs ds
  | [], _, h => by cases h; exact .nil
  | d :: ds, _, h => by
    cases h with
    | cons h1 h2 => exact .cons (Im.ext e hm d _ h1) (ImAll.ext e hm ds _ h2)
end
theorem ImAll.len {H : Hp} : ∀ {vs : List V} {ds : List PyData}, ImAll H vs ds → vs.length = ds.length
  | _, _, .nil => rfl
  | _, _, .cons _ t => by rw [List.length_cons, List.length_cons, t.len]
theorem ImAll.get {H : Hp} : ∀ {vs : List V} {ds : List PyData} {i : Nat} {d : PyData}, ImAll H vs ds → ds[i]? = some d → ∃ v, vs[i]? = some v ∧ Im H v d
  | _, _, 0, d, .cons h t, e => ⟨_, rfl, by rw [← Option.some.inj (show some _ = some d from e)]; exact h⟩
  | _, _, i + 1, d, .cons h t, e => t.get (i := i) e
theorem ImAll.get' {H : Hp} : ∀ {vs : List V} {ds : List PyData} {i : Nat} {v : V}, ImAll H vs ds → vs[i]? = some v → ∃ d, ds[i]? = some d ∧ Im H v d
  | _, _, 0, d, .cons h t, e => ⟨_, rfl, by rw [← Option.some.inj (show some _ = some d from e)]; exact h⟩
  | _, _, i + 1, d, .cons h t, e => t.get' (i := i) e
theorem ImAll.app {H : Hp} : ∀ {vs ws : List V} {ds es : List PyData}, ImAll H vs ds → ImAll H ws es → ImAll H (vs ++ ws) (ds ++ es)
  | _, _, _, _, .nil, h => h
  | _, _, _, _, .cons a t, h => .cons a (t.app h)
theorem ImAll.snoc {H : Hp} {vs : List V} {ds : List PyData} {v : V} {d : PyData} (h : ImAll H vs ds) (x : Im H v d) : ImAll H (vs ++ [v]) (ds ++ [d]) := h.app (.cons x .nil)
theorem ImAll.drop {H : Hp} : ∀ {vs : List V} {ds : List PyData} (n : Nat), ImAll H vs ds → ImAll H (vs.drop n) (ds.drop n)
  | _, _, 0, h => h
  | _, _, n + 1, .nil => .nil
  | _, _, n + 1, .cons _ t => t.drop n
theorem ImAll.take {H : Hp} : ∀ {vs : List V} {ds : List PyData} (n : Nat), ImAll H vs ds → ImAll H (vs.take n) (ds.take n)
  | _, _, 0, h => .nil
  | _, _, n + 1, .nil => .nil
  | _, _, n + 1, .cons h t => .cons h (t.take n)
theorem ImAll.strs {H : Hp} : ∀ {zs : List Str}, (∀ z ∈ zs, PyData.strOk z = true) → ImAll H (zs.map V.str) (zs.map PyData.str)
  | [], _ => .nil
  | z :: zs, h => .cons (.str z (h z List.mem_cons_self)) (ImAll.strs fun y hy => h y (List.mem_cons_of_mem _ hy))
mutual
theorem Im.lay {H : Hp} : ∀ (d : PyData) (v : V), Im H v d → d.canLay0 = true
  | .none, _, h => rfl
  | .bool b, _, h => by cases h
  | .int i, _, h => rfl
  | .str x, _, h => by
    cases h with
    | str _ q => exact q
  | .list _, _, h => by cases h
  | .dict _, _, h => by cases h
  | .tuple ds, _, h => by
    cases h with
    | tup h1 h2 => exact ImAll.lay ds _ h2
theorem ImAll.lay {H : Hp} : ∀ (ds : List PyData) (vs : List V), ImAll H vs ds → PyData.canLayAll0 ds = true
  | [], _, h => rfl
  | d :: ds, _, h => by
    cases h with
    | cons h1 h2 =>
      show (d.canLay0 && PyData.canLayAll0 ds) = true
      rw [Im.lay d _ h1, ImAll.lay ds _ h2]
      rfl
end
theorem Im.shaped {H : Hp} {d : PyData} {v : V} (h : Im H v d) (hd : d.depth ≤ 64) : SeqAt.shaped d = true := by
  unfold SeqAt.shaped
  rw [Im.lay d v h, decide_eq_true hd]
  rfl
theorem ImAll.strs' {H : Hp} : ∀ {zs : List Str} {vs : List V}, ImAll H vs (zs.map PyData.str) → vs = zs.map V.str
  | [], _, h => by cases h; rfl
  | z :: zs, _, h => by
    cases h with
    | cons a t =>
      cases a
      rw [List.map_cons, ImAll.strs' t]
theorem Im.str' {H : Hp} {v : V} {z : Str} (h : Im H v (.str z)) : v = .str z := by cases h; rfl
theorem Im.int' {H : Hp} {v : V} {z : Int} (h : Im H v (.int z)) : v = .int z := by cases h; rfl
theorem Im.tup' {H : Hp} {v : V} {ds : List PyData} (h : Im H v (.tuple ds)) : ∃ a xs, v = .ref a ∧ SqP H a xs ∧ ImAll H xs ds := by
  cases h with
  | tup h1 h2 => exact ⟨_, _, rfl, h1, h2⟩
theorem Im.pair' {H : Hp} {v : V} {d1 d2 : PyData} (h : Im H v (.tuple [d1, d2])) : ∃ a x y, v = .ref a ∧ SqP H a [x, y] ∧ Im H x d1 ∧ Im H y d2 := by
  obtain ⟨a, xs, rfl, h1, h2⟩ := h.tup'
  cases h2 with
  | cons a1 t =>
    cases t with
    | cons a2 t =>
      cases t
      exact ⟨a, _, _, rfl, h1, a1, a2⟩
theorem Im.new2 {H : Hp} {a : Addr} {v1 v2 : V} {d1 d2 : PyData} (h1 : Im H v1 d1) (h2 : Im H v2 d2) (ha : H a = some (.tup [v1, v2])) : Im H (.ref a) (.tuple [d1, d2]) := .tup ha (.cons h1 (.cons h2 .nil))
theorem Im.new3 {H : Hp} {a : Addr} {v1 v2 v3 : V} {d1 d2 d3 : PyData} (h1 : Im H v1 d1) (h2 : Im H v2 d2) (h3 : Im H v3 d3) (ha : H a = some (.tup [v1, v2, v3])) : Im H (.ref a) (.tuple [d1, d2, d3]) := .tup ha (.cons h1 (.cons h2 (.cons h3 .nil)))
/-- a list of such data -/
def Ls (H : Hp) (a : Addr) (ds : List PyData) : Prop := ∃ xs, H a = some (.lst xs) ∧ ImAll H xs ds
theorem Ls.ext {T : List (Addr × Str)} {ms : List Addr} {H H' : Hp} {a : Addr} {ds : List PyData} (h : Ls H a ds) (e : Ext T ms H H') (ha : a ∉ ms) (hm : Lsts H ms) : Ls H' a ds := by
  obtain ⟨xs, h1, h2⟩ := h
  exact ⟨xs, e.lst ha h1, ImAll.ext e hm _ _ h2⟩
theorem Ls.strs {H : Hp} {a : Addr} {zs : List Str} (h : Ls H a (zs.map PyData.str)) : H a = some (.lst (zs.map V.str)) := by
  obtain ⟨xs, h1, h2⟩ := h
  rw [← h2.strs']
  exact h1
theorem Lsts.nil {H : Hp} : Lsts H [] := fun b hb => by cases hb
theorem Tape.lsts {H : Hp} {l t : Addr} (h : Tape l H t) : Lsts H [t] := fun b hb => by
  rw [List.mem_singleton.mp hb]
  obtain ⟨ns, pos, rest, st, bud, h1, _⟩ := h
  exact ⟨_, h1⟩
theorem Nw.sqp {H : Hp} {p q : Addr} {xs : List V} (f : Nw H p) (h : SqP H q xs) : q ≠ p := f.tup h
theorem no_iff {p : Prop} {q : Prop} (h1 : ¬ p) (h2 : ¬ q) : p ↔ q := ⟨fun h => absurd h h1, fun h => absurd h h2⟩
mutual
theorem Im.eqv {H : Hp} : ∀ (d e : PyData) (v u : V), Im H v d → Im H u e → (PyData.eqv d e = true ↔ d = e)
  | .none, e, v, u, _, h2 => by
    cases h2 with
    | non => exact ⟨fun _ => rfl, fun _ => rfl⟩
    | int i => exact no_iff (fun h => by cases h) (fun h => by cases h)
    | str i _ => exact no_iff (fun h => by cases h) (fun h => by cases h)
    | tup a b => exact no_iff (fun h => by cases h) (fun h => by cases h)
  | .bool _, e, v, u, h1, h2 => by cases h1
  | .list _, e, v, u, h1, h2 => by cases h1
  | .dict _, e, v, u, h1, h2 => by cases h1
  | .int i, e, v, u, _, h2 => by
    cases h2 with
    | non => exact no_iff (fun h => by cases h) (fun h => by cases h)
    | int j =>
      show ((i == j) = true) ↔ _
      rw [beq_iff_eq]
      exact ⟨fun h => by rw [h], fun h => by injection h⟩
    | str i _ => exact no_iff (fun h => by cases h) (fun h => by cases h)
    | tup a b => exact no_iff (fun h => by cases h) (fun h => by cases h)
  | .str x, e, v, u, _, h2 => by
    cases h2 with
    | non => exact no_iff (fun h => by cases h) (fun h => by cases h)
    | int i => exact no_iff (fun h => by cases h) (fun h => by cases h)
    | str y _ =>
      show ((x == y) = true) ↔ _
      rw [beq_iff_eq]
      exact ⟨fun h => by rw [h], fun h => by injection h⟩
    | tup a b => exact no_iff (fun h => by cases h) (fun h => by cases h)
  | .tuple ds, e, v, u, h0, h2 => by
    cases h0 with
    | tup _ h1 =>
      cases h2 with
      | non => exact no_iff (fun h => by cases h) (fun h => by cases h)
      | int i => exact no_iff (fun h => by cases h) (fun h => by cases h)
      | str i _ => exact no_iff (fun h => by cases h) (fun h => by cases h)
      | tup _ h3 =>
        have key := ImAll.eqv ds _ _ _ h1 h3
        exact ⟨fun h => by rw [key.mp h], fun h => key.mpr (by injection h)⟩
theorem ImAll.eqv {H : Hp} : ∀ (ds es : List PyData) (vs us : List V), ImAll H vs ds → ImAll H us es → (PyData.eqvAll ds es = true ↔ ds = es)
  | [], es, vs, us, h1, h2 => by
    cases h2 with
    | nil => exact ⟨fun _ => rfl, fun _ => rfl⟩
    | cons a b => exact no_iff (fun h => by cases h) (fun h => by cases h)
  | d :: ds, es, vs, us, h1, h2 => by
    cases h1 with
    | cons h3 h4 =>
      cases h2 with
      | nil => exact no_iff (fun h => by cases h) (fun h => by cases h)
      | cons h5 h6 =>
        have k1 := Im.eqv d _ _ _ h3 h5
        have k2 := ImAll.eqv ds _ _ _ h4 h6
        show ((PyData.eqv _ _ && PyData.eqvAll _ _) = true) ↔ _
        rw [Bool.and_eq_true, k1, k2]
        exact ⟨fun h => by rw [h.1, h.2], fun h => (by injection h with a b; exact ⟨a, b⟩)⟩
end
theorem any_eqv {H : Hp} {v : V} {d : PyData} (h : Im H v d) : ∀ {ds : List PyData} {vs : List V}, ImAll H vs ds → ((ds.any fun z => PyData.eqv z d) = true ↔ d ∈ ds)
  | [], _, _ => by simp
  | e :: ds, _, .cons h1 h2 => by
    rw [List.any_cons, Bool.or_eq_true, Im.eqv _ _ _ _ h1 h, any_eqv h h2, List.mem_cons]
    exact ⟨fun h => h.imp Eq.symm id, fun h => h.imp Eq.symm id⟩
theorem bool_of {a b : Bool} (h : a = true ↔ b = true) : a = b := by
  cases a <;> cases b <;> simp_all
/-! ### reading such data -/
section
variable {K : PySem.W.Frag} {σ : L2.St} {H : Hp} {Q : VK}
theorem SqP.t {a : Addr} {xs : List V} (h : SqP H a xs) : SqT K H a xs := SqT.of h
theorem rd_ixI {v : V} {ds : List PyData} {i : Int} {d : PyData} (h : Im H v (.tuple ds)) (a : atI ds i = some d) (q : ∀ u, Im H u d → Q u H) : rIx K v (.int i) H Q := by
  obtain ⟨p, xs, rfl, h1, h2⟩ := h.tup'
  have key : ∃ u, atI xs i = some u ∧ Im H u d := by
    unfold atI at a ⊢
    cases e : ixN ds.length i with
    | none =>
      rw [e] at a
      cases a
    | some k =>
      rw [e] at a
      obtain ⟨u, e1, e2⟩ := h2.get (i := k) (by simpa using a)
      exact ⟨u, by rw [h2.len, e]; simpa using e1, e2⟩
  obtain ⟨u, h3, h4⟩ := key
  exact rd_ixT (SqP.t h1) h3 (q u h4)
end

open PySem PySem.Spec PyProof.Rows L2
open PySem.W (EachIs AllAlike Sortable dataLe)
/-! ### signs over data -/
section
variable {X : Cx}
def rInDT (K : PySem.W.Frag) : R2 := fun x y H Q => ∃ d ds, Dp K H x d ∧ Dp K H y (.tuple ds) ∧ SeqAt.shaped d = true ∧ SeqAt.shaped (.tuple ds) = true ∧ Q (.bl (ds.any fun z => PyData.eqv z d)) H
def rNinDT (K : PySem.W.Frag) : R2 := fun x y H Q => ∃ d ds, Dp K H x d ∧ Dp K H y (.tuple ds) ∧ SeqAt.shaped d = true ∧ SeqAt.shaped (.tuple ds) = true ∧ Q (.bl (!ds.any fun z => PyData.eqv z d)) H
theorem canLay_shapedT {xs : List PyData} (h : SeqAt.shaped (.tuple xs) = true) : PyData.canLayAll0 xs = true := (Bool.and_eq_true _ _ ▸ h : _ ∧ _).1
theorem room_in_shapedT {a : Nat} {d : PyData} {xs : List PyData} (h : SeqAt.shaped d = true) (hu : a + 65 < cLine) : a + 1 + min (PyData.depthAll xs) d.depth < cLine := by
  have h1 : d.depth ≤ 64 := of_decide_eq_true (Bool.and_eq_true _ _ ▸ h : _ ∧ _).2
  have h2 : min (PyData.depthAll xs) d.depth ≤ d.depth := Nat.min_le_right _ _
  omega
theorem op_inDT (hu : X.A.units + 65 < cLine) : OpR X (compareOp .In) (rInDT X.K) := by
  intro pins s σ H x y v u Q I rx ry h
  obtain ⟨d, ds, hd, he, sd, se, q⟩ := h
  obtain ⟨as, r1⟩ := Dp.reads I d x v hd rx
  obtain ⟨bs, r2⟩ := Dp.reads I (.tuple ds) y u he ry
  exact SeqAt.in_tuple_reads r2 r1 (canLay_shapedT se) (SeqAt.canLay_of_shaped sd) (room_in_shapedT sd hu) ⟨.bl _, H, I, rfl, q⟩
theorem op_ninDT (hu : X.A.units + 65 < cLine) : OpR X (compareOp .NotIn) (rNinDT X.K) := by
  intro pins s σ H x y v u Q I rx ry h
  obtain ⟨d, ds, hd, he, sd, se, q⟩ := h
  obtain ⟨as, r1⟩ := Dp.reads I d x v hd rx
  obtain ⟨bs, r2⟩ := Dp.reads I (.tuple ds) y u he ry
  exact SeqAt.notIn_tuple_reads r2 r1 (canLay_shapedT se) (SeqAt.canLay_of_shaped sd) (room_in_shapedT sd hu) ⟨.bl _, H, I, rfl, q⟩
def rInW (K : PySem.W.Frag) : R2 := fun x y H Q => rInU K x y H Q ∨ (rInD K x y H Q ∨ rInDT K x y H Q)
def rNinW (K : PySem.W.Frag) : R2 := fun x y H Q => rNinU K x y H Q ∨ (rNotInD K x y H Q ∨ rNinDT K x y H Q)
theorem Room.units65 {k : Nat} {A : Around} (r : Room k A) : A.units + 65 < cLine := by have := r.un; omega
theorem op_inW (K : PySem.W.Frag) (hK : X.K = K) (hu : X.A.units + 65 < cLine) : OpR X (compareOp .In) (rInW K) := by
  have h := op_inU (X := X) K hK
  subst hK
  exact h.or ((op_inD hu).or (op_inDT hu))
theorem op_ninW (K : PySem.W.Frag) (hK : X.K = K) (hu : X.A.units + 65 < cLine) : OpR X (compareOp .NotIn) (rNinW K) := by
  have h := op_ninU (X := X) K hK
  subst hK
  exact h.or ((op_notInD hu).or (op_ninDT hu))
/-- unpacking a tuple or a list -/
def gTupU (K : PySem.W.Frag) (n : Nat) (t : TGs) : TG := fun v σ H Q => gTup K n t v σ H Q ∨ gUnl K n t v σ H Q
theorem pg_tupU (K : PySem.W.Frag) (hK : X.K = K) {es : List Expr} {k : Nat} {t : TGs} {n : Nat} {pos : Pos} (hc : X.calm = true) (h : PGs X es t)
    (hn : (assignEach es X.env).length = n := by rfl) (hst : (assignEach es X.env).findIdx? (·.1) = none := by rfl) : PG X (.Tuple es k pos) (gTupU K n t) := by
  subst hK
  refine ⟨fun pins s σ H v u Q I r hw => ?_⟩
  rcases hw with hw | hw
  · exact (pg_tup hc h hn hst).run pins s σ H v u Q I r hw
  · exact (pg_unl hc h hn hst).run pins s σ H v u Q I r hw
def rSortU (K : PySem.W.Frag) : List V → Hp → VK → Prop := rSortD K
end
section
variable {X : Cx}
theorem pa_starU (K : PySem.W.Frag) (hK : X.K = K) {e : Expr} {es : List Expr} {te : TE} {t : TA} {p : Pos} (he : PE X e te) (ht : PA X es t)
    (hs : starEach (e.Starred p :: es) X.env = (true, eval e X.env) :: starEach es X.env := by rfl) : PA X (e.Starred p :: es) (StX.tStar K te t) := by
  subst hK
  exact StX.pa_star he ht hs
end
/-! ### reading -/
section
variable {K : PySem.W.Frag} {σ : L2.St} {H : Hp} {Q : VK}
theorem rd_star {te : TE} {t : TA} {Q : List V → Hp → Prop} (q : te σ H fun x H1 => ∃ p xs, x = V.ref p ∧ (SqT K H1 p xs ∨ SqL K H1 p xs) ∧ t σ H1 fun ys H2 => Q (xs ++ ys) H2) : StX.tStar K te t σ H Q := q
theorem rd_gtup {n : Nat} {t : TGs} {a : Addr} {xs : List V} {Q : L2.St → Hp → Prop} (h : SqT K H a xs) (hl : xs.length = n) (q : t xs σ H Q) : gTupU K n t (.ref a) σ H Q := .inl ⟨a, xs, rfl, h, hl, q⟩
theorem rd_glst {n : Nat} {t : TGs} {a : Addr} {xs : List V} {Q : L2.St → Hp → Prop} (h : SqL K H a xs) (hl : xs.length = n) (q : t xs σ H Q) : gTupU K n t (.ref a) σ H Q := .inr ⟨a, xs, rfl, h, hl, q⟩
theorem rd_gcons {t : TG} {u : TGs} {v : V} {r : List V} {Q : L2.St → Hp → Prop} (q : t v σ H fun σ' H' => u r σ' H' Q) : gCons t u (v :: r) σ H Q := ⟨v, r, rfl, q⟩
theorem rd_gnil {Q : L2.St → Hp → Prop} (q : Q σ H) : gNil [] σ H Q := ⟨rfl, q⟩
theorem rd_gpair {i j : Nat} {v : V} {d1 d2 : PyData} {Q : L2.St → Hp → Prop} (h : Im H v (.tuple [d1, d2])) (q : ∀ v1 v2, Im H v1 d1 → Im H v2 d2 → Q ((σ.set i (some v1)).set j (some v2)) H) : gTupU K 2 (gCons (gName i) (gCons (gName j) gNil)) v σ H Q := by
  obtain ⟨a, x, y, rfl, h1, h2, h3⟩ := h.pair'
  exact rd_gtup (SqP.t h1) rfl (rd_gcons (rd_name (rd_gcons (rd_name (rd_gnil (q x y h2 h3))))))
theorem rd_inWs {o : Str} {a : Addr} {zs : List Str} (ha : H a = some (.lst (zs.map V.str))) (q : Q (.bl (decide (o ∈ zs))) H) : rInW K (.str o) (.ref a) H Q := by
  refine .inl (.inl ⟨a, _, rfl, .inl (.inl (.inl ha)), rfl, ?_, ?_⟩)
  · rw [List.all_map]
    exact List.all_eq_true.mpr fun _ _ => rfl
  · have e : inV (.str o) (zs.map V.str) = decide (o ∈ zs) := by
      induction zs with
      | nil => rfl
      | cons z zs ih =>
        have h2 : inV (.str o) ((z :: zs).map V.str) = ((z == o) || inV (.str o) (zs.map V.str)) := rfl
        rw [h2]
        have ih2 : inV (.str o) (zs.map V.str) = decide (o ∈ zs) := by
          clear h2 ha q ih
          induction zs with
          | nil => rfl
          | cons y ys ih =>
            show ((y == o) || inV (.str o) (ys.map V.str)) = _
            rw [ih]
            by_cases h : y = o
            · subst h
              simp
            · have h2 : ¬ o = y := fun e => h e.symm
              simp [h, h2]
        rw [ih2]
        by_cases h : z = o
        · subst h
          simp
        · have h2 : ¬ o = z := fun e => h e.symm
          simp [h, h2]
    rw [show (if false = true then (!inV (.str o) (zs.map V.str)) else inV (.str o) (zs.map V.str)) = inV (.str o) (zs.map V.str) from rfl, e]
    exact q
theorem inV_strs0 (o : Str) : ∀ zs : List Str, inV (.str o) (zs.map V.str) = decide (o ∈ zs)
  | [] => rfl
  | z :: zs => by
    show ((z == o) || inV (.str o) (zs.map V.str)) = _
    rw [inV_strs0 o zs]
    by_cases h : z = o
    · subst h
      simp
    · have h2 : ¬ o = z := fun e => h e.symm
      simp [h, h2]
theorem rd_ninWs {o : Str} {a : Addr} {zs : List Str} (ha : H a = some (.lst (zs.map V.str))) (q : Q (.bl (!decide (o ∈ zs))) H) : rNinW K (.str o) (.ref a) H Q := by
  refine .inl (.inl ⟨a, _, rfl, .inl (.inl (.inl ha)), rfl, ?_, ?_⟩)
  · rw [List.all_map]
    exact List.all_eq_true.mpr fun _ _ => rfl
  · rw [if_pos rfl, inV_strs0]
    exact q
/-- a text in a tuple of texts -/
theorem rd_inWt {o : Str} {a : Addr} {zs : List Str} (ha : SqT K H a (zs.map V.str)) (q : Q (.bl (decide (o ∈ zs))) H) : rInW K (.str o) (.ref a) H Q := by
  refine .inl (.inl ⟨a, _, rfl, .inr ha, rfl, ?_, ?_⟩)
  · rw [List.all_map]
    exact List.all_eq_true.mpr fun _ _ => rfl
  · rw [if_neg (by decide), inV_strs0]
    exact q
theorem rd_eqI {v u : V} {d e : PyData} (h1 : Im H v d) (h2 : Im H u e) (s1 : d.depth ≤ 64) (s2 : e.depth ≤ 64) {b : Bool} (hb : d = e ↔ b = true) (q : Q (.bl b) H) : rEqU K v u H Q := .inr ⟨_, _, h1.dp, h2.dp, h1.shaped s1, h2.shaped s2, by rw [bool_of ((Im.eqv _ _ _ _ h1 h2).trans hb)]; exact q⟩
theorem rd_neI {v u : V} {d e : PyData} (h1 : Im H v d) (h2 : Im H u e) (s1 : d.depth ≤ 64) (s2 : e.depth ≤ 64) {b : Bool} (hb : d = e ↔ b = true) (q : Q (.bl (!b)) H) : rNeU K v u H Q := .inr ⟨_, _, h1.dp, h2.dp, h1.shaped s1, h2.shaped s2, by rw [bool_of ((Im.eqv _ _ _ _ h1 h2).trans hb)]; exact q⟩
theorem rd_inWI {v u : V} {d : PyData} {ds : List PyData} (h1 : Im H v d) (h2 : Im H u (.tuple ds)) (s1 : d.depth ≤ 64) (s2 : PyData.depth (.tuple ds) ≤ 64) {b : Bool} (hb : d ∈ ds ↔ b = true) (q : Q (.bl b) H) : rInW K v u H Q := .inr (.inr ⟨d, ds, h1.dp, h2.dp, h1.shaped s1, h2.shaped s2, by
  obtain ⟨a, xs, _, _, h3⟩ := h2.tup'
  rw [bool_of ((any_eqv h1 h3).trans hb)]
  exact q⟩)
theorem Ls.dp {a : Addr} {ds : List PyData} (h : Ls H a ds) : Dp K H (.ref a) (.list ds) := by
  obtain ⟨xs, h1, h2⟩ := h
  exact .lst (SqL.of h1) h2.dp
theorem rd_ninWL {v : V} {a : Addr} {d : PyData} {ds : List PyData} (h1 : Im H v d) (h2 : Ls H a ds) (s1 : d.depth ≤ 64) (s2 : PyData.depth (.list ds) ≤ 64) {b : Bool} (hb : d ∈ ds ↔ b = true) (q : Q (.bl (!b)) H) : rNinW K v (.ref a) H Q := .inr (.inl ⟨d, ds, h1.dp, h2.dp, h1.shaped s1, by
  obtain ⟨xs, e1, e2⟩ := h2
  unfold SeqAt.shaped
  rw [show PyData.canLay0 (.list ds) = true from ImAll.lay ds _ e2, decide_eq_true s2]
  rfl, by
  obtain ⟨xs, e1, e2⟩ := h2
  rw [bool_of ((any_eqv h1 e2).trans hb)]
  exact q⟩)
theorem each_im {H : Hp} {xs : List V} {ds : List PyData} (h : ImAll H xs ds) : ∀ {ys : List V} {es : List PyData}, EachIs (fun y d => (y, d) ∈ xs.zip ds) ys es → ImAll H ys es
  | _, _, .nil => .nil
  | _, _, .cons a t => by
    refine .cons ?_ (each_im h t)
    clear t
    have key : ∀ {xs : List V} {ds : List PyData} {v : V} {d : PyData}, ImAll H xs ds → (v, d) ∈ xs.zip ds → Im H v d := by
      intro xs ds v d h
      induction xs generalizing ds with
      | nil => intro a; simp at a
      | cons x xs ih =>
        cases h with
        | cons h1 h2 =>
          intro a
          rw [List.zip_cons_cons] at a
          rcases List.mem_cons.mp a with a | a
          · cases a
            exact h1
          · exact ih h2 a
    exact key h a
/-- sorted of a list of data -/
def srtD (ds : List PyData) : List PyData := ds.mergeSort (dataLe false id)
theorem rd_sortI {a : Addr} {ds : List PyData} (h : Ls H a ds) (h1 : AllAlike ds) (h2 : Sortable ds) (h3 : ∀ d ∈ ds, d.depth ≤ 60) (q : ∀ p ys, H p = none → ImAll H ys (srtD ds) → Q (.ref p) (upd H p (.lst ys))) : rSortD K [.ref a] H Q := by
  obtain ⟨xs, e1, e2⟩ := h
  exact ⟨a, xs, ds, rfl, SqL.of e1, e2.dp, h1, h2, h3, fun ys p hs hp => q p ys hp (each_im e2 hs)⟩
theorem rd_tupF {p : Addr} {ys : List V} (h : SqL K H p ys) (q : ∀ l o, H l = none → o.dict = none → Q (.ref l) (upd H l (.frz o (.tup ys)))) : rTupF K [.ref p] H Q := ⟨p, ys, rfl, .inl ⟨h, q⟩⟩
theorem rd_listT {p : Addr} {ys : List V} (h : SqT K H p ys) (q : ∀ l, H l = none → Q (.ref l) (upd H l (.lst ys))) : rListOf K [.ref p] H Q := ⟨p, ys, rfl, .inr h, q⟩
theorem rd_lenT {p : Addr} {ys : List V} (h : SqT K H p ys) (q : Q (.int ys.length) H) : rLenU K [.ref p] H Q := .inr ⟨p, ys, rfl, .inr h, q⟩
theorem rd_slT {a : Addr} {xs : List V} {lo hi : Option Int} (h : SqT K H a xs) (hw : ¬ (HT.sIx xs.length 0 lo = 0 ∧ HT.sIx xs.length xs.length hi = xs.length)) (q : ∀ p, H p = none → Q (.ref p) (upd H p (.tup (cutV xs lo hi)))) : rSlU K (.ref a) lo hi H Q := .inr (.inr ⟨a, xs, rfl, h, hw, q⟩)
theorem rd_catT {a b : Addr} {xs ys : List V} (h1 : SqT K H a xs) (h2 : SqT K H b ys) (n1 : xs ≠ []) (n2 : ys ≠ []) (c : xs.length + ys.length ≤ sizeLine) (q : ∀ p, H p = none → Q (.ref p) (upd H p (.tup (xs ++ ys)))) : rPlus K (.ref a) (.ref b) H Q := .inr (.inr (.inr (.inl ⟨a, b, xs, ys, rfl, rfl, h1, h2, n1, c, fun e => absurd e n2, fun _ => q⟩)))
theorem rd_catT0 {a b : Addr} {ys : List V} (h1 : SqT K H a []) (h2 : SqT K H b ys) (q : Q (.ref b) H) : rPlus K (.ref a) (.ref b) H Q := .inr (.inr (.inr (.inr ⟨a, b, ys, rfl, rfl, h1, h2, q⟩)))
/-! ### comprehensions over data -/
theorem lcg_im (T : List (Addr × Str)) (ms : List Addr) {J : It} {n : Nat} {G : Hp → Prop} {Y : Nat → Hp → V → Hp → Prop} {g : TG} {tt : TT} {te : TE} {vs : List Nat} (w : Walk J n G Y) (xs : List V) (hn : n = xs.length) (hY : ∀ i H x H', Y i H x H' → H' = H ∧ xs[i]? = some x)
    (Iv : Hp → Prop) (h0 : Iv H) (hI0 : ∀ D o, H D = none → Iv (upd H D o)) (hI : ∀ D H', Nw H D → Iv H' → ∀ ys u, H' D = some (.lst ys) → Iv (upd H' D u)) (hL : ∀ H', Iv H' → Lsts H' ms) (hG : ∀ H', Ext T ms H H' → Iv H' → G H') (hl : xs.length < sizeLine)
    (p : V → Bool) (Rel : PyData → V → Prop)
    (step : ∀ (i : Nat) (x : V), xs[i]? = some x → ∀ H', Ext T ms H H' → Iv H' → ∀ (R : V → Hp → Prop) (S : Hp → Prop), (p x = true → ∀ v d H2, Ext T ms H' H2 → Iv H2 → Im H2 v d → Rel d x → R v H2) → (p x = false → ∀ H2, Ext T ms H' H2 → Iv H2 → S H2) →
      g x (wipe σ vs) H' fun σ2 H2 => wipe σ2 vs = wipe σ vs ∧ tt σ2 H2 fun b H3 => if b = true then te σ2 H3 R else S H3)
    (q : ∀ D H2 ds, Nw H D → Ext T ms H H2 → Iv H2 → Ls H2 D ds → EachIs Rel ds (xs.filter p) → Q (.ref D) H2) : LcG J g tt te vs σ H Q := fun D hD => by
  have hDm : D ∉ ms := fun hm => by
    obtain ⟨ys, e⟩ := hL H h0 D hm
    rw [hD] at e
    cases e
  refine lc_it w (fun i H2 => Ext T ms H H2 ∧ Iv H2 ∧ ∃ ds, Ls H2 D ds ∧ EachIs Rel ds ((xs.take i).filter p)) ⟨.new hD, hI0 D _ hD, [], ⟨[], upd_same, .nil⟩, .nil⟩ (fun i H2 _ h => hG H2 h.1 h.2.1) (fun i x H1 H' hi h y => ?_) (fun H1 h => ?_)
  · obtain ⟨e1, e2⟩ := hY i H1 x H' y
    subst e1
    obtain ⟨h1, h2, ds, h3, h4⟩ := h
    have et : xs.take (i + 1) = xs.take i ++ [x] := by rw [List.take_add_one, e2]; rfl
    refine step i x e2 H' h1 h2 _ _ (fun hp v d H2 e i2 hv hr => ?_) (fun hp H2 e i2 => ?_)
    · have h3' := h3.ext e hDm (hL H' h2)
      obtain ⟨acc, h5, h6⟩ := h3'
      refine ⟨acc, h5, ?_, (h1.trans e).own (.of hD) h5, hI D H2 (.of hD) i2 acc _ h5, ds ++ [d], ⟨acc ++ [v], upd_same, ?_⟩, ?_⟩
      · refine Nat.lt_of_le_of_lt ?_ hl
        rw [h6.len, h4.length]
        exact Nat.le_trans (List.length_filter_le _ _) (by rw [List.length_take]; exact Nat.min_le_right _ _)
      · have eD : Ext T [D] H2 (upd H2 D (.lst (acc ++ [v]))) := Ext.mut (by simp) h5
        have hLD : Lsts H2 [D] := fun b hb => ⟨acc, by rw [List.mem_singleton.mp hb]; exact h5⟩
        exact (ImAll.ext eD hLD _ _ h6).snoc (Im.ext eD hLD _ _ hv)
      · rw [et, List.filter_append, List.filter_cons_of_pos hp]
        exact PySem.W.each_snoc hr h4
    · refine ⟨h1.trans e, i2, ds, h3.ext e hDm (hL H' h2), ?_⟩
      rw [et, List.filter_append, List.filter_cons_of_neg (by rw [hp]; decide), List.filter_nil, List.append_nil]
      exact h4
  · obtain ⟨h1, h2, ds, h3, h4⟩ := h
    rw [hn, List.take_length] at h4
    exact q D H1 ds (.of hD) h1 h2 h3 h4
end

open PySem PySem.Spec PyProof.Rows L2
/-! ### names are plain texts -/
theorem spl_cover : ∀ (l acc : List Nat) (c : Nat), c ∈ l → c = 46 ∨ ∃ p ∈ TL.spl [46] 0 acc l, c ∈ p
  | [], _, _, h => by cases h
  | d :: r, acc, c, h => by
    by_cases hd : d = 46
    · subst hd
      have e : TL.spl [46] 0 acc (46 :: r) = acc :: TL.spl [46] 0 [] r := by
        rw [TL.spl, if_pos (by rfl)]
        rfl
      rcases List.mem_cons.mp h with h | h
      · exact .inl h
      · rcases spl_cover r [] c h with h2 | ⟨p, h2, h3⟩
        · exact .inl h2
        · exact .inr ⟨p, by rw [e]; exact List.mem_cons_of_mem _ h2, h3⟩
    · have e : TL.spl [46] 0 acc (d :: r) = TL.spl [46] 0 (acc ++ [d]) r := by
        rw [TL.spl, if_neg]
        show ¬ (TL.pre [46] (d :: r) = true)
        unfold TL.pre
        simpa using hd
      rw [e]
      rcases List.mem_cons.mp h with h | h
      · refine .inr ?_
        subst h
        have key : ∀ (l acc : List Nat), c ∈ acc → ∃ p ∈ TL.spl [46] 0 acc l, c ∈ p := by
          intro l
          induction l with
          | nil => exact fun acc h => ⟨acc, List.mem_singleton.mpr rfl, h⟩
          | cons d r ih =>
            intro acc h
            by_cases hd : d = 46
            · subst hd
              have e : TL.spl [46] 0 acc (46 :: r) = acc :: TL.spl [46] 0 [] r := by
                rw [TL.spl, if_pos (by rfl)]
                rfl
              exact ⟨acc, by rw [e]; exact List.mem_cons_self, h⟩
            · have e : TL.spl [46] 0 acc (d :: r) = TL.spl [46] 0 (acc ++ [d]) r := by
                rw [TL.spl, if_neg]
                show ¬ (TL.pre [46] (d :: r) = true)
                unfold TL.pre
                simpa using hd
              rw [e]
              exact ih _ (List.mem_append_left _ h)
        exact key r _ (by simp)
      · exact spl_cover r _ c h
theorem label_mem {y : Str} (h : labelB y = true) {c : Nat} (hc : c ∈ sg y) : c ∈ sg lettersS := by
  unfold labelB wordB at h
  rw [Bool.and_eq_true, Bool.and_eq_true] at h
  exact of_decide_eq_true (List.all_eq_true.mp h.2.2 c hc)
theorem label_len {y : Str} (h : labelB y = true) : y.length ≤ 8 := by
  unfold labelB wordB at h
  rw [Bool.and_eq_true, Bool.and_eq_true] at h
  have := of_decide_eq_true h.2.1
  omega
theorem letters_lt : ∀ c ∈ sg lettersS, c < 128 := by decide +kernel
theorem name_parts {z : Str} (h : nameB z = true) : z = dotS ∨ ((partsL z).length ≤ 4 ∧ ∀ p ∈ partsL z, labelB p = true) := by
  unfold nameB at h
  rw [Bool.or_eq_true, Bool.and_eq_true] at h
  rcases h with h | ⟨h1, h2⟩
  · exact .inl (of_decide_eq_true h)
  · have := of_decide_eq_true h1
    exact .inr ⟨by omega, List.all_eq_true.mp h2⟩
theorem name_plain {z : Str} (h : nameB z = true) : ∀ c ∈ sg z, c < 128 := fun c hc => by
  rcases name_parts h with e | ⟨_, h2⟩
  · rw [e, sg_dot] at hc
    rw [List.mem_singleton.mp hc]
    decide
  · rcases spl_cover (sg z) [] c hc with e | ⟨p, hp, hcp⟩
    · rw [e]
      decide
    · rw [← parts_sg] at hp
      obtain ⟨y, hy, rfl⟩ := List.mem_map.mp hp
      exact letters_lt c (label_mem (h2 y hy) hcp)
theorem part_plain {z : Str} (h : nameB z = true) {y : Str} (hy : y ∈ partsL z) : ∀ c ∈ sg y, c < 128 := fun c hc => by
  rcases name_parts h with e | ⟨_, h2⟩
  · subst e
    have e2 : partsL dotS = [⟨#[]⟩, ⟨#[]⟩] := by decide +kernel
    rw [e2] at hy
    have : y = ⟨#[]⟩ := by simpa using hy
    subst this
    cases hc
  · exact letters_lt c (label_mem (h2 y hy) hc)
/-- the lengths of the parts together -/
theorem spl_sum : ∀ l acc : List Nat, ((TL.spl [46] 0 acc l).map List.length).sum ≤ acc.length + l.length
  | [], acc => by
    show ([acc].map List.length).sum ≤ _
    simp
  | c :: r, acc => by
    by_cases hd : c = 46
    · subst hd
      have e : TL.spl [46] 0 acc (46 :: r) = acc :: TL.spl [46] 0 [] r := by
        rw [TL.spl, if_pos (by rfl)]
        rfl
      have := spl_sum r []
      rw [e, List.map_cons, List.sum_cons]
      simp only [List.length_nil, List.length_cons] at this ⊢
      omega
    · have e : TL.spl [46] 0 acc (c :: r) = TL.spl [46] 0 (acc ++ [c]) r := by
        rw [TL.spl, if_neg]
        show ¬ (TL.pre [46] (c :: r) = true)
        unfold TL.pre
        simpa using hd
      have := spl_sum r (acc ++ [c])
      rw [e]
      simp only [List.length_append, List.length_cons, List.length_nil] at this ⊢
      omega
theorem parts_sum (z : Str) : ((partsL z).map (·.length)).sum ≤ z.length := by
  have h := spl_sum (sg z) []
  rw [← parts_sg, List.map_map] at h
  have e2 : List.map (List.length ∘ sg) (partsL z) = (partsL z).map (·.length) := List.map_congr_left fun y _ => sg_len y
  rw [e2, sg_len] at h
  simpa using h
theorem sum_drop (l : List Nat) (k : Nat) : (l.drop k).sum ≤ l.sum := by
  have h := congrArg List.sum (List.take_append_drop k l)
  rw [List.sum_append] at h
  omega
theorem cutV_strs (zs : List Str) {i : Int} (h0 : 0 ≤ i) : cutV (zs.map V.str) (some i) none = (zs.drop i.toNat).map V.str := by
  unfold cutV
  rw [HT.sIx_none, List.length_map]
  have e : HT.sIx zs.length 0 (some i) = min i.toNat zs.length := by
    obtain ⟨k, rfl⟩ := Int.eq_ofNat_of_zero_le h0
    exact HT.sIx_nat zs.length 0 k
  rw [e, ← List.map_drop, ← List.map_take, List.take_of_length_le (by rw [List.length_drop]; omega)]
  congr 1
  by_cases h : i.toNat ≤ zs.length
  · rw [Nat.min_eq_left h]
  · rw [Nat.min_eq_right (by omega), List.drop_length, List.drop_eq_nil_of_le (by omega)]

/-! ### texts that may stand in data -/
theorem plain_ok {z : Str} (h : ∀ c ∈ sg z, c < 128) : PyData.strOk z = true := by
  unfold PyData.strOk
  rw [← Array.all_toList, List.all_eq_true]
  intro c hc
  have := h c hc
  exact decide_eq_true (by omega)
theorem id_plain {y : Str} (h : idB y = true) : ∀ c ∈ sg y, c < 128 := fun c hc => by
  unfold idB wordB at h
  rw [Bool.and_eq_true, Bool.and_eq_true] at h
  exact letters_lt c (of_decide_eq_true (List.all_eq_true.mp h.2.2 c hc))
theorem id_ok {y : Str} (h : idB y = true) : PyData.strOk y = true := plain_ok (id_plain h)
theorem id_len {y : Str} (h : idB y = true) : y.length ≤ 4 := by
  unfold idB wordB at h
  rw [Bool.and_eq_true, Bool.and_eq_true] at h
  have := of_decide_eq_true h.2.1
  omega
theorem id_pos {y : Str} (h : idB y = true) : 1 ≤ y.length := by
  unfold idB wordB at h
  rw [Bool.and_eq_true] at h
  have := of_decide_eq_true h.1
  omega
theorem label_ok {y : Str} (h : labelB y = true) : PyData.strOk y = true := plain_ok fun c hc => letters_lt c (label_mem h hc)
theorem name_ok {y : Str} (h : nameB y = true) : PyData.strOk y = true := plain_ok (name_plain h)
theorem app_len (a b : Str) : (a ++ b).length = a.length + b.length := by rw [← sg_len, sg_app, List.length_append, sg_len, sg_len]
theorem dotS_len : dotS.length = 1 := by decide +kernel
/-- a word made of two -/
theorem word_app {a b : Str} {n m k : Int} (ha : wordB a lettersS n = true) (hb : wordB b lettersS m = true) (hk : n + m ≤ k) : wordB (a ++ b) lettersS k = true := by
  unfold wordB at ha hb ⊢
  rw [Bool.and_eq_true, Bool.and_eq_true] at ha hb ⊢
  have h1 := of_decide_eq_true ha.1
  have h2 := of_decide_eq_true ha.2.1
  have h3 := of_decide_eq_true hb.2.1
  rw [app_len, sg_app, List.all_append, Bool.and_eq_true]
  refine ⟨decide_eq_true ?_, decide_eq_true ?_, ha.2.2, hb.2.2⟩
  · have := of_decide_eq_true hb.1
    omega
  · omega
theorem word_mono {a : Str} {n k : Int} (ha : wordB a lettersS n = true) (hk : n ≤ k) : wordB a lettersS k = true := by
  unfold wordB at ha ⊢
  rw [Bool.and_eq_true, Bool.and_eq_true] at ha ⊢
  have h2 := of_decide_eq_true ha.2.1
  exact ⟨ha.1, decide_eq_true (by omega), ha.2.2⟩
/-! ### names joined of labels -/
theorem join_sg (ys : List Str) : sg (joinS ys) = TL.joinL [46] (ys.map sg) := by
  show sg (Txt.join dotS ys) = _
  rw [TL.join_eq, ← sg_dot]
  exact TL.tl_join dotS ys
theorem join_one (y : Str) : joinS [y] = y := sg_inj (by rw [join_sg]; rfl)
theorem join_cons (y : Str) {ys : List Str} (h : ys ≠ []) : joinS (y :: ys) = y ++ (dotS ++ joinS ys) := by
  refine sg_inj ?_
  rw [sg_app, sg_app, join_sg, join_sg, sg_dot]
  cases ys with
  | nil => exact absurd rfl h
  | cons z r => rfl
theorem str_assoc (a b c : Str) : (a ++ b) ++ c = a ++ (b ++ c) := sg_inj (by rw [sg_app, sg_app, sg_app, sg_app, List.append_assoc])
/-- a zone below the root -/
def zoneB (z : Str) : Prop := ∃ ys : List Str, z = joinS ys ∧ ys ≠ [] ∧ ys.length ≤ 3 ∧ ∀ y ∈ ys, labelB y = true
theorem zone_name {z : Str} (h : zoneB z) : nameB z = true := by
  obtain ⟨ys, rfl, h1, h2, h3⟩ := h
  exact name_join h1 (by omega) h3
theorem dot_name : nameB dotS = true := by decide +kernel
theorem zone_ne {z : Str} (h : zoneB z) : z ≠ dotS := fun e => by
  obtain ⟨ys, rfl, h1, h2, h3⟩ := h
  have e2 := parts_join h1 fun y hy => label_nodot (h3 y hy)
  rw [e] at e2
  have e3 : partsL dotS = [⟨#[]⟩, ⟨#[]⟩] := by decide +kernel
  rw [e3] at e2
  have := h3 ⟨#[]⟩ (by rw [← e2]; simp)
  exact absurd this (by decide +kernel)
theorem join_inj {ys zs : List Str} (h1 : ys ≠ []) (h2 : zs ≠ []) (h3 : ∀ y ∈ ys, labelB y = true) (h4 : ∀ y ∈ zs, labelB y = true) (e : joinS ys = joinS zs) : ys = zs := by
  have e1 := parts_join h1 fun y hy => label_nodot (h3 y hy)
  have e2 := parts_join h2 fun y hy => label_nodot (h4 y hy)
  rw [← e1, ← e2, e]
/-- a label put ahead of a zone, or alone -/
theorem name_cons {a z : Str} (ha : labelB a = true) (h : zoneB z) : nameB (a ++ (dotS ++ z)) = true := by
  obtain ⟨ys, rfl, h1, h2, h3⟩ := h
  rw [← join_cons a h1]
  refine name_join (by simp) (by rw [List.length_cons]; omega) fun y hy => ?_
  rcases List.mem_cons.mp hy with e | hy
  · rw [e]
    exact ha
  · exact h3 y hy
theorem label_name {a : Str} (ha : labelB a = true) : nameB a = true := by
  rw [← join_one a]
  exact name_join (by simp) (by simp) fun y hy => by rw [List.mem_singleton.mp hy]; exact ha
theorem name_len {z : Str} (h : nameB z = true) : z.length ≤ 40 := by
  rcases name_parts h with e | ⟨h1, h2⟩
  · rw [e, dotS_len]
    omega
  · have key : ∀ (l acc : List Nat) (B : Nat), (∀ p ∈ TL.spl [46] 0 acc l, p.length ≤ B) → acc.length + l.length ≤ (TL.spl [46] 0 acc l).length * (B + 1) - 1 ∧ 0 < (TL.spl [46] 0 acc l).length := by
      intro l
      induction l with
      | nil =>
        intro acc B h
        have := h acc (List.mem_singleton.mpr rfl)
        exact ⟨by show acc.length + 0 ≤ 1 * (B + 1) - 1; omega, Nat.one_pos⟩
      | cons c r ih =>
        intro acc B h
        by_cases hc : c = 46
        · subst hc
          have e : TL.spl [46] 0 acc (46 :: r) = acc :: TL.spl [46] 0 [] r := by
            rw [TL.spl, if_pos (by rfl)]
            rfl
          rw [e] at h ⊢
          have h1 := h acc List.mem_cons_self
          obtain ⟨h2, h3⟩ := ih [] B fun p hp => h p (List.mem_cons_of_mem _ hp)
          have h5 := Nat.mul_pos h3 (show 0 < B + 1 by omega)
          simp only [List.length_cons, List.length_nil] at h2 ⊢
          rw [Nat.succ_mul]
          omega
        · have e : TL.spl [46] 0 acc (c :: r) = TL.spl [46] 0 (acc ++ [c]) r := by
            rw [TL.spl, if_neg]
            show ¬ (TL.pre [46] (c :: r) = true)
            unfold TL.pre
            simpa using hc
          rw [e] at h ⊢
          obtain ⟨h2, h3⟩ := ih (acc ++ [c]) B h
          have h5 := Nat.mul_pos h3 (show 0 < B + 1 by omega)
          simp only [List.length_cons, List.length_append, List.length_nil] at h2 ⊢
          omega
    have hp : ∀ p ∈ TL.spl [46] 0 [] (sg z), p.length ≤ 8 := fun p hp => by
      rw [← parts_sg] at hp
      obtain ⟨y, hy, rfl⟩ := List.mem_map.mp hp
      rw [sg_len]
      exact label_len (h2 y hy)
    obtain ⟨h3, _⟩ := key (sg z) [] 8 hp
    have h4 : (TL.spl [46] 0 [] (sg z)).length ≤ 4 := by rw [← parts_sg, List.length_map]; exact h1
    rw [sg_len] at h3
    simp only [List.length_nil] at h3
    omega

open PySem PySem.Spec PyProof.Rows L2
open PySem.W (EachIs sort_maps dataLe dataLe_eq dataLt_pair dataLt_int dataLt_str AllAlike Sortable)
/-! ### the data of a realm, a state, a plan -/
def siD (p : Str × Int) : PyData := .tuple [.str p.1, .int p.2]
def ssD (p : Str × Str) : PyData := .tuple [.str p.1, .str p.2]
inductive Sl where
  | k (z : Str) | l (z : Str) | h (z : Str) | s (n k : Str)
  deriving DecidableEq
def slD : Sl → PyData
  | .k z => .tuple [.str "keys", .str z]
  | .l z => .tuple [.str "link", .str z]
  | .h z => .tuple [.str "hosts", .str z]
  | .s n k => .tuple [.str "set", .str n, .str k]
structure Itm where
  c : List Str
  li : Int
  g : List Str
  a : Int
  b : Int
def itD (i : Itm) : PyData := .tuple [.tuple (i.c.map .str), .int i.li, .tuple (i.g.map .str), .int i.a, .int i.b]
structure Rm where
  zs : List (Str × Int)
  an : List Str
  ss : List (Str × Str)
def rmD (r : Rm) : PyData := .tuple [.tuple (r.zs.map siD), .tuple (r.an.map .str), .tuple (r.ss.map ssD)]
def rowD2 (r : Sl × Itm) : PyData := .tuple [slD r.1, itD r.2]
structure Sta where
  its : List (Sl × Itm)
  on : List (Str × Str)
def stD (s : Sta) : PyData := .tuple [.tuple (s.its.map rowD2), .tuple (s.on.map ssD)]
inductive Dd where
  | put (s : Sl) (i : Itm) | on (x z : Str) | off (x z : Str)
def ddD : Dd → PyData
  | .put s i => .tuple [.str "put", slD s, itD i]
  | .on x z => .tuple [.str "on", .str x, .str z]
  | .off x z => .tuple [.str "off", .str x, .str z]
def plD (p : Int × Dd) : PyData := .tuple [.int p.1, ddD p.2]
theorem ssD_inj {a b : Str × Str} (h : ssD a = ssD b) : a = b := by
  obtain ⟨a1, a2⟩ := a
  obtain ⟨b1, b2⟩ := b
  unfold ssD at h
  injection h with h
  injection h with h1 h
  injection h with h2 _
  injection h1 with h1
  injection h2 with h2
  have h1 : a1 = b1 := h1
  have h2 : a2 = b2 := h2
  rw [h1, h2]
theorem slD_inj {a b : Sl} (h : slD a = slD b) : a = b := by
  have two : ∀ {u v x y : Str}, PyData.tuple [.str u, .str x] = PyData.tuple [.str v, .str y] → u = v ∧ x = y := by
    intro u v x y h
    injection h with h
    injection h with h1 h
    injection h with h2 _
    injection h1 with h1
    injection h2 with h2
    exact ⟨h1, h2⟩
  cases a <;> cases b <;> unfold slD at h <;> first
    | (cases (two h).2; rfl)
    | (exact absurd (two h).1 (by decide +kernel))
    | (injection h with h; injection h with _ h; injection h with h1 h; injection h with h2 _; injection h1 with h1; injection h2 with h2; rw [h1, h2])
    | (injection h with h; injection h with _ h; injection h with _ h; cases h)
theorem map_inj {α β : Type} {f : α → β} (hf : ∀ a b, f a = f b → a = b) : ∀ {xs ys : List α}, xs.map f = ys.map f → xs = ys
  | [], [], _ => rfl
  | [], _ :: _, h => by cases h
  | _ :: _, [], h => by cases h
  | x :: xs, y :: ys, h => by
    rw [List.map_cons, List.map_cons] at h
    injection h with h1 h2
    rw [hf _ _ h1, map_inj hf h2]
theorem strs_inj {xs ys : List Str} (h : xs.map PyData.str = ys.map PyData.str) : xs = ys := map_inj (fun _ _ e => by injection e) h
theorem itD_inj {a b : Itm} (h : itD a = itD b) : a = b := by
  obtain ⟨a1, a2, a3, a4, a5⟩ := a
  obtain ⟨b1, b2, b3, b4, b5⟩ := b
  unfold itD at h
  injection h with h
  injection h with h1 h
  injection h with h2 h
  injection h with h3 h
  injection h with h4 h
  injection h with h5 h
  injection h1 with h1
  injection h2 with h2
  injection h3 with h3
  injection h4 with h4
  injection h5 with h5
  have h1 : a1 = b1 := strs_inj h1
  have h2 : a2 = b2 := h2
  have h3 : a3 = b3 := strs_inj h3
  have h4 : a4 = b4 := h4
  have h5 : a5 = b5 := h5
  rw [h1, h2, h3, h4, h5]
theorem dep_strs0 : ∀ zs : List Str, PyData.depthAll (zs.map PyData.str) = 0
  | [] => rfl
  | z :: zs => by
    show max (PyData.depth (.str z)) (PyData.depthAll (zs.map PyData.str)) = 0
    rw [dep_strs0 zs]
    rfl
theorem dep_map {α : Type} {f : α → PyData} {n : Nat} (hf : ∀ a, (f a).depth ≤ n) : ∀ xs : List α, PyData.depthAll (xs.map f) ≤ n
  | [] => Nat.zero_le _
  | x :: xs => Nat.max_le.mpr ⟨hf x, dep_map hf xs⟩
theorem dep_ss (p : Str × Str) : (ssD p).depth ≤ 1 := by show 0 + 1 ≤ 1; omega
theorem dep_si (p : Str × Int) : (siD p).depth ≤ 1 := by show 0 + 1 ≤ 1; omega
theorem dep_sl (s : Sl) : (slD s).depth ≤ 1 := by cases s <;> (show 0 + 1 ≤ 1; omega)
theorem dep_it (i : Itm) : (itD i).depth ≤ 2 := by
  show max (PyData.depthAll (i.c.map .str) + 1) (max 0 (max (PyData.depthAll (i.g.map .str) + 1) (max 0 (max 0 0)))) + 1 ≤ 2
  rw [dep_strs0, dep_strs0]
  decide
/-! ### deeds done -/
def srtSS (l : List (Str × Str)) : List (Str × Str) := l.mergeSort fun a b => dataLe false id (ssD a) (ssD b)
theorem srtSS_eq (l : List (Str × Str)) : srtD (l.map ssD) = (srtSS l).map ssD := (sort_maps ssD fun _ _ _ _ => rfl).symm
def srtS (l : List Str) : List Str := l.mergeSort fun a b => dataLe false id (.str a) (.str b)
theorem srtS_eq (l : List Str) : srtD (l.map .str) = (srtS l).map .str := (sort_maps PyData.str fun _ _ _ _ => rfl).symm
theorem srtS_perm (l : List Str) : (srtS l).Perm l := List.mergeSort_perm _ _
theorem srtSS_perm (l : List (Str × Str)) : (srtSS l).Perm l := List.mergeSort_perm _ _
theorem alike_ss (l : List (Str × Str)) : AllAlike (l.map ssD) := fun d hd e he => by
  obtain ⟨y, _, rfl⟩ := List.mem_map.mp hd
  obtain ⟨z, _, rfl⟩ := List.mem_map.mp he
  rfl
theorem sortable_ss (l : List (Str × Str)) : Sortable (l.map ssD) := .inl fun d hd => by
  obtain ⟨y, _, rfl⟩ := List.mem_map.mp hd
  exact ⟨_, _, rfl⟩
theorem depth_ss (l : List (Str × Str)) : ∀ d ∈ l.map ssD, d.depth ≤ 60 := fun d hd => by
  obtain ⟨y, _, rfl⟩ := List.mem_map.mp hd
  exact Nat.le_trans (dep_ss y) (by decide)
theorem alike_s (l : List Str) : AllAlike (l.map PyData.str) := fun d hd e he => by
  obtain ⟨y, _, rfl⟩ := List.mem_map.mp hd
  obtain ⟨z, _, rfl⟩ := List.mem_map.mp he
  rfl
theorem sortable_s (l : List Str) : Sortable (l.map PyData.str) := .inr fun d hd => by
  obtain ⟨y, _, rfl⟩ := List.mem_map.mp hd
  exact ⟨fun h => (by cases h), fun _ h => (by cases h)⟩
theorem depth_s (l : List Str) : ∀ d ∈ l.map PyData.str, d.depth ≤ 60 := fun d hd => by
  obtain ⟨y, _, rfl⟩ := List.mem_map.mp hd
  show 0 ≤ 60
  decide
def aft (s : Sta) : Dd → Sta
  | .put sl i => ⟨s.its.map fun r => (r.1, if r.1 = sl then i else r.2), s.on⟩
  | .on x z => ⟨s.its, srtSS (s.on ++ [(x, z)])⟩
  | .off x z => ⟨s.its, s.on.filter fun p => !decide (p = (x, z))⟩
theorem aft_keys (s : Sta) (d : Dd) : (aft s d).its.map (·.1) = s.its.map (·.1) := by
  cases d with
  | put sl i =>
    show (s.its.map _).map _ = _
    rw [List.map_map]
    rfl
  | on x z => rfl
  | off x z => rfl

open PySem PySem.Spec PyProof.Rows L2
/-! ### what the drawing functions give -/
theorem nodup_len {α : Type} [DecidableEq α] : ∀ {l ys : List α}, l.Nodup → (∀ x ∈ l, x ∈ ys) → l.length ≤ ys.length
  | [], ys, _, _ => Nat.zero_le _
  | x :: l, ys, hn, h => by
    have hx := h x List.mem_cons_self
    have h1 := List.nodup_cons.mp hn
    have h2 := nodup_len (ys := ys.erase x) h1.2 fun y hy => (List.mem_erase_of_ne (fun e => h1.1 (by rw [← e]; exact hy))).mpr (h y (List.mem_cons_of_mem _ hy))
    rw [List.length_erase_of_mem hx] at h2
    have := List.length_pos_of_mem hx
    rw [List.length_cons]
    omega
theorem nodup_snoc {α : Type} {l : List α} {x : α} (h : l.Nodup) (hx : x ∉ l) : (l ++ [x]).Nodup := by
  rw [List.nodup_append]
  refine ⟨h, by simp, fun a ha b hb e => ?_⟩
  rw [List.mem_singleton.mp hb] at e
  rw [e] at ha
  exact hx ha
section
variable (T : List (Addr × Str))
def spId : Sp := fun vs H Q _ => ∃ (l t : Addr), vs = [.ref t] ∧ Tape l H t ∧ ∀ z H', idB z = true → Ext T [t] H H' → Tape l H' t → Q (.str z) H'
def spIds : Sp := fun vs H Q _ => ∃ (l t : Addr) (m : Int), vs = [.ref t, .int m] ∧ 0 ≤ m ∧ m ≤ 5 ∧ Tape l H t ∧
  ∀ (p : Addr) (ys : List Str) (H' : Hp), Nw H p → (ys.length : Int) = m → ys.Nodup → (∀ y ∈ ys, idB y = true) → H' p = some (.lst (ys.map V.str)) → Ext T [t] H H' → Tape l H' t → Q (.ref p) H'
def spLabel : Sp := fun vs H Q _ => ∃ (l t : Addr), vs = [.ref t] ∧ Tape l H t ∧ ∀ z H', labelB z = true → Ext T [t] H H' → Tape l H' t → Q (.str z) H'
def spLabels : Sp := fun vs H Q _ => ∃ (l t : Addr), vs = [.ref t] ∧ Tape l H t ∧
  ∀ (p : Addr) (ys : List Str) (a b c : Str) (H' : Hp), Nw H p → a ≠ b → a ≠ c → b ≠ c → (∀ y ∈ (a :: b :: c :: ys), labelB y = true) → ys.length ≤ 10 → H' p = some (.lst ((a :: b :: c :: ys).map V.str)) → Ext T [t] H H' → Tape l H' t → Q (.ref p) H'
/-- a number of a range drawn -/
def spInt (lo hi : Int) : Sp := fun vs H Q _ => ∃ (l t : Addr), vs = [.ref t] ∧ Tape l H t ∧ ∀ z H', lo ≤ z → z ≤ hi → Ext T [t] H H' → Tape l H' t → Q (.int z) H'
end
def qsL : List Str := ["q1", "q2", "q3", "q4", "q5"]
theorem qs_ok : ∀ y ∈ qsL, idB y = true := by decide +kernel
theorem qs_nodup : qsL.Nodup := by decide +kernel
open PySem PySem.Spec PyProof.Rows L2
/-! ### three labels -/
def ksL : List Str := ["k1", "k22", "k333", "k4"]
theorem ks_ok : ∀ y ∈ ksL, labelB y = true := by decide +kernel
/-- the text ends with this sign and a w -/
def EndW (c : Nat) (y : Str) : Prop := ∃ a, sg y = a ++ [c, 119]
theorem endW_inj {c d : Nat} {y : Str} (h1 : EndW c y) (h2 : EndW d y) : c = d := by
  obtain ⟨a, e1⟩ := h1
  obtain ⟨b, e2⟩ := h2
  rw [e1] at e2
  have e3 := congrArg List.reverse e2
  simp only [List.reverse_append, List.reverse_cons, List.reverse_nil, List.nil_append, List.cons_append] at e3
  injection e3 with _ e3
  injection e3 with e3 _
theorem endW_last {c : Nat} {y : Str} (h : EndW c y) : (sg y).getLast? = some 119 := by
  obtain ⟨a, e⟩ := h
  rw [e]
  simp
theorem k1_last : (sg "k1").getLast? = some 49 := by decide +kernel
theorem labels_shape {F fs : List Str} (hn : F.Nodup) (hl : ∀ y ∈ F, labelB y = true) (h4 : F.length + fs.length = 4) (hf : fs.Nodup) (hs : ∀ y ∈ fs, y ∈ F ∧ ∃ c, EndW c y) :
    ∃ a b c r, F ++ ksL = a :: b :: c :: r ∧ a ≠ b ∧ a ≠ c ∧ b ≠ c ∧ (∀ y ∈ (a :: b :: c :: r), labelB y = true) ∧ r.length ≤ 10 := by
  have hall : ∀ y ∈ F ++ ksL, labelB y = true := fun y hy => (List.mem_append.mp hy).elim (hl y) (ks_ok y)
  have hle := nodup_len hf fun y hy => (hs y hy).1
  match F, hn, hl, h4, hs, hle, hall with
  | [], _, _, h4, _, hle, _ => simp only [List.length_nil] at h4 hle; omega
  | [a], _, _, h4, _, hle, _ => simp only [List.length_cons, List.length_nil] at h4 hle; omega
  | [a, b], hn, _, h4, hs, _, hall =>
    have e2 : fs.length = 2 := by simp only [List.length_cons, List.length_nil] at h4; omega
    have hab : a ≠ b := fun e => by simp [e] at hn
    have hsub : ∀ y ∈ [a, b], y ∈ fs := by
      intro y hy
      refine Classical.byContradiction fun hno => ?_
      have h5 := nodup_len (ys := [a, b].erase y) hf fun z hz => (List.mem_erase_of_ne (fun e => hno (by rw [← e]; exact hz))).mpr (hs z hz).1
      rw [List.length_erase_of_mem hy, e2] at h5
      simp at h5
    have nk : ∀ y ∈ [a, b], y ≠ "k1" := fun y hy e => by
      obtain ⟨c, hc⟩ := (hs y (hsub y hy)).2
      have h6 := endW_last hc
      rw [e, k1_last] at h6
      cases h6
    exact ⟨a, b, "k1", ["k22", "k333", "k4"], rfl, hab, nk a (by simp), nk b (by simp), hall, by decide⟩
  | a :: b :: c :: r, hn, _, h4, _, _, hall =>
    refine ⟨a, b, c, r ++ ksL, rfl, fun e => ?_, fun e => ?_, fun e => ?_, hall, ?_⟩
    · simp [e] at hn
    · simp [e] at hn
    · simp [e] at hn
    · rw [List.length_append]
      simp only [List.length_cons] at h4
      show r.length + 4 ≤ 10
      omega
/-- the last eight signs of a word with two more -/
theorem cut8 (z : Str) (hz : 1 ≤ z.length) (hc : ∀ c ∈ sg z, c ∈ sg lettersS) : labelB (cutS z (some (-8)) none) = true ∧ (∀ c, EndW c z → EndW c (cutS z (some (-8)) none)) := by
  have e : sg (cutS z (some (-8)) none) = (sg z).drop (z.length - 8) := by
    unfold cutS
    have h : HT.sIx z.length 0 (some (-8)) = z.length - 8 := by
      unfold HT.sIx
      simp only []
      split <;> omega
    rw [h, HT.sIx_none]
    show (List.toArray _).toList = _
    rw [List.take_of_length_le]
    rw [List.length_drop, show z.cps.toList.length = z.length from sg_len z]
    omega
  have hl : (cutS z (some (-8)) none).length = z.length - (z.length - 8) := by
    rw [← sg_len, e, List.length_drop, sg_len]
  constructor
  · unfold labelB wordB
    rw [decide_eq_true (show (1 : Int) ≤ ((cutS z (some (-8)) none).length : Int) by omega), decide_eq_true (show ((cutS z (some (-8)) none).length : Int) ≤ 8 by omega), e]
    rw [List.all_eq_true.mpr fun c h => decide_eq_true (hc c (List.mem_of_mem_drop h))]
    rfl
  · rintro c ⟨a, ea⟩
    refine ⟨a.drop (z.length - 8), ?_⟩
    have h9 : z.length = a.length + 2 := by
      rw [← sg_len, ea, List.length_append]
      rfl
    rw [e, ea, List.drop_append_of_le_length (by omega)]
open PySem PySem.Spec PyProof.Rows L2
def xyzL : List Str := ["", "x", "y", "z"]
def xyzC : List Nat := [0, 120, 121, 122]
theorem xyz_len : ∀ y ∈ xyzL, y.length ≤ 1 := by decide +kernel
theorem xyz_let : ∀ y ∈ xyzL, ∀ c ∈ sg y, c ∈ sg lettersS := by decide +kernel
theorem w_let : ∀ c ∈ sg (Str.ofString "w"), c ∈ sg lettersS := by decide +kernel
theorem w_len : (Str.ofString "w").length = 1 := by decide +kernel
theorem w_sg : sg (Str.ofString "w") = [119] := by decide +kernel
theorem xyz_end {i : Nat} {y : Str} (h0 : i ≠ 0) (h : xyzL[i]? = some y) : ∃ c, xyzC[i]? = some c ∧ sg y = [c] := by
  match i, h0, h with
  | 0, h0, _ => exact absurd rfl h0
  | 1, _, h => exact ⟨120, rfl, by rw [← Option.some.inj h]; decide +kernel⟩
  | 2, _, h => exact ⟨121, rfl, by rw [← Option.some.inj h]; decide +kernel⟩
  | 3, _, h => exact ⟨122, rfl, by rw [← Option.some.inj h]; decide +kernel⟩
  | n + 4, _, h => cases h
theorem xyz_ne {i j c d : Nat} (h : j < i) (h1 : xyzC[j]? = some c) (h2 : xyzC[i]? = some d) : c ≠ d := fun e => by
  subst e
  have hn : xyzC.Nodup := by decide
  have e := (List.getElem?_inj (List.getElem?_eq_some_iff.mp h1).1 hn).mp (h1.trans h2.symm)
  omega
open PySem PySem.Spec PyProof.Rows L2
section
variable (T : List (Addr × Str))
def spZones : Sp := fun vs H Q _ => ∃ (l t : Addr) (m : Int), vs = [.ref t, .int m] ∧ 0 ≤ m ∧ m ≤ 5 ∧ Tape l H t ∧
  ∀ (p : Addr) (lag : Int) (rest : List (Str × Int)) (ns : List Str) (H' : Hp), Nw H p → rest.map (·.1) = srtS ns → ns.Nodup → (ns.length : Int) ≤ m → (∀ z ∈ ns, zoneB z) → (∀ r ∈ (dotS, lag) :: rest, 0 ≤ r.2 ∧ r.2 ≤ 100) → Ls H' p (((dotS, lag) :: rest).map siD) → Ext T [t] H H' → Tape l H' t → Q (.ref p) H'
end
/-- what a row of a zone is made of -/
def ZRel (d : PyData) (x : V) : Prop := ∃ (z : Str) (n : Int), x = .str z ∧ d = siD (z, n) ∧ 0 ≤ n ∧ n ≤ 100
theorem zrel_all : ∀ {ds : List PyData} {zs : List Str}, PySem.W.EachIs ZRel ds (zs.map V.str) → ∃ rest : List (Str × Int), ds = rest.map siD ∧ rest.map (·.1) = zs ∧ ∀ r ∈ rest, 0 ≤ r.2 ∧ r.2 ≤ 100
  | _, [], .nil => ⟨[], rfl, rfl, by simp⟩
  | _, z :: zs, .cons h t => by
    obtain ⟨rest, e1, e2, h3⟩ := zrel_all t
    obtain ⟨z', n, e3, e4, h4⟩ := h
    injection e3 with e3
    subst e3
    refine ⟨(z, n) :: rest, by rw [e4, e1]; rfl, by rw [List.map_cons, e2], fun r hr => ?_⟩
    rcases List.mem_cons.mp hr with e | hr
    · rw [e]
      exact h4
    · exact h3 r hr
/-- the six names that zones may have -/
def poolL (a b c : Str) : List Str := [a, b ++ dotS ++ a, c ++ dotS ++ b ++ dotS ++ a, b, c, c ++ dotS ++ a]
theorem pool_eq (a b c : Str) : poolL a b c = [joinS [a], joinS [b, a], joinS [c, b, a], joinS [b], joinS [c], joinS [c, a]] := by
  unfold poolL
  rw [join_cons c (ys := [b, a]) (by simp), join_cons b (ys := [a]) (by simp), join_cons c (ys := [a]) (by simp), join_one, join_one, join_one, str_assoc, str_assoc, str_assoc, str_assoc, str_assoc]
theorem pool_zone {a b c : Str} (h : ∀ y ∈ [a, b, c], labelB y = true) : ∀ z ∈ poolL a b c, zoneB z := by
  rw [pool_eq]
  have ha := h a (by simp)
  have hb := h b (by simp)
  have hc := h c (by simp)
  intro z hz
  simp only [List.mem_cons, List.not_mem_nil, or_false] at hz
  rcases hz with rfl | rfl | rfl | rfl | rfl | rfl
  all_goals refine ⟨_, rfl, by simp, by simp, ?_⟩
  all_goals
    intro y hy
    simp only [List.mem_cons, List.not_mem_nil, or_false] at hy
    first
      | (subst hy; assumption)
      | (rcases hy with rfl | rfl <;> assumption)
      | (rcases hy with rfl | rfl | rfl <;> assumption)
theorem pool_nodup {a b c : Str} (h : ∀ y ∈ [a, b, c], labelB y = true) (h1 : a ≠ b) (h2 : a ≠ c) (h3 : b ≠ c) : (poolL a b c).Nodup := by
  rw [pool_eq]
  have ha := h a (by simp)
  have hb := h b (by simp)
  have hc := h c (by simp)
  have hl : ∀ ys ∈ [[a], [b, a], [c, b, a], [b], [c], [c, a]], ys ≠ [] ∧ ∀ y ∈ ys, labelB y = true := by
    intro ys hy
    simp only [List.mem_cons, List.not_mem_nil, or_false] at hy
    rcases hy with rfl | rfl | rfl | rfl | rfl | rfl <;> simp [ha, hb, hc]
  have hn : [[a], [b, a], [c, b, a], [b], [c], [c, a]].Nodup := by
    simp [h1, h2, h3, h1.symm, h2.symm, h3.symm]
  have key : ∀ {L : List (List Str)}, (∀ ys ∈ L, ys ≠ [] ∧ ∀ y ∈ ys, labelB y = true) → L.Nodup → (L.map joinS).Nodup := by
    intro L
    induction L with
    | nil => intro _ _; simp
    | cons x L ih =>
      intro hL hn
      rw [List.map_cons, List.nodup_cons]
      have h4 := List.nodup_cons.mp hn
      refine ⟨fun hm => ?_, ih (fun ys hy => hL ys (List.mem_cons_of_mem _ hy)) h4.2⟩
      obtain ⟨y, hy, e⟩ := List.mem_map.mp hm
      have hx := hL x List.mem_cons_self
      have hy2 := hL y (List.mem_cons_of_mem _ hy)
      have := join_inj hy2.1 hx.1 hy2.2 hx.2 e
      rw [this] at hy
      exact h4.1 hy
  exact key hl hn
/-- a member of a list in place of what an index gives -/
theorem at_inV {xs : List V} {i : Int} (h0 : 0 ≤ i) (h : i < xs.length) : ∃ c, atI xs i = some c ∧ xs[i.toNat]? = some c := by
  obtain ⟨c, h1, h2, _⟩ := at_in h0 h
  exact ⟨c, h1, h2⟩

open PySem PySem.Spec PyProof.Rows L2
/-! ### a realm drawn -/
structure RmOk (R : Rm) (m : Int) : Prop where
  zs : ∃ (lag : Int) (rest : List (Str × Int)) (ns : List Str), R.zs = (dotS, lag) :: rest ∧ rest.map (·.1) = srtS ns ∧ ns.Nodup ∧ (ns.length : Int) ≤ m ∧ ∀ z ∈ ns, zoneB z
  lags : ∀ r ∈ R.zs, 0 ≤ r.2 ∧ r.2 ≤ 100
  ss : ∃ l, R.ss.Sublist (srtSS l)
  ssn : R.ss.Nodup
  ssok : ∀ p ∈ R.ss, nameB p.1 = true ∧ idB p.2 = true
  used : ∀ z ∈ R.zs, ∃ p ∈ R.ss, endsB p.1 z.1 = true
  slen : (R.ss.length : Int) ≤ m + 2
  an : ∃ ys, R.an = srtS ys ∧ ys.Nodup ∧ (∀ y ∈ ys, idB y = true) ∧ 1 ≤ ys.length ∧ ys.length ≤ 3
section
variable (T : List (Addr × Str))
def spRealm : Sp := fun vs H Q _ => ∃ (l t : Addr) (m : Int), vs = [.ref t, .int m] ∧ 0 ≤ m ∧ m ≤ 5 ∧ Tape l H t ∧ ∀ (v : V) (R : Rm) (H' : Hp), RmOk R m → Im H' v (rmD R) → Ext T [t] H H' → Tape l H' t → Q v H'
end
theorem rd_appLs {H : Hp} {Q : VK} {p : Addr} {ds : List PyData} {v : V} {d : PyData} (h : Ls H p ds) (hv : Im H v d) (c : ds.length < sizeLine) (q : ∀ xs, H p = some (.lst xs) → Ls (upd H p (.lst (xs ++ [v]))) p (ds ++ [d]) → Q .non (upd H p (.lst (xs ++ [v])))) : rAppend (.ref p) [v] H Q := by
  obtain ⟨xs, h1, h2⟩ := h
  refine rd_app h1 (by rw [h2.len]; exact c) (q xs h1 ⟨_, upd_same, ?_⟩)
  have e : Ext [] [p] H (upd H p (.lst (xs ++ [v]))) := Ext.mut (by simp) h1
  have hl : Lsts H [p] := fun b hb => ⟨xs, by rw [List.mem_singleton.mp hb]; exact h1⟩
  exact (ImAll.ext e hl _ _ h2).snoc (Im.ext e hl _ _ hv)
theorem Ls.list {H : Hp} {p : Addr} {ds : List PyData} (h : Ls H p ds) : ∃ xs, H p = some (.lst xs) ∧ ImAll H xs ds := h
theorem lsts_one {H : Hp} {p : Addr} {xs : List V} (h : H p = some (.lst xs)) : Lsts H [p] := fun b hb => ⟨xs, by rw [List.mem_singleton.mp hb]; exact h⟩
theorem Ls.new {H : Hp} {p q : Addr} {o : HO} {ds : List PyData} (h : Ls H p ds) (hq : H q = none) : Ls (upd H q o) p ds := h.ext (T := []) (ms := []) (.new hq) (by simp) Lsts.nil
theorem Im.new {H : Hp} {q : Addr} {o : HO} {v : V} {d : PyData} (h : Im H v d) (hq : H q = none) : Im (upd H q o) v d := Im.ext (T := []) (ms := []) (.new hq) Lsts.nil _ _ h
theorem ImAll.new {H : Hp} {q : Addr} {o : HO} {vs : List V} {ds : List PyData} (h : ImAll H vs ds) (hq : H q = none) : ImAll (upd H q o) vs ds := ImAll.ext (T := []) (ms := []) (.new hq) Lsts.nil _ _ h
theorem Ls.ne {H : Hp} {p q : Addr} {ds : List PyData} (h : Ls H p ds) (hq : H q = none) : p ≠ q := by
  obtain ⟨xs, h1, _⟩ := h
  exact (Nw.of hq).lst h1
theorem ends_self (n : Str) : endsB n n = true := by
  unfold endsB
  rw [decide_eq_true (show n = n from rfl)]
  simp
theorem ends_dot (n : Str) : endsB n dotS = true := by
  unfold endsB
  rw [decide_eq_true (show dotS = dotS from rfl)]
  rfl
theorem ends_app (a z : Str) : endsB (a ++ (dotS ++ z)) z = true := by
  unfold endsB
  rw [(endswith_iff _ _).mpr ⟨sg a, (sg_app a (dotS ++ z)).symm⟩]
  simp
theorem mem_ssD {r : Str × Str} {l : List (Str × Str)} : ssD r ∈ l.map ssD ↔ r ∈ l := by
  constructor
  · intro h
    obtain ⟨x, hx, e⟩ := List.mem_map.mp h
    rw [← ssD_inj e]
    exact hx
  · exact fun h => List.mem_map_of_mem h
theorem mem_slD {r : Sl} {l : List Sl} : slD r ∈ l.map slD ↔ r ∈ l := by
  constructor
  · intro h
    obtain ⟨x, hx, e⟩ := List.mem_map.mp h
    rw [← slD_inj e]
    exact hx
  · exact fun h => List.mem_map_of_mem h
open PySem PySem.Spec PyProof.Rows L2
theorem rd_ixLs {K : PySem.W.Frag} {H : Hp} {Q : VK} {p : Addr} {ds : List PyData} {i : Int} {d : PyData} (h : Ls H p ds) (a : atI ds i = some d) (q : ∀ u, Im H u d → Q u H) : rIx K (.ref p) (.int i) H Q := by
  obtain ⟨xs, h1, h2⟩ := h
  have key : ∃ u, atI xs i = some u ∧ Im H u d := by
    unfold atI at a ⊢
    cases e : ixN ds.length i with
    | none =>
      rw [e] at a
      cases a
    | some k =>
      rw [e] at a
      obtain ⟨u, e1, e2⟩ := h2.get (i := k) (by simpa using a)
      exact ⟨u, by rw [h2.len, e]; simpa using e1, e2⟩
  obtain ⟨u, h3, h4⟩ := key
  exact rd_ixL (SqL.of h1) h3 (q u h4)
theorem rd_ixSs {K : PySem.W.Frag} {H : Hp} {Q : VK} {v : V} {ds : List PyData} {i : Int} {z : Str} (h : Im H v (.tuple ds)) (a : atI ds i = some (.str z)) (q : Q (.str z) H) : rIx K v (.int i) H Q := rd_ixI h a fun u hu => by
  rw [hu.str']
  exact q
theorem last_map {α β : Type} {f : α → β} {l : List α} {x : α} (h : l.getLast? = some x) : atI (l.map f) (-1) = some (f x) := at_last (by rw [List.getLast?_map, h]; rfl)
theorem last_some {α : Type} {l : List α} (h : l ≠ []) : ∃ x, l.getLast? = some x ∧ x ∈ l := ⟨l.getLast h, List.getLast?_eq_some_getLast h, List.getLast_mem h⟩

open PySem PySem.Spec PyProof.Rows L2
open PySem.W (EachIs sort_maps dataLe AllAlike Sortable)
mutual
theorem Im.inj {H : Hp} : ∀ (d e : PyData) (v : V), Im H v d → Im H v e → d = e
  | .none, e, v, h1, h2 => by
    cases h1
    cases h2
    rfl
  | .bool _, e, v, h1, h2 => by cases h1
  | .list _, e, v, h1, h2 => by cases h1
  | .dict _, e, v, h1, h2 => by cases h1
  | .int i, e, v, h1, h2 => by
    cases h1
    cases h2
    rfl
  | .str x, e, v, h1, h2 => by
    cases h1
    cases h2
    rfl
  | .tuple ds, e, v, h1, h2 => by
    cases h1 with
    | tup a b =>
      cases h2 with
      | tup c d =>
        have e1 := a.symm.trans c
        injection e1 with e1
        injection e1 with e1
        subst e1
        rw [ImAll.inj ds _ _ b d]
theorem ImAll.inj {H : Hp} : ∀ (ds es : List PyData) (vs : List V), ImAll H vs ds → ImAll H vs es → ds = es
  | [], es, vs, h1, h2 => by
    cases h1
    cases h2
    rfl
  | d :: ds, es, vs, h1, h2 => by
    cases h1 with
    | cons a b =>
      cases h2 with
      | cons c d =>
        rw [Im.inj _ _ _ a c, ImAll.inj _ _ _ b d]
end
/-- a comprehension whose items are told by a relation that no heap changes -/
theorem lcg_rel (T : List (Addr × Str)) (ms : List Addr) {σ : L2.St} {H : Hp} {Q : VK} {J : It} {n : Nat} {G : Hp → Prop} {Y : Nat → Hp → V → Hp → Prop} {g : TG} {tt : TT} {te : TE} {vs : List Nat} (w : Walk J n G Y) (xs : List V) (hn : n = xs.length) (hY : ∀ i H x H', Y i H x H' → H' = H ∧ xs[i]? = some x)
    (hDm : ∀ D, H D = none → D ∉ ms) (hG : ∀ H', Ext T ms H H' → G H') (hl : xs.length < sizeLine) (p : V → Bool) (Rel : V → V → Prop)
    (step : ∀ (i : Nat) (x : V), xs[i]? = some x → ∀ H', Ext T ms H H' → ∀ (R : V → Hp → Prop) (S : Hp → Prop), (p x = true → ∀ v H2, Ext T ms H' H2 → Rel v x → R v H2) → (p x = false → ∀ H2, Ext T ms H' H2 → S H2) →
      g x (wipe σ vs) H' fun σ2 H2 => wipe σ2 vs = wipe σ vs ∧ tt σ2 H2 fun b H3 => if b = true then te σ2 H3 R else S H3)
    (q : ∀ D H2 ys, Nw H D → Ext T ms H H2 → H2 D = some (.lst ys) → EachIs Rel ys (xs.filter p) → Q (.ref D) H2) : LcG J g tt te vs σ H Q := fun D hD => by
  refine lc_it w (fun i H2 => Ext T ms H H2 ∧ ∃ ys, H2 D = some (.lst ys) ∧ EachIs Rel ys ((xs.take i).filter p)) ⟨.new hD, [], upd_same, .nil⟩ (fun i H2 _ h => hG H2 h.1) (fun i x H1 H' hi h y => ?_) (fun H1 h => ?_)
  · obtain ⟨e1, e2⟩ := hY i H1 x H' y
    subst e1
    obtain ⟨h1, ys, h3, h4⟩ := h
    have et : xs.take (i + 1) = xs.take i ++ [x] := by rw [List.take_add_one, e2]; rfl
    refine step i x e2 H' h1 _ _ (fun hp v H2 e hr => ?_) (fun hp H2 e => ?_)
    · have h5 := e.lst (hDm D hD) h3
      refine ⟨ys, h5, ?_, (h1.trans e).own (.of hD) h5, ys ++ [v], upd_same, ?_⟩
      · refine Nat.lt_of_le_of_lt ?_ hl
        rw [h4.length]
        exact Nat.le_trans (List.length_filter_le _ _) (by rw [List.length_take]; exact Nat.min_le_right _ _)
      · rw [et, List.filter_append, List.filter_cons_of_pos hp]
        exact PySem.W.each_snoc hr h4
    · refine ⟨h1.trans e, ys, e.lst (hDm D hD) h3, ?_⟩
      rw [et, List.filter_append, List.filter_cons_of_neg (by rw [hp]; decide), List.filter_nil, List.append_nil]
      exact h4
  · obtain ⟨h1, ys, h3, h4⟩ := h
    rw [hn, List.take_length] at h4
    exact q D H1 ys (.of hD) h1 h3 h4
/-! ### the law's chain, slots, home -/
def isD (p : Int × Str) : PyData := .tuple [.int p.1, .str p.2]
def onZ (n : Str) (z : Str × Int) : Bool := !decide (z.1 = dotS) && endsB n z.1
def chF (R : Rm) (n : Str) : List (Int × Str) := (0, dotS) :: ((R.zs.filter (onZ n)).map fun z => ((z.1.length : Int), z.1))
def srtIS (l : List (Int × Str)) : List (Int × Str) := l.mergeSort fun a b => dataLe false id (isD a) (isD b)
theorem srtIS_eq (l : List (Int × Str)) : srtD (l.map isD) = (srtIS l).map isD := (sort_maps isD fun _ _ _ _ => rfl).symm
theorem srtIS_perm (l : List (Int × Str)) : (srtIS l).Perm l := List.mergeSort_perm _ _
theorem alike_is (l : List (Int × Str)) : AllAlike (l.map isD) := fun d hd e he => by
  obtain ⟨y, _, rfl⟩ := List.mem_map.mp hd
  obtain ⟨z, _, rfl⟩ := List.mem_map.mp he
  rfl
theorem sortable_is (l : List (Int × Str)) : Sortable (l.map isD) := .inl fun d hd => by
  obtain ⟨y, _, rfl⟩ := List.mem_map.mp hd
  exact ⟨_, _, rfl⟩
theorem depth_is (l : List (Int × Str)) : ∀ d ∈ l.map isD, d.depth ≤ 60 := fun d hd => by
  obtain ⟨y, _, rfl⟩ := List.mem_map.mp hd
  show 0 + 1 ≤ 60
  omega
def chL (R : Rm) (n : Str) : List Str := (srtIS (chF R n)).map (·.2)
theorem chL_mem {R : Rm} {n z : Str} : z ∈ chL R n ↔ z = dotS ∨ ∃ y ∈ R.zs, onZ n y = true ∧ y.1 = z := by
  unfold chL
  rw [((srtIS_perm (chF R n)).map _).mem_iff]
  unfold chF
  simp only [List.map_cons, List.mem_cons, List.map_map, List.mem_map, List.mem_filter, Function.comp_apply]
  constructor
  · rintro (h | ⟨y, ⟨h1, h2⟩, h3⟩)
    · exact .inl h
    · exact .inr ⟨y, h1, h2, h3⟩
  · rintro (h | ⟨y, h1, h2, h3⟩)
    · exact .inl h
    · exact .inr ⟨y, ⟨h1, h2⟩, h3⟩
theorem chL_len (R : Rm) (n : Str) : (chL R n).length = 1 + (R.zs.filter (onZ n)).length := by
  unfold chL
  rw [List.length_map, (srtIS_perm (chF R n)).length_eq]
  unfold chF
  rw [List.length_cons, List.length_map]
  omega
def slotsR (R : Rm) : List Sl := (.k dotS :: R.zs.tail.flatMap fun z => [.k z.1, .l z.1, .h z.1]) ++ R.ss.map fun p => .s p.1 p.2
def homeR (R : Rm) : Sl → Str
  | .k z => z
  | .s n _ => (chL R n).getLast?.getD dotS
  | .l z => (chL R z).dropLast.getLast?.getD dotS
  | .h z => (chL R z).dropLast.getLast?.getD dotS
theorem at_last2 {α : Type} {l : List α} {v : α} (h : l.dropLast.getLast? = some v) : atI l (-2) = some v := by
  obtain ⟨r, e⟩ := List.getLast?_eq_some_iff.mp h
  have hl : l ≠ [] := fun z => by rw [z] at h; cases h
  have e2 := List.dropLast_concat_getLast hl
  rw [e] at e2
  obtain ⟨x, e3⟩ : ∃ x, l = r ++ [v, x] := ⟨l.getLast hl, by rw [List.append_assoc] at e2; exact e2.symm⟩
  rw [e3]
  unfold atI
  have h1 : ixN (r ++ [v, x]).length (-2) = some r.length := by
    unfold ixN
    rw [List.length_append]
    simp only [List.length_cons, List.length_nil]
    rw [if_neg (by decide), if_pos (by omega)]
    congr 1
    omega
  rw [h1]
  simp
theorem cutV_from {α : Type} (l : List V) {i : Int} (h0 : 0 ≤ i) : cutV l (some i) none = l.drop i.toNat := by
  unfold cutV
  rw [HT.sIx_none]
  have e : HT.sIx l.length 0 (some i) = min i.toNat l.length := by
    obtain ⟨k, rfl⟩ := Int.eq_ofNat_of_zero_le h0
    exact HT.sIx_nat l.length 0 k
  rw [e, List.take_of_length_le (by rw [List.length_drop]; omega)]
  by_cases h : i.toNat ≤ l.length
  · rw [Nat.min_eq_left h]
  · rw [Nat.min_eq_right (by omega), List.drop_length, List.drop_eq_nil_of_le (by omega)]
theorem cutV_to (l : List V) {i : Int} (h0 : 0 ≤ i) : cutV l none (some i) = l.take i.toNat := by
  unfold cutV
  have e0 : HT.sIx l.length 0 none = 0 := HT.sIx_none ..
  have e : HT.sIx l.length l.length (some i) = min i.toNat l.length := by
    obtain ⟨k, rfl⟩ := Int.eq_ofNat_of_zero_le h0
    exact HT.sIx_nat l.length l.length k
  rw [e0, e]
  show (l.drop 0).take (min i.toNat l.length - 0) = _
  rw [List.drop_zero, Nat.sub_zero]
  by_cases h : i.toNat ≤ l.length
  · rw [Nat.min_eq_left h]
  · rw [Nat.min_eq_right (by omega), List.take_length, List.take_of_length_le (by omega)]
/-- a realm as the drawing functions read it -/
structure RmIn (R : Rm) : Prop where
  ne : ∃ lag rest, R.zs = (dotS, lag) :: rest ∧ ∀ r ∈ rest, r.1 ≠ dotS
  len : R.zs.length ≤ 6
  nm : ∀ z ∈ R.zs, nameB z.1 = true
  nd : (R.zs.map (·.1)).Nodup
  sok : ∀ p ∈ R.ss, nameB p.1 = true ∧ idB p.2 = true
  sn : R.ss.Nodup
  slen : R.ss.length ≤ 7
  an : ∃ a r, R.an = a :: r ∧ idB a = true
section
variable (T : List (Addr × Str))
def spChainL : Sp := fun vs H Q _ => ∃ (v : V) (R : Rm) (n : Str), vs = [v, .str n] ∧ Im H v (rmD R) ∧ RmIn R ∧ nameB n = true ∧ ∀ (p : Addr) (H' : Hp), Nw H p → Ext T [] H H' → H' p = some (.lst ((chL R n).map V.str)) → Q (.ref p) H'
def spSlots : Sp := fun vs H Q _ => ∃ (v : V) (R : Rm), vs = [v] ∧ Im H v (rmD R) ∧ RmIn R ∧ ∀ (p : Addr) (H' : Hp), Nw H p → Ext T [] H H' → Ls H' p ((slotsR R).map slD) → Q (.ref p) H'
def spHome : Sp := fun vs H Q _ => ∃ (v u : V) (R : Rm) (s : Sl), vs = [v, u] ∧ Im H v (rmD R) ∧ Im H u (slD s) ∧ RmIn R ∧ s ∈ slotsR R ∧ ∀ (H' : Hp), Ext T [] H H' → homeR R s ∈ R.zs.map (·.1) → Q (.str (homeR R s)) H'
end
theorem RmOk.rin {R : Rm} {m : Int} (h : RmOk R m) (hm : m ≤ 5) : RmIn R := by
  obtain ⟨lag, rest, ns, e1, e2, e3, e4, e5⟩ := h.zs
  have hmem : ∀ z, z ∈ rest.map (·.1) ↔ z ∈ ns := fun z => by rw [e2]; exact (srtS_perm ns).mem_iff
  have hr : ∀ r ∈ rest, zoneB r.1 := fun r hr => e5 _ ((hmem _).mp (List.mem_map_of_mem hr))
  have hlen : rest.length = ns.length := by
    have := congrArg List.length e2
    rw [List.length_map, (srtS_perm ns).length_eq] at this
    exact this
  refine ⟨⟨lag, rest, e1, fun r hr' => zone_ne (hr r hr')⟩, ?_, fun z hz => ?_, ?_, h.ssok, h.ssn, ?_, ?_⟩
  · rw [e1, List.length_cons]
    omega
  · rw [e1] at hz
    rcases List.mem_cons.mp hz with e | hz
    · rw [e]
      exact dot_name
    · exact zone_name (hr z hz)
  · rw [e1, List.map_cons, List.nodup_cons, e2]
    refine ⟨fun hd => ?_, (srtS_perm ns).nodup_iff.mpr e3⟩
    exact zone_ne (e5 _ ((srtS_perm ns).mem_iff.mp hd)) rfl
  · have := h.slen
    omega
  · obtain ⟨ys, h1, h2, h3, h4, h5⟩ := h.an
    cases e : srtS ys with
    | nil =>
      have := (srtS_perm ys).length_eq
      rw [e] at this
      simp only [List.length_nil] at this
      omega
    | cons a r =>
      exact ⟨a, r, by rw [h1, e], h3 a ((srtS_perm ys).mem_iff.mp (by rw [e]; simp))⟩

open PySem PySem.Spec PyProof.Rows L2
open PySem.W (EachIs)
/-! ### the keys of the zones: a list of pairs whose seconds are lists -/
def PoolRow (H : Hp) (ms : List Addr) (v : V) (r : Str × List Str) : Prop := ∃ ta pa, v = .ref ta ∧ H ta = some (.tup [.str r.1, .ref pa]) ∧ H pa = some (.lst (r.2.map V.str)) ∧ pa ∉ ms
def Pools (H : Hp) (t a : Addr) (ps : List (Str × List Str)) : Prop := ∃ xs, H a = some (.lst xs) ∧ a ≠ t ∧ EachIs (PoolRow H [t]) xs ps
theorem PoolRow.ext {T : List (Addr × Str)} {ms ms' : List Addr} {H H' : Hp} {v : V} {r : Str × List Str} (h : PoolRow H ms v r) (e : Ext T ms' H H') (hs : ∀ b ∈ ms', b ∈ ms) (hl : Lsts H ms') : PoolRow H' ms v r := by
  obtain ⟨ta, pa, e1, e2, e3, e4⟩ := h
  exact ⟨ta, pa, e1, SqP.ext (xs := [.str r.1, .ref pa]) e2 e hl, e.lst (fun hb => e4 (hs _ hb)) e3, e4⟩
theorem rows_ext {T : List (Addr × Str)} {ms ms' : List Addr} {H H' : Hp} {xs : List V} {ps : List (Str × List Str)} (h : EachIs (PoolRow H ms) xs ps) (e : Ext T ms' H H') (hs : ∀ b ∈ ms', b ∈ ms) (hl : Lsts H ms') : EachIs (PoolRow H' ms) xs ps := h.mono fun _ _ x => x.ext e hs hl
theorem rows_weak {ms ms' : List Addr} {H : Hp} {xs : List V} {ps : List (Str × List Str)} (h : EachIs (PoolRow H ms) xs ps) (hs : ∀ b ∈ ms', b ∈ ms) : EachIs (PoolRow H ms') xs ps := h.mono fun _ _ ⟨ta, pa, e1, e2, e3, e4⟩ => ⟨ta, pa, e1, e2, e3, fun hb => e4 (hs _ hb)⟩
theorem Pools.ext {T : List (Addr × Str)} {H H' : Hp} {l t a : Addr} {ps : List (Str × List Str)} (h : Pools H t a ps) (e : Ext T [t] H H') (hT : Tape l H t) : Pools H' t a ps := by
  obtain ⟨xs, h1, h2, h3⟩ := h
  exact ⟨xs, e.lst (by simpa using h2) h1, h2, rows_ext h3 e (fun _ h => h) hT.lsts⟩
theorem Pools.new {H : Hp} {t a q : Addr} {o : HO} {ps : List (Str × List Str)} (h : Pools H t a ps) (hq : H q = none) : Pools (upd H q o) t a ps := by
  obtain ⟨xs, h1, h2, h3⟩ := h
  have e : Ext [] [] H (upd H q o) := .new hq
  exact ⟨xs, e.lst (by simp) h1, h2, rows_ext h3 e (by simp) Lsts.nil⟩
theorem Pools.ext0 {T : List (Addr × Str)} {H H' : Hp} {t a : Addr} {ps : List (Str × List Str)} (h : Pools H t a ps) (e : Ext T [] H H') : Pools H' t a ps := by
  obtain ⟨xs, h1, h2, h3⟩ := h
  exact ⟨xs, e.lst (by simp) h1, h2, rows_ext h3 e (by simp) Lsts.nil⟩
structure PsOk (R : Rm) (ps : List (Str × List Str)) : Prop where
  nm : ps.map (·.1) = R.zs.map (·.1)
  nd : ∀ p ∈ ps, p.2.Nodup
  ok : ∀ p ∈ ps, ∀ y ∈ p.2, idB y = true
  len : ∀ p ∈ ps, p.2.length = 3
structure ItmOk (s : Sl) (i : Itm) : Prop where
  c : ∃ cs : List Str, i.c = srtS cs ∧ cs.Nodup ∧ (∀ y ∈ cs, idB y = true) ∧ cs.length ≤ 4
  g : ∃ gs : List Str, i.g = srtS gs ∧ gs.Nodup ∧ (∀ y ∈ gs, idB y = true) ∧ gs.length ≤ 3
  li : 1 ≤ i.li ∧ i.li ≤ 1000
  ab : 0 ≤ i.a ∧ i.a ≤ i.b ∧ i.b ≤ 10000
  h : ∀ z, s = .h z → i.g = [] ∧ i.a = 0 ∧ i.b = 10000
section
variable (T : List (Addr × Str))
def spPools : Sp := fun vs H Q _ => ∃ (l t : Addr) (v : V) (R : Rm), vs = [.ref t, v] ∧ Tape l H t ∧ Im H v (rmD R) ∧ RmIn R ∧ ∀ (a : Addr) (ps : List (Str × List Str)) (H' : Hp), Nw H a → Pools H' t a ps → PsOk R ps → Ext T [t] H H' → Tape l H' t → Q (.ref a) H'
def spPool : Sp := fun vs H Q _ => ∃ (t a : Addr) (ps : List (Str × List Str)) (z : Str) (ks : List Str), vs = [.ref a, .str z] ∧ Pools H t a ps ∧ ps.length ≤ 6 ∧ (ps.map (·.1)).Nodup ∧ (z, ks) ∈ ps ∧
  ∀ (pa : Addr) (H' : Hp), pa ≠ t → H pa = some (.lst (ks.map V.str)) → Ext T [] H H' → Q (.ref pa) H'
def spItem : Sp := fun vs H Q _ => ∃ (ca sa : Addr) (cs gs : List Str) (li : Int), vs = [.ref ca, .int li, .ref sa] ∧ H ca = some (.lst (cs.map V.str)) ∧ H sa = some (.lst (gs.map V.str)) ∧ (∀ y ∈ cs, idB y = true) ∧ (∀ y ∈ gs, idB y = true) ∧
  ∀ (v : V) (H' : Hp), Ext T [] H H' → Im H' v (itD ⟨srtS cs, li, srtS gs, 0, 10000⟩) → Q v H'
def spFirst : Sp := fun vs H Q _ => ∃ (l t pa : Addr) (v u : V) (R : Rm) (ps : List (Str × List Str)) (s : Sl), vs = [.ref t, v, .ref pa, u] ∧ Tape l H t ∧ Im H v (rmD R) ∧ RmIn R ∧ Pools H t pa ps ∧ PsOk R ps ∧ Im H u (slD s) ∧ s ∈ slotsR R ∧
  ∀ (x : V) (i : Itm) (H' : Hp), ItmOk s i → Im H' x (itD i) → Ext T [t] H H' → Tape l H' t → Q x H'
end
theorem filter_key {ps : List (Str × List Str)} {z : Str} {ks : List Str} (hn : (ps.map (·.1)).Nodup) (hm : (z, ks) ∈ ps) : ps.filter (fun p => decide (p.1 = z)) = [(z, ks)] := by
  induction ps with
  | nil => cases hm
  | cons p ps ih =>
    rw [List.map_cons, List.nodup_cons] at hn
    rcases List.mem_cons.mp hm with e | hm
    · subst e
      rw [List.filter_cons_of_pos (by simp), List.filter_eq_nil_iff.mpr]
      intro y hy h
      have h2 : y.1 = z := of_decide_eq_true h
      exact hn.1 (List.mem_map.mpr ⟨y, hy, h2⟩)
    · rw [List.filter_cons_of_neg, ih hn.2 hm]
      intro h
      have h2 : p.1 = z := of_decide_eq_true h
      exact hn.1 (List.mem_map.mpr ⟨_, hm, h2.symm⟩)
theorem filter_others {ks : List Str} {a : Str} (hn : ks.Nodup) : ks.length ≤ (ks.filter fun k => !decide (k = a)).length + 1 := by
  induction ks with
  | nil => simp
  | cons k ks ih =>
    rw [List.nodup_cons] at hn
    by_cases h : k = a
    · rw [List.filter_cons_of_neg (by simp [h])]
      have : ks.filter (fun k => !decide (k = a)) = ks := List.filter_eq_self.mpr fun x hx => by
        simp only [Bool.not_eq_true', decide_eq_false_iff_not]
        intro e
        rw [← h] at e
        rw [e] at hx
        exact hn.1 hx
      rw [this]
      simp
    · rw [List.filter_cons_of_pos (by simp [h])]
      have := ih hn.2
      simp only [List.length_cons]
      omega

open PySem PySem.Spec PyProof.Rows L2
open PySem.W (EachIs)
/-! ### what is made new, the heap told by what it keeps -/
section
variable {T : List (Addr × Str)} {H H' : Hp}
theorem Im.x {v : V} {d : PyData} (h : Im H v d) (e : Ext T [] H H') : Im H' v d := Im.ext e Lsts.nil _ _ h
theorem ImAll.x {vs : List V} {ds : List PyData} (h : ImAll H vs ds) (e : Ext T [] H H') : ImAll H' vs ds := ImAll.ext e Lsts.nil _ _ h
theorem Ls.x {a : Addr} {ds : List PyData} (h : Ls H a ds) (e : Ext T [] H H') : Ls H' a ds := h.ext e (by simp) Lsts.nil
theorem SqP.x {a : Addr} {xs : List V} (h : SqP H a xs) (e : Ext T [] H H') : SqP H' a xs := SqP.ext h e Lsts.nil
theorem lst.x {a : Addr} {xs : List V} (h : H a = some (.lst xs)) (e : Ext T [] H H') : H' a = some (.lst xs) := e.lst (by simp) h
theorem Im.y {l t : Addr} {v : V} {d : PyData} (h : Im H v d) (e : Ext T [t] H H') (hT : Tape l H t) : Im H' v d := Im.ext e hT.lsts _ _ h
theorem ImAll.y {l t : Addr} {vs : List V} {ds : List PyData} (h : ImAll H vs ds) (e : Ext T [t] H H') (hT : Tape l H t) : ImAll H' vs ds := ImAll.ext e hT.lsts _ _ h
theorem Ls.y {l t a : Addr} {ds : List PyData} (h : Ls H a ds) (e : Ext T [t] H H') (ha : a ≠ t) (hT : Tape l H t) : Ls H' a ds := h.ext e (by simpa using ha) hT.lsts
theorem lst.y {t a : Addr} {xs : List V} (h : H a = some (.lst xs)) (e : Ext T [t] H H') (ha : a ≠ t) : H' a = some (.lst xs) := e.lst (by simpa using ha) h
end
section
variable (T : List (Addr × Str)) {K : PySem.W.Frag} {H : Hp} {Q : VK}
theorem allocT {xs : List V} (hl : xs.length ≤ 1000) (q : ∀ p H', Nw H p → Ext T [] H H' → H' p = some (.tup xs) → Q (.ref p) H') : xs.length ≤ sizeLine ∧ ∀ p, H p = none → Q (.ref p) (upd H p (.tup xs)) :=
  ⟨Nat.le_trans hl (by decide), fun p hp => q p _ (.of hp) (.new hp) upd_same⟩
theorem allocL {xs : List V} (hl : xs.length ≤ 1000) (q : ∀ p H', Nw H p → Ext T [] H H' → H' p = some (.lst xs) → Q (.ref p) H') : xs.length ≤ sizeLine ∧ ∀ p, H p = none → Q (.ref p) (upd H p (.lst xs)) :=
  ⟨Nat.le_trans hl (by decide), fun p hp => q p _ (.of hp) (.new hp) upd_same⟩
theorem rd_takeS {a : Addr} {zs : List Str} {i : Int} (h : H a = some (.lst (zs.map V.str))) (h0 : 0 ≤ i) (q : ∀ p H', Nw H p → Ext T [] H H' → H' p = some (.lst ((zs.take i.toNat).map V.str)) → Q (.ref p) H') : rSlU K (.ref a) none (some i) H Q :=
  rd_slL (SqL.of h) fun p hp => q p _ (.of hp) (.new hp) (by rw [cutV_to _ h0, ← List.map_take]; exact upd_same)
theorem rd_dropS {a : Addr} {zs : List Str} {i : Int} (h : H a = some (.lst (zs.map V.str))) (h0 : 0 ≤ i) (q : ∀ p H', Nw H p → Ext T [] H H' → H' p = some (.lst ((zs.drop i.toNat).map V.str)) → Q (.ref p) H') : rSlU K (.ref a) (some i) none H Q :=
  rd_slL (SqL.of h) fun p hp => q p _ (.of hp) (.new hp) (by rw [cutV_from (α := V) _ h0, ← List.map_drop]; exact upd_same)
theorem rd_tupA {p : Addr} {ys : List V} (h : H p = some (.lst ys)) (q : ∀ l H', Nw H l → Ext T [] H H' → H' l = some (.tup ys) → Q (.ref l) H') : rTupOf K [.ref p] H Q := rd_tupL (SqL.of h) fun l hl => q l _ (.of hl) (.new hl) upd_same
theorem rd_tupFA {p : Addr} {ys : List V} (h : H p = some (.lst ys)) (q : ∀ l H' o, Nw H l → Ext T [] H H' → o.dict = none → H' l = some (.frz o (.tup ys)) → Q (.ref l) H') : rTupF K [.ref p] H Q := rd_tupF (SqL.of h) fun l o hl ho => q l _ o (.of hl) (.new hl) ho upd_same
theorem rd_listA {p : Addr} {ys : List V} (h : SqT K H p ys) (q : ∀ l H', Nw H l → Ext T [] H H' → H' l = some (.lst ys) → Q (.ref l) H') : rListOf K [.ref p] H Q := rd_listT h fun l hl => q l _ (.of hl) (.new hl) upd_same
theorem rd_catA {a b : Addr} {xs ys : List V} (h1 : H a = some (.lst xs)) (h2 : H b = some (.lst ys)) (c : xs.length + ys.length ≤ 1000) (q : ∀ p H', Nw H p → Ext T [] H H' → H' p = some (.lst (xs ++ ys)) → Q (.ref p) H') : rPlus K (.ref a) (.ref b) H Q :=
  rd_cat h1 h2 (Nat.le_trans c (by decide)) fun p hp => q p _ (.of hp) (.new hp) upd_same
theorem rd_sortA {a : Addr} {ds : List PyData} (h : Ls H a ds) (h1 : PySem.W.AllAlike ds) (h2 : PySem.W.Sortable ds) (h3 : ∀ d ∈ ds, d.depth ≤ 60) (q : ∀ p H' ys, Nw H p → Ext T [] H H' → H' p = some (.lst ys) → ImAll H' ys (srtD ds) → Q (.ref p) H') : rSortD K [.ref a] H Q :=
  rd_sortI h h1 h2 h3 fun p ys hp hy => q p _ ys (.of hp) (.new hp) upd_same (hy.new hp)
end
/-! ### a state: its items' tuple is a plain one -/
def StAt (H : Hp) (v : V) (s : Sta) : Prop := ∃ (a ia : Addr) (oa : V) (xs : List V) (o : Obj), v = .ref a ∧ H a = some (.tup [.ref ia, oa]) ∧ H ia = some (.frz o (.tup xs)) ∧ o.dict = none ∧ ImAll H xs (s.its.map rowD2) ∧ Im H oa (.tuple (s.on.map ssD))
theorem StAt.ext {T : List (Addr × Str)} {ms : List Addr} {H H' : Hp} {v : V} {s : Sta} (h : StAt H v s) (e : Ext T ms H H') (hm : Lsts H ms) : StAt H' v s := by
  obtain ⟨a, ia, oa, xs, o, e1, e2, e3, e4, e5, e6⟩ := h
  refine ⟨a, ia, oa, xs, o, e1, SqP.ext (xs := [.ref ia, oa]) e2 e hm, e.keep ia _ (fun hb => ?_) (fun _ z => by cases z) e3, e4, ImAll.ext e hm _ _ e5, Im.ext e hm _ _ e6⟩
  obtain ⟨ys, hy⟩ := hm ia hb
  rw [e3] at hy
  cases hy
theorem StAt.x {T : List (Addr × Str)} {H H' : Hp} {v : V} {s : Sta} (h : StAt H v s) (e : Ext T [] H H') : StAt H' v s := h.ext e Lsts.nil
theorem StAt.y {T : List (Addr × Str)} {H H' : Hp} {l t : Addr} {v : V} {s : Sta} (h : StAt H v s) (e : Ext T [t] H H') (hT : Tape l H t) : StAt H' v s := h.ext e hT.lsts
structure StaOk (R : Rm) (s : Sta) : Prop where
  nm : s.its.map (·.1) = slotsR R
  ok : ∀ r ∈ s.its, ItmOk r.1 r.2
  on : s.on.length ≤ 100
section
variable (T : List (Addr × Str))
def spStart : Sp := fun vs H Q _ => ∃ (l t pa : Addr) (v : V) (R : Rm) (ps : List (Str × List Str)), vs = [.ref t, v, .ref pa] ∧ Tape l H t ∧ Im H v (rmD R) ∧ RmIn R ∧ Pools H t pa ps ∧ PsOk R ps ∧
  ∀ (x : V) (s : Sta) (H' : Hp), StaOk R s → s.on.length ≤ 20 → StAt H' x s → Ext T [t] H H' → Tape l H' t → Q x H'
def spAt : Sp := fun vs H Q _ => ∃ (v u : V) (s : Sta) (sl : Sl) (i : Itm), vs = [v, u] ∧ StAt H v s ∧ Im H u (slD sl) ∧ (sl, i) ∈ s.its ∧ (s.its.map (·.1)).Nodup ∧ s.its.length ≤ 100 ∧ ∀ (x : V) (H' : Hp), Ext T [] H H' → Im H' x (itD i) → Q x H'
def spAfter : Sp := fun vs H Q _ => ∃ (v u : V) (s : Sta) (d : Dd), vs = [v, u] ∧ StAt H v s ∧ Im H u (ddD d) ∧ s.its.length ≤ 100 ∧ s.on.length ≤ 500 ∧ ∀ (x : V) (H' : Hp), Ext T [] H H' → StAt H' x (aft s d) → Q x H'
end
theorem nodup_mapI {α β : Type} {f : α → β} (hf : ∀ a b, f a = f b → a = b) : ∀ {l : List α}, l.Nodup → (l.map f).Nodup
  | [], _ => by simp
  | x :: l, h => by
    rw [List.nodup_cons] at h
    rw [List.map_cons, List.nodup_cons]
    refine ⟨fun hm => ?_, nodup_mapI hf h.2⟩
    obtain ⟨y, hy, e⟩ := List.mem_map.mp hm
    rw [hf _ _ e] at hy
    exact h.1 hy
theorem slots_nodup {R : Rm} (h : RmIn R) : (slotsR R).Nodup := by
  unfold slotsR
  obtain ⟨lag, rest, e, hr⟩ := h.ne
  have hnd := h.nd
  rw [e, List.map_cons, List.nodup_cons] at hnd
  have ht : R.zs.tail = rest := by rw [e]; rfl
  rw [ht, List.nodup_append]
  refine ⟨?_, ?_, ?_⟩
  · rw [List.nodup_cons]
    refine ⟨fun hm => ?_, ?_⟩
    · obtain ⟨y, hy, h2⟩ := List.mem_flatMap.mp hm
      simp only [List.mem_cons, List.not_mem_nil, or_false, Sl.k.injEq, reduceCtorEq] at h2
      exact hr y hy h2.symm
    · have key : ∀ {rest : List (Str × Int)}, (rest.map (·.1)).Nodup → (rest.flatMap fun z => [Sl.k z.1, .l z.1, .h z.1]).Nodup := by
        intro rest
        induction rest with
        | nil => intro _; simp
        | cons z rest ih =>
          intro hn
          rw [List.map_cons, List.nodup_cons] at hn
          rw [List.flatMap_cons, List.nodup_append]
          refine ⟨by simp, ih hn.2, fun a ha b hb e => ?_⟩
          subst e
          obtain ⟨y, hy, h2⟩ := List.mem_flatMap.mp hb
          have : z.1 = y.1 := by
            simp only [List.mem_cons, List.not_mem_nil, or_false] at ha h2
            rcases ha with rfl | rfl | rfl <;> simp at h2 <;> exact h2
          exact hn.1 (by rw [this]; exact List.mem_map_of_mem hy)
      exact key hnd.2
  · exact nodup_mapI (fun a b h => by
      injection h with h1 h2
      exact Prod.ext h1 h2) h.sn
  · intro a ha b hb e
    subst e
    obtain ⟨p, _, rfl⟩ := List.mem_map.mp hb
    rcases List.mem_cons.mp ha with h2 | h2
    · cases h2
    · obtain ⟨y, _, h3⟩ := List.mem_flatMap.mp h2
      simp at h3
open PySem PySem.Spec PyProof.Rows L2
/-- an object made at p: what the new heap keeps -/
theorem alL {T : List (Addr × Str)} {H : Hp} {p : Addr} (h : H p = none) (xs : List V) : Nw H p ∧ Ext T [] H (upd H p (.lst xs)) ∧ (upd H p (.lst xs)) p = some (.lst xs) := ⟨.of h, .new h, upd_same⟩
theorem alT {T : List (Addr × Str)} {H : Hp} {p : Addr} (h : H p = none) (xs : List V) : Nw H p ∧ Ext T [] H (upd H p (.tup xs)) ∧ (upd H p (.tup xs)) p = some (.tup xs) := ⟨.of h, .new h, upd_same⟩

open PySem PySem.Spec PyProof.Rows L2
open PySem.W (EachIs)
/-! ### items of data that pass a test -/
open Classical in
noncomputable def pIm (H : Hp) {α : Type} (f : α → PyData) (c : α → Bool) (x : V) : Bool := decide (∃ a, Im H x (f a) ∧ c a = true)
theorem pIm_eq {H : Hp} {α : Type} {f : α → PyData} {c : α → Bool} {x : V} {a : α} (hf : ∀ a b, f a = f b → a = b) (h : Im H x (f a)) : pIm H f c x = c a := by
  unfold pIm
  cases hc : c a with
  | true => exact @decide_eq_true _ (Classical.propDecidable _) ⟨a, h, hc⟩
  | false =>
    refine @decide_eq_false _ (Classical.propDecidable _) fun ⟨b, h1, h2⟩ => ?_
    have := hf _ _ (Im.inj _ _ _ h h1)
    rw [← this, hc] at h2
    cases h2
theorem each_filter {H : Hp} {α : Type} {f : α → PyData} {c : α → Bool} (hf : ∀ a b, f a = f b → a = b) : ∀ {xs : List V} {as : List α}, ImAll H xs (as.map f) → EachIs (fun x a => Im H x (f a)) (xs.filter (pIm H f c)) (as.filter c)
  | xs, [], h => by
    cases h
    exact .nil
  | xs, a :: as, h => by
    cases h with
    | cons h1 h2 =>
      have e := pIm_eq (c := c) hf h1
      cases hc : c a with
      | true =>
        rw [List.filter_cons_of_pos (by rw [e, hc]), List.filter_cons_of_pos hc]
        exact .cons h1 (each_filter hf h2)
      | false =>
        rw [List.filter_cons_of_neg (by rw [e, hc]; decide), List.filter_cons_of_neg (by rw [hc]; decide)]
        exact each_filter hf h2
theorem each_comp {α β γ : Type} {R : α → β → Prop} {S : β → γ → Prop} : ∀ {as : List α} {bs : List β} {cs : List γ}, EachIs R as bs → EachIs S bs cs → EachIs (fun a c => ∃ b, R a b ∧ S b c) as cs
  | _, _, _, .nil, .nil => .nil
  | _, _, _, .cons a s, .cons b t => .cons ⟨_, a, b⟩ (each_comp s t)
theorem rowD2_inj {a b : Sl × Itm} (h : rowD2 a = rowD2 b) : a = b := by
  unfold rowD2 at h
  injection h with h
  injection h with h1 h
  injection h with h2 _
  exact Prod.ext (slD_inj h1) (itD_inj h2)
theorem filter_fst {its : List (Sl × Itm)} {sl : Sl} {i : Itm} (hn : (its.map (·.1)).Nodup) (hm : (sl, i) ∈ its) : its.filter (fun r => decide (r.1 = sl)) = [(sl, i)] := by
  induction its with
  | nil => cases hm
  | cons p ps ih =>
    rw [List.map_cons, List.nodup_cons] at hn
    rcases List.mem_cons.mp hm with e | hm
    · subst e
      rw [List.filter_cons_of_pos (by simp), List.filter_eq_nil_iff.mpr]
      intro y hy h
      have h2 : y.1 = sl := of_decide_eq_true h
      exact hn.1 (List.mem_map.mpr ⟨y, hy, h2⟩)
    · rw [List.filter_cons_of_neg, ih hn.2 hm]
      intro h
      have h2 : p.1 = sl := of_decide_eq_true h
      exact hn.1 (List.mem_map.mpr ⟨_, hm, h2.symm⟩)
theorem SqF {K : PySem.W.Frag} {H : Hp} {a : Addr} {o : Obj} {xs : List V} (h : H a = some (.frz o (.tup xs))) : SqT K H a xs := .inl (.inr ⟨o, h⟩)
theorem frz.x {T : List (Addr × Str)} {H H' : Hp} {a : Addr} {o : Obj} {u : HO} (h : H a = some (.frz o u)) (e : Ext T [] H H') : H' a = some (.frz o u) := e.keep a _ (by simp) (fun _ z => by cases z) h

open PySem PySem.Spec PyProof.Rows L2
open PySem.W (EachIs)
/-! ### deeds drawn -/
def DdOk (R : Rm) : Dd → Prop
  | .put s i => s ∈ slotsR R ∧ ItmOk s i
  | .on x z => idB x = true ∧ z ∈ R.zs.tail.map (·.1)
  | .off x z => idB x = true ∧ z ∈ R.zs.tail.map (·.1)
theorem aft_on (s : Sta) (d : Dd) : (aft s d).on.length ≤ s.on.length + 1 := by
  cases d with
  | put sl i => exact Nat.le_succ _
  | on x z =>
    show (srtSS _).length ≤ _
    rw [(srtSS_perm _).length_eq, List.length_append]
    exact Nat.le_refl _
  | off x z => exact Nat.le_succ_of_le (List.length_filter_le _ _)
theorem aft_ok {R : Rm} {s : Sta} {d : Dd} (h : StaOk R s) (hd : DdOk R d) (hl : s.on.length + 1 ≤ 100) : StaOk R (aft s d) := by
  refine ⟨(aft_keys s d).trans h.nm, ?_, Nat.le_trans (aft_on s d) hl⟩
  cases d with
  | put sl i =>
    intro r hr
    obtain ⟨y, hy, e⟩ := List.mem_map.mp (show r ∈ s.its.map (fun r => (r.1, if r.1 = sl then i else r.2)) from hr)
    rw [← e]
    by_cases h2 : y.1 = sl
    · show ItmOk y.1 (if y.1 = sl then i else y.2)
      rw [if_pos h2, h2]
      exact hd.2
    · show ItmOk y.1 (if y.1 = sl then i else y.2)
      rw [if_neg h2]
      exact h.ok y hy
  | on x z => exact h.ok
  | off x z => exact h.ok
theorem sta_len {R : Rm} {s : Sta} (hR : RmIn R) (h : StaOk R s) (hl : (slotsR R).length ≤ 30) : s.its.length ≤ 100 := by
  have := congrArg List.length h.nm
  rw [List.length_map] at this
  omega
theorem sta_nodup {R : Rm} {s : Sta} (hR : RmIn R) (h : StaOk R s) : (s.its.map (·.1)).Nodup := by
  rw [h.nm]
  exact slots_nodup hR
theorem sta_find {R : Rm} {s : Sta} {sl : Sl} (h : StaOk R s) (hs : sl ∈ slotsR R) : ∃ i, (sl, i) ∈ s.its := by
  rw [← h.nm] at hs
  obtain ⟨r, hr, e⟩ := List.mem_map.mp hs
  exact ⟨r.2, by rw [← e]; exact hr⟩
section
variable (T : List (Addr × Str))
def spServer : Sp := fun vs H Q _ => ∃ (l t : Addr) (v u : V) (R : Rm) (s : Sta), vs = [.ref t, v, u] ∧ Tape l H t ∧ Im H v (rmD R) ∧ RmIn R ∧ 1 < R.zs.length ∧ StAt H u s ∧ s.on.length ≤ 100 ∧
  ∀ (x : V) (d : Dd) (H' : Hp), DdOk R d → Im H' x (ddD d) → Ext T [t] H H' → Tape l H' t → Q x H'
def spMixed : Sp := fun vs H Q _ => ∃ (l t pa : Addr) (v u x : V) (R : Rm) (ps : List (Str × List Str)) (s : Sl) (i : Itm), vs = [.ref t, v, .ref pa, u, x] ∧ Tape l H t ∧ Im H v (rmD R) ∧ RmIn R ∧ Pools H t pa ps ∧ PsOk R ps ∧ Im H u (slD s) ∧ s ∈ slotsR R ∧ (∀ z, s ≠ .h z) ∧ Im H x (itD i) ∧ ItmOk s i ∧
  ∀ (y : V) (j : Itm) (H' : Hp), ItmOk s j → Im H' y (itD j) → Ext T [t] H H' → Tape l H' t → Q y H'
def spDeed : Sp := fun vs H Q _ => ∃ (l t pa : Addr) (v u : V) (R : Rm) (ps : List (Str × List Str)) (s : Sta), vs = [.ref t, v, .ref pa, u] ∧ Tape l H t ∧ Im H v (rmD R) ∧ RmIn R ∧ Pools H t pa ps ∧ PsOk R ps ∧ StAt H u s ∧ StaOk R s ∧
  ∀ (x : V) (d : Dd) (H' : Hp), DdOk R d → Im H' x (ddD d) → Ext T [t] H H' → Tape l H' t → Q x H'
def spDeeds : Sp := fun vs H Q _ => ∃ (l t pa : Addr) (v u : V) (R : Rm) (ps : List (Str × List Str)) (s : Sta) (m : Int), vs = [.ref t, v, .ref pa, u, .int m] ∧ Tape l H t ∧ Im H v (rmD R) ∧ RmIn R ∧ Pools H t pa ps ∧ PsOk R ps ∧ StAt H u s ∧ StaOk R s ∧ s.on.length ≤ 50 ∧ 0 ≤ m ∧ m ≤ 20 ∧
  ∀ (x : V) (ds : List Dd) (H' : Hp), (∀ d ∈ ds, DdOk R d) → (ds.length : Int) = m → Im H' x (.tuple (ds.map ddD)) → Ext T [t] H H' → Tape l H' t → Q x H'
end
def s4L : List Str := ["s1", "s2", "s3", "t9"]
theorem s4_ok : ∀ y ∈ s4L, idB y = true := by decide +kernel
def hostL : List (List Str) := [["s1"], ["s2"], ["s1", "s3"], ["s3"], ["s2", "t9"]]
theorem host_ok : ∀ c ∈ hostL, c.Nodup ∧ (∀ y ∈ c, idB y = true) ∧ c.length ≤ 4 := by decide +kernel
theorem zin {R : Rm} (h : RmIn R) {z : Str} (hz : z ∈ R.zs.tail.map (·.1)) : nameB z = true ∧ Sl.h z ∈ slotsR R := by
  obtain ⟨y, hy, rfl⟩ := List.mem_map.mp hz
  refine ⟨h.nm y (List.mem_of_mem_tail hy), ?_⟩
  unfold slotsR
  refine List.mem_append_left _ (List.mem_cons_of_mem _ (List.mem_flatMap.mpr ⟨y, hy, by simp⟩))

open PySem PySem.Spec PyProof.Rows L2
open PySem.W (EachIs)
/-! ### lists of ids -/
structure CL (H : Hp) (t a : Addr) (n : Nat) (cs : List Str) : Prop where
  at_ : H a = some (.lst (cs.map V.str))
  ne : a ≠ t
  nd : cs.Nodup
  ok : ∀ y ∈ cs, idB y = true
  len : cs.length ≤ n
section
variable {T : List (Addr × Str)} {K : PySem.W.Frag} {H H' : Hp} {Q : VK} {l t a : Addr} {n : Nat} {cs : List Str}
theorem CL.x (h : CL H t a n cs) (e : Ext T [] H H') : CL H' t a n cs := ⟨lst.x h.at_ e, h.ne, h.nd, h.ok, h.len⟩
theorem CL.y (h : CL H t a n cs) (e : Ext T [t] H H') : CL H' t a n cs := ⟨lst.y h.at_ e h.ne, h.ne, h.nd, h.ok, h.len⟩
theorem CL.sub {ds : List Str} (h : CL H t a n cs) (hs : ds.Sublist cs) (p : Addr) (hp : H' p = some (.lst (ds.map V.str))) (hn : p ≠ t) : CL H' t p n ds := ⟨hp, hn, h.nd.sublist hs, fun y hy => h.ok y (hs.subset hy), Nat.le_trans hs.length_le h.len⟩
theorem CL.wide {m : Nat} (h : CL H t a n cs) (hm : n ≤ m) : CL H t a m cs := ⟨h.at_, h.ne, h.nd, h.ok, Nat.le_trans h.len hm⟩
theorem cutV_mid (xs : List V) {i j : Int} (h0 : 0 ≤ i) (h1 : 0 ≤ j) : cutV xs (some i) (some j) = (xs.take j.toNat).drop i.toNat := by
  unfold cutV
  have e0 : HT.sIx xs.length 0 (some i) = min i.toNat xs.length := by
    obtain ⟨k, rfl⟩ := Int.eq_ofNat_of_zero_le h0
    exact HT.sIx_nat xs.length 0 k
  have e1 : HT.sIx xs.length xs.length (some j) = min j.toNat xs.length := by
    obtain ⟨k, rfl⟩ := Int.eq_ofNat_of_zero_le h1
    exact HT.sIx_nat xs.length xs.length k
  rw [e0, e1]
  generalize i.toNat = a
  generalize j.toNat = b
  rw [List.drop_take]
  by_cases ha : a ≤ xs.length
  · rw [Nat.min_eq_left ha]
    by_cases hb : b ≤ xs.length
    · rw [Nat.min_eq_left hb]
    · rw [Nat.min_eq_right (by omega), List.take_of_length_le (by rw [List.length_drop]; omega), List.take_of_length_le (by rw [List.length_drop]; omega)]
  · have e3 : min a xs.length = xs.length := by omega
    rw [e3, List.drop_length, List.drop_eq_nil_of_le (by omega), List.take_nil, List.take_nil]
theorem CL.take {i : Int} (h : CL H t a n cs) (hT : Tape l H t) (h0 : 0 ≤ i) (q : ∀ p H', Nw H p → Ext T [] H H' → CL H' t p n (cs.take i.toNat) → Q (.ref p) H') : rSlU K (.ref a) none (some i) H Q :=
  rd_takeS T h.at_ h0 fun p H' np e hp => q p H' np e (h.sub (List.take_sublist _ _) p hp (hT.ne np).1)
theorem CL.mid {i j : Int} (h : CL H t a n cs) (hT : Tape l H t) (h0 : 0 ≤ i) (h1 : 0 ≤ j) (q : ∀ p H', Nw H p → Ext T [] H H' → CL H' t p n ((cs.take j.toNat).drop i.toNat) → Q (.ref p) H') : rSlU K (.ref a) (some i) (some j) H Q :=
  rd_slL (SqL.of h.at_) fun p hp => q p _ (.of hp) (.new hp) (h.sub ((List.drop_sublist _ _).trans (List.take_sublist _ _)) p (by rw [cutV_mid _ h0 h1, ← List.map_take, ← List.map_drop]; exact upd_same) (hT.ne (.of hp)).1)
end
theorem srt_nd {cs : List Str} (h : cs.Nodup) : (srtS cs).Nodup := (srtS_perm cs).nodup_iff.mpr h
theorem itm_c {s : Sl} {i : Itm} (h : ItmOk s i) : i.c.Nodup ∧ (∀ y ∈ i.c, idB y = true) ∧ i.c.length ≤ 4 := by
  obtain ⟨cs, e, h1, h2, h3⟩ := h.c
  rw [e]
  exact ⟨srt_nd h1, fun y hy => h2 y ((srtS_perm cs).mem_iff.mp hy), by rw [(srtS_perm cs).length_eq]; exact h3⟩
theorem itm_g {s : Sl} {i : Itm} (h : ItmOk s i) : i.g.Nodup ∧ (∀ y ∈ i.g, idB y = true) ∧ i.g.length ≤ 3 := by
  obtain ⟨cs, e, h1, h2, h3⟩ := h.g
  rw [e]
  exact ⟨srt_nd h1, fun y hy => h2 y ((srtS_perm cs).mem_iff.mp hy), by rw [(srtS_perm cs).length_eq]; exact h3⟩
/-- the word and the name of a slot -/
theorem sl_word (s : Sl) : ∃ (kw z : Str) (r : List PyData), slD s = .tuple (.str kw :: .str z :: r) ∧ ((kw = Str.ofString "link") ↔ ∃ z, s = .l z) ∧ ((kw = Str.ofString "set") ↔ ∃ n k, s = .s n k) ∧ (∀ y, s = .l y → z = y) := by
  cases s with
  | k z => exact ⟨"keys", z, [], rfl, no_iff (by decide +kernel) (fun ⟨_, h⟩ => by cases h), no_iff (by decide +kernel) (fun ⟨_, _, h⟩ => by cases h), fun y h => by cases h⟩
  | l z => exact ⟨"link", z, [], rfl, ⟨fun _ => ⟨z, rfl⟩, fun _ => rfl⟩, no_iff (by decide +kernel) (fun ⟨_, _, h⟩ => by cases h), fun y h => by injection h⟩
  | h z => exact ⟨"hosts", z, [], rfl, no_iff (by decide +kernel) (fun ⟨_, h⟩ => by cases h), no_iff (by decide +kernel) (fun ⟨_, _, h⟩ => by cases h), fun y h => by cases h⟩
  | s n k => exact ⟨"set", n, [.str k], rfl, no_iff (by decide +kernel) (fun ⟨_, h⟩ => by cases h), ⟨fun _ => ⟨n, k, rfl⟩, fun _ => rfl⟩, fun y h => by cases h⟩
open PySem PySem.Spec PyProof.Rows L2
theorem pick_cl {H : Hp} {t : Addr} {n : Nat} {as : List Addr} (h : ∀ a ∈ as, ∃ gs, CL H t a n gs) {i : Int} (h0 : 0 ≤ i) (h1 : i < as.length) : ∃ a gs, atI (as.map V.ref) i = some (.ref a) ∧ CL H t a n gs := by
  obtain ⟨c, hc1, hc2, hc3⟩ := at_in (l := as.map V.ref) h0 (by rw [List.length_map]; exact h1)
  obtain ⟨a, ha, rfl⟩ := List.mem_map.mp hc3
  obtain ⟨gs, hg⟩ := h a ha
  exact ⟨a, gs, hc1, hg⟩

open PySem PySem.Spec PyProof.Rows L2
open PySem.W (EachIs)
/-! ### what a new heap keeps, on demand -/
theorem al_of {T : List (Addr × Str)} {H G : Hp} {p : Addr} {o : HO} (np : H p = none) (hG : upd H p o = G) : Nw H p ∧ Ext T [] H G ∧ G p = some o := by
  subst hG
  exact ⟨.of np, .new np, upd_same⟩
section
variable {T : List (Addr × Str)} {H H' H1 : Hp}
theorem SqP.y {l t a : Addr} {xs : List V} (h : SqP H a xs) (e : Ext T [t] H H') (hT : Tape l H t) : SqP H' a xs := SqP.ext h e hT.lsts
theorem tup.x {a : Addr} {xs : List V} (h : H a = some (.tup xs)) (e : Ext T [] H H') : H' a = some (.tup xs) := e.tup (by simp) h
theorem tup.y {l t a : Addr} {xs : List V} (h : H a = some (.tup xs)) (e : Ext T [t] H H') (hT : Tape l H t) : H' a = some (.tup xs) := SqP.ext h e hT.lsts
theorem frz.y {l t a : Addr} {o : Obj} {u : HO} (h : H a = some (.frz o u)) (e : Ext T [t] H H') (hT : Tape l H t) : H' a = some (.frz o u) := e.keep a _ (fun hb => by
  obtain ⟨ys, hy⟩ := hT.lsts a hb
  rw [h] at hy
  cases hy) (fun _ z => by cases z) h
theorem Tape.ne1 {l t q : Addr} (p : Tape l H t) (h : Nw H q) : q ≠ t := (p.ne h).1
theorem Ext.back1 {p t : Addr} (e : Ext T [t] H H1) (hp : p ≠ t) (f : Nw H1 p) : Nw H p := e.back (by simpa using hp) f
theorem Ext.back0 {p : Addr} (e : Ext T [] H H1) (f : Nw H1 p) : Nw H p := e.back (by simp) f
end
theorem Ok.alias {P : Program} {w : World} {K : PySem.W.Frag} {mg : Str → Option Value} {base : Heap} {k : Nat} {x y : Str} {ps : List Str} {sp : Sp} (h : Ok P w K mg base k x ps sp) (e : mg y = mg x) : Ok P w K mg base k y ps sp := by
  obtain ⟨f, fd, F, h1, h2⟩ := h
  exact ⟨f, fd, F, e.trans h1, h2⟩
section
variable (T : List (Addr × Str))
def spBent : Sp := fun vs H Q _ => ∃ (l t pa : Addr) (v u : V) (R : Rm) (ps : List (Str × List Str)) (s : Sta), vs = [.ref t, v, .ref pa, u] ∧ Tape l H t ∧ Im H v (rmD R) ∧ RmIn R ∧ Pools H t pa ps ∧ PsOk R ps ∧ StAt H u s ∧ StaOk R s ∧ s.on.length ≤ 50 ∧
  ∀ (x : V) (s' : Sta) (H' : Hp), StaOk R s' → s'.on = s.on → StAt H' x s' → Ext T [t] H H' → Tape l H' t → Q x H'
end
def bentL : List (List Str) := [[], ["s3"], ["s1", "t9"]]
theorem bent_ok : ∀ c ∈ bentL, c.Nodup ∧ (∀ y ∈ c, idB y = true) ∧ c.length ≤ 4 := by decide +kernel

open PySem PySem.Spec PyProof.Rows L2
/-! ### rows of moments: the least moments, and what a round of raising does -/
abbrev Rw := Nat × Nat × Int
def rwD (r : Rw) : PyData := .tuple [.int (r.1 : Int), .int (r.2.1 : Int), .int r.2.2]
def RwIn (n : Nat) (rs : List Rw) : Prop := ∀ r ∈ rs, r.1 ≤ n ∧ r.2.1 ≤ n
def fn (m : List Int) (k : Nat) : Int := m.getD k 0
structure Feas (rs : List Rw) (m : Nat → Int) : Prop where
  zero : m 0 = 0
  nn : ∀ k, 0 ≤ m k
  rows : ∀ r ∈ rs, m r.2.1 + r.2.2 ≤ m r.1
def Least (rs : List Rw) (n : Nat) (t : List Int) : Prop := t.length = n ∧ Feas rs (fn (0 :: t)) ∧ ∀ m, Feas rs m → ∀ k, fn (0 :: t) k ≤ m k
def LM (rs : List Rw) (n : Nat) : Option (List Int) → Prop
  | some t => Least rs n t
  | none => ∀ m, ¬ Feas rs m
theorem fn_ext {a b : List Int} (hl : a.length = b.length) (h : ∀ k, fn a k = fn b k) : a = b := by
  refine List.ext_getElem? fun k => ?_
  by_cases hk : k < a.length
  · have h1 := h k
    unfold fn at h1
    rw [List.getD_eq_getElem?_getD, List.getD_eq_getElem?_getD, List.getElem?_eq_getElem hk, List.getElem?_eq_getElem (hl ▸ hk)] at h1
    rw [List.getElem?_eq_getElem hk, List.getElem?_eq_getElem (hl ▸ hk)]
    exact congrArg some h1
  · rw [List.getElem?_eq_none (by omega), List.getElem?_eq_none (by omega)]
theorem LM.uniq {rs : List Rw} {n : Nat} {a b : Option (List Int)} (ha : LM rs n a) (hb : LM rs n b) : a = b := by
  cases a with
  | none =>
    cases b with
    | none => rfl
    | some t => exact absurd hb.2.1 (ha _)
  | some s =>
    cases b with
    | none => exact absurd ha.2.1 (hb _)
    | some t =>
      have e : (0 :: s) = (0 :: t) := fn_ext (by rw [List.length_cons, List.length_cons, ha.1, hb.1]) fun k => Int.le_antisymm (ha.2.2 _ hb.2.1 k) (hb.2.2 _ ha.2.1 k)
      injection e with _ e
      rw [e]
theorem nat_min {P : Nat → Prop} : ∀ (n : Nat), P n → ∃ m, P m ∧ ∀ k, P k → m ≤ k := by
  intro n
  induction n using Nat.strongRecOn with
  | _ n ih =>
    intro h
    by_cases e : ∃ k, k < n ∧ P k
    · obtain ⟨k, h1, h2⟩ := e
      exact ih k h1 h2
    · exact ⟨n, h, fun k hk => Nat.le_of_not_lt fun hl => e ⟨k, hl, hk⟩⟩
theorem least_of {rs : List Rw} {m0 : Nat → Int} (h : Feas rs m0) : ∃ M, Feas rs M ∧ ∀ m, Feas rs m → ∀ k, M k ≤ m k := by
  have key : ∀ k, ∃ v : Int, (∃ m, Feas rs m ∧ m k = v) ∧ ∀ m, Feas rs m → v ≤ m k := fun k => by
    obtain ⟨v, ⟨m, h1, h2⟩, h3⟩ := nat_min (P := fun v => ∃ m, Feas rs m ∧ m k = (v : Int)) (m0 k).toNat ⟨m0, h, by have := h.nn k; omega⟩
    refine ⟨v, ⟨m, h1, h2⟩, fun m' h' => ?_⟩
    have := h3 (m' k).toNat ⟨m', h', by have := h'.nn k; omega⟩
    have := h'.nn k
    omega
  refine ⟨fun k => (key k).choose, ⟨?_, fun k => ?_, fun r hr => ?_⟩, fun m hm k => (key k).choose_spec.2 m hm⟩
  · obtain ⟨m, h1, h2⟩ := (key 0).choose_spec.1
    rw [← h2]
    exact h1.zero
  · obtain ⟨m, h1, h2⟩ := (key k).choose_spec.1
    rw [← h2]
    exact h1.nn k
  · obtain ⟨m, h1, h2⟩ := (key r.1).choose_spec.1
    have h3 := (key r.2.1).choose_spec.2 m h1
    have h4 := h1.rows r hr
    show (key r.2.1).choose + r.2.2 ≤ (key r.1).choose
    rw [← h2]
    omega
/-- how many of the numbers up to n are not yet at their least -/
def offs (M m : Nat → Int) (n : Nat) : Nat := (List.range (n + 1)).countP fun k => decide (m k ≠ M k)
theorem countP_lt {α : Type} {p q : α → Bool} : ∀ {l : List α}, (∀ a ∈ l, q a = true → p a = true) → (∃ a ∈ l, p a = true ∧ q a = false) → l.countP q < l.countP p
  | [], _, h => by
    obtain ⟨a, h, _⟩ := h
    cases h
  | a :: r, h1, h2 => by
    have hle : r.countP q ≤ r.countP p := List.countP_mono_left fun b hb h => h1 b (List.mem_cons_of_mem _ hb) h
    obtain ⟨b, hb, e1, e2⟩ := h2
    rw [List.countP_cons, List.countP_cons]
    rcases List.mem_cons.mp hb with e | hb
    · subst e
      rw [e1, e2]
      simp
      omega
    · have := countP_lt (l := r) (fun b hb h => h1 b (List.mem_cons_of_mem _ hb) h) ⟨b, hb, e1, e2⟩
      cases hq : q a with
      | false => simp; omega
      | true =>
        rw [h1 a List.mem_cons_self hq]
        simp
        omega
/-- what a round does to moments -/
structure Round (rs : List Rw) (a b : Nat → Int) : Prop where
  up : ∀ k, a k ≤ b k
  rows : ∀ r ∈ rs, a r.2.1 + r.2.2 ≤ b r.1
theorem offs_step {rs : List Rw} {n : Nat} {M a b : Nat → Int} (hn : RwIn n rs) (hM : Feas rs M) (hl : ∀ m, Feas rs m → ∀ k, M k ≤ m k) (ha : ∀ k, 0 ≤ a k) (h0 : a 0 = 0) (hb : ∀ k, b k ≤ M k) (R : Round rs a b) : offs M b n ≤ offs M a n - 1 := by
  have hsub : ∀ k ∈ List.range (n + 1), decide (b k ≠ M k) = true → decide (a k ≠ M k) = true := fun k _ h => by
    have h := of_decide_eq_true h
    have h1 := R.up k
    have h2 := hb k
    exact decide_eq_true (by omega)
  by_cases hz : ∃ k, k ≤ n ∧ a k ≠ M k
  · have : offs M b n < offs M a n := by
      refine countP_lt hsub ?_
      refine Classical.byContradiction fun hno => ?_
      have hno : ∀ k, k ≤ n → a k ≠ M k → b k ≠ M k := fun k hk h1 h2 => hno ⟨k, List.mem_range.mpr (by omega), decide_eq_true h1, decide_eq_false (by simpa using h2)⟩
      have F : Feas rs fun k => if k ≤ n ∧ a k ≠ M k then M k - 1 else M k := by
        refine ⟨?_, fun k => ?_, fun r hr => ?_⟩
        · rw [if_neg (fun h => h.2 (by rw [h0, hM.zero]))]
          exact hM.zero
        · by_cases h : k ≤ n ∧ a k ≠ M k
          · rw [if_pos h]
            have h1 := R.up k
            have h2 := hb k
            have h3 := ha k
            have h4 := h.2
            omega
          · rw [if_neg h]
            exact hM.nn k
        · obtain ⟨h1, h2⟩ := hn r hr
          have h3 := hM.rows r hr
          by_cases hk : a r.1 ≠ M r.1
          · by_cases hj : a r.2.1 ≠ M r.2.1
            · rw [if_pos ⟨h2, hj⟩, if_pos ⟨h1, hk⟩]
              omega
            · rw [if_neg (fun h => hj h.2), if_pos ⟨h1, hk⟩]
              have h4 := R.rows r hr
              have h5 := hb r.1
              have h6 := hno r.1 h1 hk
              have h7 : a r.2.1 = M r.2.1 := Classical.byContradiction fun h => hj h
              omega
          · by_cases hj : a r.2.1 ≠ M r.2.1
            · rw [if_pos ⟨h2, hj⟩, if_neg (fun h => hk h.2)]
              omega
            · rw [if_neg (fun h => hj h.2), if_neg (fun h => hk h.2)]
              exact h3
      obtain ⟨k, h1, h2⟩ := hz
      have := hl _ F k
      rw [if_pos ⟨h1, h2⟩] at this
      omega
    omega
  · have e : offs M b n = 0 := by
      unfold offs
      rw [List.countP_eq_zero]
      intro k hk h
      have h2 := of_decide_eq_true (hsub k hk h)
      exact hz ⟨k, by have := List.mem_range.mp hk; omega, h2⟩
    omega
theorem offs_zero {M m : Nat → Int} {n : Nat} (h : offs M m n = 0) : ∀ k, k ≤ n → m k = M k := fun k hk => by
  unfold offs at h
  rw [List.countP_eq_zero] at h
  have h2 := h k (List.mem_range.mpr (by omega))
  exact Classical.byContradiction fun e => h2 (decide_eq_true e)
theorem offs_le {M m : Nat → Int} {n : Nat} (h0 : m 0 = M 0) : offs M m n ≤ n := by
  have h1 : offs M m n < (List.range (n + 1)).countP fun _ => true := countP_lt (fun _ _ _ => rfl) ⟨0, List.mem_range.mpr (by omega), rfl, decide_eq_false (by simpa using h0)⟩
  have h2 : (List.range (n + 1)).countP (fun _ => true) ≤ (List.range (n + 1)).length := List.countP_le_length
  rw [List.length_range] at h2
  omega
/-! ### a round over a list of moments -/
theorem fn_set {m : List Int} {k j : Nat} {v : Int} (hk : k < m.length) : fn (m.set k v) j = if j = k then v else fn m j := by
  unfold fn
  rw [List.getD_eq_getElem?_getD, List.getD_eq_getElem?_getD, List.getElem?_set]
  by_cases h : j = k
  · subst h
    rw [if_pos rfl, if_pos rfl, if_pos hk]
    rfl
  · rw [if_neg (fun e => h e.symm), if_neg h]
theorem fn_nn {m : List Int} (h : ∀ v ∈ m, 0 ≤ v) (k : Nat) : 0 ≤ fn m k := by
  unfold fn
  rw [List.getD_eq_getElem?_getD]
  cases e : m[k]? with
  | none => exact Int.le_refl 0
  | some v => exact h v (List.mem_of_getElem? e)
theorem fn_ge {m : List Int} {k : Nat} (h : m.length ≤ k) : fn m k = 0 := by
  unfold fn
  rw [List.getD_eq_getElem?_getD, List.getElem?_eq_none h]
  rfl
/-- the state of the moments within the law's own search: a is the state at the begin of the round -/
structure Mid (rs : List Rw) (n : Nat) (a m : List Int) (i : Nat) : Prop where
  len : m.length = n + 1
  up : ∀ k, fn a k ≤ fn m k
  le : ∀ M, Feas rs M → ∀ k, fn m k ≤ M k
  rows : ∀ r ∈ rs.take i, fn a r.2.1 + r.2.2 ≤ fn m r.1
theorem Mid.step {rs : List Rw} {n : Nat} {a m : List Int} {i : Nat} {r : Rw} (h : Mid rs n a m i) (hr : rs[i]? = some r) (hn : RwIn n rs) :
    (fn m r.1 < fn m r.2.1 + r.2.2 → Mid rs n a (m.set r.1 (fn m r.2.1 + r.2.2)) (i + 1)) ∧ (¬ fn m r.1 < fn m r.2.1 + r.2.2 → Mid rs n a m (i + 1)) := by
  have hm : r ∈ rs := List.mem_of_getElem? hr
  obtain ⟨h1, h2⟩ := hn r hm
  have et : rs.take (i + 1) = rs.take i ++ [r] := by rw [List.take_add_one, hr]; rfl
  have hk : r.1 < m.length := by rw [h.len]; omega
  refine ⟨fun c => ⟨by rw [List.length_set]; exact h.len, fun k => ?_, fun M hM k => ?_, fun s hs => ?_⟩, fun c => ⟨h.len, h.up, h.le, fun s hs => ?_⟩⟩
  · rw [fn_set hk]
    by_cases e : k = r.1
    · rw [if_pos e, e]
      have := h.up r.1
      omega
    · rw [if_neg e]
      exact h.up k
  · rw [fn_set hk]
    by_cases e : k = r.1
    · rw [if_pos e, e]
      have h3 := hM.rows r hm
      have h4 := h.le M hM r.2.1
      omega
    · rw [if_neg e]
      exact h.le M hM k
  · rw [fn_set hk]
    rw [et] at hs
    rcases List.mem_append.mp hs with hs | hs
    · have h3 := h.rows s hs
      by_cases e : s.1 = r.1
      · rw [if_pos e]
        rw [e] at h3
        omega
      · rw [if_neg e]
        exact h3
    · rw [List.mem_singleton.mp hs, if_pos rfl]
      have := h.up r.2.1
      omega
  · rw [et] at hs
    rcases List.mem_append.mp hs with hs | hs
    · exact h.rows s hs
    · rw [List.mem_singleton.mp hs]
      have := h.up r.2.1
      omega
/-! ### the program's search: moments, causes, and what was raised last -/
structure SS where
  m : List Int
  c : List (Option Rw)
  r : Option Nat
def SS.step (s : SS) (w : Rw) : SS := if fn s.m w.1 < fn s.m w.2.1 + w.2.2 then ⟨s.m.set w.1 (fn s.m w.2.1 + w.2.2), s.c.set w.1 (some w), some w.1⟩ else s
def SS.pass (ws : List Rw) (s : SS) : SS := ws.foldl SS.step ⟨s.m, s.c, none⟩
def settleF (ws : List Rw) : Nat → SS → SS
  | 0, s => s
  | f + 1, s => if (s.pass ws).r = none then s.pass ws else settleF ws f (s.pass ws)
def allRows (rs : List Rw) (n : Nat) : List Rw := rs ++ (List.range (n + 1)).map fun k => (k, 0, 0)
def SS.zero (n : Nat) : SS := ⟨List.replicate (n + 1) 0, List.replicate (n + 1) none, none⟩
structure Fold (ws : List Rw) (n : Nat) (s t : SS) : Prop where
  len : t.m.length = s.m.length
  clen : t.c.length = s.c.length
  up : ∀ k, fn s.m k ≤ fn t.m k
  rows : ∀ r ∈ ws, fn s.m r.2.1 + r.2.2 ≤ fn t.m r.1
  le : ∀ M : Nat → Int, (∀ r ∈ ws, M r.2.1 + r.2.2 ≤ M r.1) → (∀ k, fn s.m k ≤ M k) → ∀ k, fn t.m k ≤ M k
  stay : t.r = none → t.m = s.m ∧ s.r = none
  rin : ∀ k, t.r = some k → (s.r = some k ∨ k ≤ n)
theorem fold_ok {n : Nat} : ∀ {ws : List Rw} {s : SS}, RwIn n ws → s.m.length = n + 1 → Fold ws n s (ws.foldl SS.step s)
  | [], s, _, _ => ⟨rfl, rfl, fun _ => Int.le_refl _, (fun r hr => by cases hr), fun _ _ h => h, fun h => ⟨rfl, h⟩, fun k h => .inl h⟩
  | w :: ws, s, hn, hl => by
    obtain ⟨h1, h2⟩ := hn w List.mem_cons_self
    have hk : w.1 < s.m.length := by omega
    by_cases c : fn s.m w.1 < fn s.m w.2.1 + w.2.2
    · have e : s.step w = ⟨s.m.set w.1 (fn s.m w.2.1 + w.2.2), s.c.set w.1 (some w), some w.1⟩ := if_pos c
      have ih := fold_ok (ws := ws) (s := s.step w) (fun r hr => hn r (List.mem_cons_of_mem _ hr)) (by rw [e]; show (s.m.set _ _).length = _; rw [List.length_set]; exact hl)
      have up1 : ∀ k, fn s.m k ≤ fn (s.step w).m k := fun k => by
        rw [e]
        show _ ≤ fn (s.m.set _ _) k
        rw [fn_set hk]
        by_cases h : k = w.1
        · rw [if_pos h, h]
          omega
        · rw [if_neg h]
          exact Int.le_refl _
      have wv : fn (s.step w).m w.1 = fn s.m w.2.1 + w.2.2 := by
        rw [e]
        show fn (s.m.set _ _) _ = _
        rw [fn_set hk, if_pos rfl]
      refine ⟨?_, ?_, fun k => Int.le_trans (up1 k) (ih.up k), fun r hr => ?_, fun M hM hs k => ih.le M (fun r hr => hM r (List.mem_cons_of_mem _ hr)) (fun k => ?_) k, fun h => ?_, fun k h => ?_⟩
      · show (ws.foldl SS.step (s.step w)).m.length = _
        rw [ih.len, e]
        exact List.length_set
      · show (ws.foldl SS.step (s.step w)).c.length = _
        rw [ih.clen, e]
        exact List.length_set
      · rcases List.mem_cons.mp hr with hr | hr
        · rw [hr]
          have := ih.up w.1
          rw [wv] at this
          exact this
        · have h3 := ih.rows r hr
          have h4 := up1 r.2.1
          show _ ≤ fn (ws.foldl SS.step (s.step w)).m r.1
          omega
      · by_cases h : k = w.1
        · rw [h, wv]
          have h3 := hM w List.mem_cons_self
          have h4 := hs w.2.1
          omega
        · rw [e]
          show fn (s.m.set _ _) k ≤ _
          rw [fn_set hk, if_neg h]
          exact hs k
      · have h3 := (ih.stay h).2
        rw [e] at h3
        cases h3
      · rcases ih.rin k h with h | h
        · rw [e] at h
          injection h with h
          exact .inr (by omega)
        · exact .inr h
    · have e : s.step w = s := if_neg c
      have ih := fold_ok (ws := ws) (s := s) (fun r hr => hn r (List.mem_cons_of_mem _ hr)) hl
      have e2 : (w :: ws).foldl SS.step s = ws.foldl SS.step s := by rw [List.foldl_cons, e]
      rw [e2]
      refine ⟨ih.len, ih.clen, ih.up, fun r hr => ?_, fun M hM => ih.le M fun r hr => hM r (List.mem_cons_of_mem _ hr), ih.stay, ih.rin⟩
      rcases List.mem_cons.mp hr with hr | hr
      · rw [hr]
        have := ih.up w.1
        omega
      · exact ih.rows r hr
theorem allRows_in {rs : List Rw} {n : Nat} (h : RwIn n rs) : RwIn n (allRows rs n) := fun r hr => by
  rcases List.mem_append.mp hr with hr | hr
  · exact h r hr
  · obtain ⟨k, hk, rfl⟩ := List.mem_map.mp hr
    have := List.mem_range.mp hk
    exact ⟨by show k ≤ n; omega, Nat.zero_le _⟩
theorem Feas.all {rs : List Rw} {n : Nat} {M : Nat → Int} (h : Feas rs M) : ∀ r ∈ allRows rs n, M r.2.1 + r.2.2 ≤ M r.1 := fun r hr => by
  rcases List.mem_append.mp hr with hr | hr
  · exact h.rows r hr
  · obtain ⟨k, hk, rfl⟩ := List.mem_map.mp hr
    show M 0 + 0 ≤ M k
    have := h.zero
    have := h.nn k
    omega
theorem fn_zeros (n k : Nat) : fn (List.replicate n (0 : Int)) k = 0 := by
  unfold fn
  rw [List.getD_eq_getElem?_getD, List.getElem?_replicate]
  by_cases h : k < n
  · rw [if_pos h]
    rfl
  · rw [if_neg h]
    rfl
/-- what the search tells -/
def Told (rs : List Rw) (n : Nat) (s : SS) : Prop := s.m.length = n + 1 ∧ s.c.length = n + 1 ∧ (s.r = none → LM rs n (some (s.m.drop 1))) ∧ (∀ k, s.r = some k → k ≤ n ∧ LM rs n none)
structure Search (rs : List Rw) (n i : Nat) (s : SS) : Prop where
  len : s.m.length = n + 1
  clen : s.c.length = n + 1
  nn : ∀ k, 0 ≤ fn s.m k
  le : ∀ M, Feas rs M → ∀ k, fn s.m k ≤ M k
  off : ∀ M, Feas rs M → (∀ m, Feas rs m → ∀ k, M k ≤ m k) → offs M (fn s.m) n ≤ n - i
theorem Search.next {rs : List Rw} {n i : Nat} {s : SS} (h : Search rs n i s) (hn : RwIn n rs) : Fold (allRows rs n) n ⟨s.m, s.c, none⟩ (s.pass (allRows rs n)) ∧ Search rs n (i + 1) (s.pass (allRows rs n)) := by
  have F := fold_ok (s := ⟨s.m, s.c, none⟩) (allRows_in hn) h.len
  refine ⟨F, F.len.trans h.len, F.clen.trans h.clen, fun k => Int.le_trans (h.nn k) (F.up k), fun M hM => F.le M hM.all (h.le M hM), fun M hM hl => ?_⟩
  have h1 := offs_step (a := fn s.m) (b := fn (s.pass (allRows rs n)).m) hn hM hl h.nn (Int.le_antisymm (by have := h.le M hM 0; rw [hM.zero] at this; exact this) (h.nn 0)) (F.le M hM.all (h.le M hM)) ⟨F.up, fun r hr => F.rows r (List.mem_append_left _ hr)⟩
  have h2 := h.off M hM hl
  omega
theorem Search.done {rs : List Rw} {n i : Nat} {s : SS} (h : Search rs n i s) (hn : RwIn n rs) (hr : (s.pass (allRows rs n)).r = none) : LM rs n (some ((s.pass (allRows rs n)).m.drop 1)) := by
  obtain ⟨F, S⟩ := h.next hn
  have em : (s.pass (allRows rs n)).m = s.m := (F.stay hr).1
  have hrows : ∀ r ∈ allRows rs n, fn s.m r.2.1 + r.2.2 ≤ fn s.m r.1 := fun r hr => by
    have := F.rows r hr
    rw [em] at this
    exact this
  have hz : ∀ k, k ≤ n → fn s.m 0 ≤ fn s.m k := fun k hk => by
    have := hrows (k, 0, 0) (List.mem_append_right _ (List.mem_map.mpr ⟨k, List.mem_range.mpr (by omega), rfl⟩))
    have : fn s.m 0 + 0 ≤ fn s.m k := this
    omega
  have F0 : Feas rs fun k => if k ≤ n then fn s.m k - fn s.m 0 else 0 := by
    refine ⟨?_, fun k => ?_, fun r hr => ?_⟩
    · rw [if_pos (Nat.zero_le _)]
      omega
    · by_cases hk : k ≤ n
      · rw [if_pos hk]
        have := hz k hk
        omega
      · rw [if_neg hk]
        exact Int.le_refl _
    · obtain ⟨h1, h2⟩ := hn r hr
      rw [if_pos h2, if_pos h1]
      have := hrows r (List.mem_append_left _ hr)
      omega
  have h0 : fn s.m 0 = 0 := by
    have h1 := h.le _ F0 0
    rw [if_pos (Nat.zero_le _)] at h1
    have := h.nn 0
    omega
  obtain ⟨v, t, ht⟩ : ∃ v t, s.m = v :: t := by
    cases e : s.m with
    | nil =>
      have := h.len
      rw [e] at this
      cases this
    | cons v t => exact ⟨v, t, rfl⟩
  have hv : v = 0 := by
    rw [ht] at h0
    exact h0
  subst hv
  rw [em, ht]
  show Least rs n t
  have hl := h.len
  rw [ht, List.length_cons] at hl
  refine ⟨by omega, ⟨rfl, fun k => ?_, fun r hr => ?_⟩, fun m hm k => ?_⟩
  · rw [← ht]
    exact h.nn k
  · rw [← ht]
    exact hrows r (List.mem_append_left _ hr)
  · rw [← ht]
    exact h.le m hm k
theorem Search.never {rs : List Rw} {n i : Nat} {s : SS} (h : Search rs n i s) (hn : RwIn n rs) (hi : n ≤ i) (hr : (s.pass (allRows rs n)).r ≠ none) : LM rs n none := fun m0 h0 => by
  obtain ⟨M, hM, hl⟩ := least_of h0
  have hz := offs_zero (Nat.le_zero.mp (Nat.le_trans (h.off M hM hl) (by omega)))
  -- nothing is raised where all are at their least
  have key : ∀ ws : List Rw, (∀ r ∈ ws, r ∈ allRows rs n) → (ws.foldl SS.step ⟨s.m, s.c, none⟩) = ⟨s.m, s.c, none⟩ := by
    intro ws
    induction ws with
    | nil => intro _; rfl
    | cons w ws ih =>
      intro hw
      have h1 := hw w List.mem_cons_self
      have h2 := hM.all w h1
      obtain ⟨h3, h4⟩ := allRows_in hn w h1
      have e : SS.step ⟨s.m, s.c, none⟩ w = ⟨s.m, s.c, none⟩ := if_neg (by
        show ¬ fn s.m w.1 < fn s.m w.2.1 + w.2.2
        rw [hz _ h3, hz _ h4]
        omega)
      rw [List.foldl_cons, e]
      exact ih fun r hr => hw r (List.mem_cons_of_mem _ hr)
  refine hr ?_
  show ((allRows rs n).foldl SS.step ⟨s.m, s.c, none⟩).r = none
  rw [key _ fun _ h => h]
theorem settle_told {rs : List Rw} {n : Nat} (hn : RwIn n rs) : ∀ (f i : Nat) (s : SS), f + i = n + 1 → f ≠ 0 → Search rs n i s → Told rs n (settleF (allRows rs n) f s)
  | 0, _, _, _, h, _ => absurd rfl h
  | f + 1, i, s, hf, _, S => by
    obtain ⟨F, S2⟩ := S.next hn
    unfold settleF
    by_cases hr : (s.pass (allRows rs n)).r = none
    · rw [if_pos hr]
      exact ⟨S2.len, S2.clen, fun _ => S.done hn hr, fun k h => by rw [hr] at h; cases h⟩
    · rw [if_neg hr]
      by_cases hz : f = 0
      · subst hz
        refine ⟨S2.len, S2.clen, fun h => absurd h hr, fun k h => ⟨?_, S.never hn (by omega) hr⟩⟩
        rcases F.rin k h with h | h
        · cases h
        · exact h
      · exact settle_told hn f (i + 1) _ (by omega) hz S2
theorem settle_ok {rs : List Rw} {n : Nat} (hn : RwIn n rs) : Told rs n (settleF (allRows rs n) (n + 1) (SS.zero n)) := by
  refine settle_told hn (n + 1) 0 _ (by omega) (by omega) ⟨List.length_replicate, List.length_replicate, fun k => ?_, fun M hM k => ?_, fun M hM _ => ?_⟩
  · show 0 ≤ fn (List.replicate _ _) k
    rw [fn_zeros]
    exact Int.le_refl _
  · show fn (List.replicate _ _) k ≤ _
    rw [fn_zeros]
    exact hM.nn k
  · exact offs_le (by show fn (List.replicate _ _) 0 = _; rw [fn_zeros, hM.zero])
/-! ### the law's own search -/
structure Slow (rs : List Rw) (n i : Nat) (m : List Int) : Prop where
  len : m.length = n + 1
  zero : fn m 0 = 0
  nn : ∀ k, 0 ≤ fn m k
  le : ∀ M, Feas rs M → ∀ k, fn m k ≤ M k
  off : ∀ M, Feas rs M → (∀ m, Feas rs m → ∀ k, M k ≤ m k) → offs M (fn m) n ≤ n - i
  keep : n + 3 ≤ i → ∀ r ∈ rs, fn m r.2.1 + r.2.2 ≤ fn m r.1
theorem Slow.begin {rs : List Rw} {n : Nat} : Slow rs n 0 (List.replicate (n + 1) 0) := by
  refine ⟨List.length_replicate, fn_zeros _ _, fun k => ?_, fun M hM k => ?_, fun M hM _ => ?_, fun h => ?_⟩
  · rw [fn_zeros]
    exact Int.le_refl _
  · rw [fn_zeros]
    exact hM.nn k
  · exact offs_le (by rw [fn_zeros, hM.zero])
  · omega
theorem Slow.mid {rs : List Rw} {n i : Nat} {a : List Int} (h : Slow rs n i a) : Mid rs n a a 0 := ⟨h.len, fun _ => Int.le_refl _, h.le, fun r hr => by
  rw [List.take_zero] at hr
  cases hr⟩
theorem Slow.next {rs : List Rw} {n i : Nat} {a m : List Int} (hn : RwIn n rs) (h : Slow rs n i a) (M : Mid rs n a m rs.length) (h0 : fn m 0 = 0) (hs : n + 2 ≤ i → m = a) : Slow rs n (i + 1) m := by
  refine ⟨M.len, h0, fun k => Int.le_trans (h.nn k) (M.up k), M.le, fun W hW hl => ?_, fun hi r hr => ?_⟩
  · have h1 := offs_step (a := fn a) (b := fn m) hn hW hl h.nn h.zero (M.le W hW) ⟨M.up, fun r hr => M.rows r (by rw [List.take_length]; exact hr)⟩
    have h2 := h.off W hW hl
    omega
  · have e := hs (by omega)
    have h1 := M.rows r (by rw [List.take_length]; exact hr)
    rw [e] at h1 ⊢
    exact h1
theorem Slow.none0 {rs : List Rw} {n : Nat} {a m : List Int} {i : Nat} {r : Rw} (M : Mid rs n a m i) (hr : r ∈ rs) (h0 : fn m 0 = 0) (hz : r.1 = 0) (c : fn m r.1 < fn m r.2.1 + r.2.2) : LM rs n none := fun W hW => by
  have h1 := hW.rows r hr
  have h2 := M.le W hW r.2.1
  rw [hz] at h1 c
  rw [hW.zero] at h1
  omega
theorem Slow.noneL {rs : List Rw} {n i : Nat} {a : List Int} {r : Rw} (hn : RwIn n rs) (h : Slow rs n i a) (hi : n + 2 ≤ i) (hr : r ∈ rs) (c : fn a r.1 < fn a r.2.1 + r.2.2) : LM rs n none := fun W0 hW0 => by
  obtain ⟨W, hW, hl⟩ := least_of hW0
  have hz := offs_zero (Nat.le_zero.mp (Nat.le_trans (h.off W hW hl) (by omega)))
  obtain ⟨h1, h2⟩ := hn r hr
  have h3 := hW.rows r hr
  rw [hz _ h1, hz _ h2] at c
  omega
theorem Slow.done {rs : List Rw} {n i : Nat} {m : List Int} (h : Slow rs n i m) (hi : n + 3 ≤ i) : LM rs n (some (m.drop 1)) := by
  obtain ⟨v, t, ht⟩ : ∃ v t, m = v :: t := by
    cases e : m with
    | nil =>
      have := h.len
      rw [e] at this
      cases this
    | cons v t => exact ⟨v, t, rfl⟩
  have hv : v = 0 := by
    have h0 := h.zero
    rw [ht] at h0
    exact h0
  subst hv
  have hl := h.len
  rw [ht, List.length_cons] at hl
  have h1 := h.nn
  have h2 := h.le
  have h3 := h.keep hi
  rw [ht] at h1 h2 h3 ⊢
  exact ⟨by show t.length = n; omega, ⟨rfl, h1, h3⟩, h2⟩

open PySem PySem.Spec PyProof.Rows L2
open PySem.W (EachIs)
/-! ### a list or a tuple, by one word -/
def SqK (K : PySem.W.Frag) (kd : Bool) (H : Hp) (a : Addr) (xs : List V) : Prop := if kd = true then SqL K H a xs else SqT K H a xs
theorem SqK.l {K : PySem.W.Frag} {H : Hp} {a : Addr} {xs : List V} (h : SqL K H a xs) : SqK K true H a xs := h
theorem SqK.t {K : PySem.W.Frag} {H : Hp} {a : Addr} {xs : List V} (h : SqT K H a xs) : SqK K false H a xs := h
theorem SqK.ext {K : PySem.W.Frag} {kd : Bool} {T : List (Addr × Str)} {ms : List Addr} {H H' : Hp} {a : Addr} {xs : List V} (h : SqK K kd H a xs) (e : Ext T ms H H') (ha : a ∉ ms) : SqK K kd H' a xs := by
  cases kd with
  | true => exact e.seqL ha h
  | false => exact e.seqT ha h
theorem SqK.x {K : PySem.W.Frag} {kd : Bool} {T : List (Addr × Str)} {H H' : Hp} {a : Addr} {xs : List V} (h : SqK K kd H a xs) (e : Ext T [] H H') : SqK K kd H' a xs := h.ext e (by simp)
theorem SqK.or {K : PySem.W.Frag} {kd : Bool} {H : Hp} {a : Addr} {xs : List V} (h : SqK K kd H a xs) : SqT K H a xs ∨ SqL K H a xs := by
  cases kd with
  | true => exact .inr h
  | false => exact .inl h
theorem SqK.or' {K : PySem.W.Frag} {kd : Bool} {H : Hp} {a : Addr} {xs : List V} (h : SqK K kd H a xs) : SqL K H a xs ∨ SqT K H a xs := by
  cases kd with
  | true => exact .inl h
  | false => exact .inr h
/-- what is made later may change -/
theorem SqK.own {K : PySem.W.Frag} {kd : Bool} {T : List (Addr × Str)} {H H' : Hp} {a p : Addr} {xs : List V} (h : SqK K kd H a xs) (np : Nw H p) (e : Ext T [p] H H') : SqK K kd H' a xs := by
  have key : ∀ o, (∀ ps, o ≠ .tbl ps) → H a = some o → H' a = some o := fun o ho h1 => e.keep a o (by
    intro hm
    have := np.ne h1 ho
    simp at hm
    exact this hm) ho h1
  cases kd with
  | true =>
    rcases h with (h | ⟨o, h⟩) | h
    · exact .inl (.inl (key _ (fun _ z => by cases z) h))
    · exact .inl (.inr ⟨o, key _ (fun _ z => by cases z) h⟩)
    · exact .inr h
  | false =>
    rcases h with (h | ⟨o, h⟩) | h
    · exact .inl (.inl (key _ (fun _ z => by cases z) h))
    · exact .inl (.inr ⟨o, key _ (fun _ z => by cases z) h⟩)
    · exact .inr h
/-- data in a list or a tuple -/
def DsK (K : PySem.W.Frag) (kd : Bool) (H : Hp) (a : Addr) (ds : List PyData) : Prop := ∃ xs, SqK K kd H a xs ∧ ImAll H xs ds
theorem DsK.x {K : PySem.W.Frag} {kd : Bool} {T : List (Addr × Str)} {H H' : Hp} {a : Addr} {ds : List PyData} (h : DsK K kd H a ds) (e : Ext T [] H H') : DsK K kd H' a ds := by
  obtain ⟨xs, h1, h2⟩ := h
  exact ⟨xs, h1.x e, h2.x e⟩
theorem DsK.ls {K : PySem.W.Frag} {H : Hp} {a : Addr} {ds : List PyData} (h : Ls H a ds) : DsK K true H a ds := by
  obtain ⟨xs, h1, h2⟩ := h
  exact ⟨xs, SqL.of h1, h2⟩
section
variable {K : PySem.W.Frag} {σ : L2.St} {H : Hp} {Q : VK} {te : TE}
theorem rd_starK {t : TA} {kd : Bool} {p : Addr} {xs : List V} {Q : List V → Hp → Prop} (h : SqK K kd H p xs) (q : t σ H fun ys H2 => Q (xs ++ ys) H2) : ∃ p' xs', V.ref p = V.ref p' ∧ (SqT K H p' xs' ∨ SqL K H p' xs') ∧ t σ H fun ys H2 => Q (xs' ++ ys) H2 := ⟨p, xs, rfl, h.or, q⟩
theorem rep_one {α : Type} (n : Nat) (x : α) : (List.replicate n [x]).flatten = List.replicate n x := by
  induction n with
  | zero => rfl
  | succ n ih => rw [List.replicate_succ, List.flatten_cons, ih]; rfl
theorem rd_rep {l : Addr} {x : V} {n : Nat} (h : H l = some (.lst [x])) (hn : n ≤ 1000) (q : ∀ p, H p = none → Q (.ref p) (upd H p (.lst (List.replicate n x)))) : rRep (.ref l) (.int (n : Int)) H Q :=
  ⟨l, n, [x], rfl, rfl, h, by omega, by omega, by
    rw [List.length_singleton, Int.toNat_natCast, Nat.one_mul]
    exact Nat.le_trans hn (by decide), fun p hp => by
    rw [Int.toNat_natCast, rep_one]
    exact q p hp⟩
theorem rd_isN {x : V} (q : Q (.bl (decide (x = .non))) H) : rIsU x .non H Q := .inr ⟨rfl, q⟩
theorem rd_isBl {a b : Bool} (q : Q (.bl (decide (a = b))) H) : rIsU (.bl a) (.bl b) H Q := .inl ⟨a, b, rfl, rfl, q⟩
theorem rd_isnBl {a b : Bool} (q : Q (.bl (!decide (a = b))) H) : rIsNU (.bl a) (.bl b) H Q := .inl ⟨a, b, rfl, rfl, q⟩
theorem rd_isTup {a : Addr} {xs : List V} (h : H a = some (.tup xs)) (q : Q (.bl true) H) : rIsi K [.ref a, .ty "tuple"] H Q := ⟨_, _, _, _, true, rfl, .ty _, .base (.tup h), rfl, q⟩
theorem rd_break {nx bk ct : L2.St → Hp → Prop} {rt : VK} (q : bk σ H) : tBreak ⟨nx, rt, bk, ct⟩ σ H := q
end
/-! ### walked, whichever of the two it is -/
section
variable {K : PySem.W.Frag} {σ : L2.St} {H H1 : Hp} {g : TG} {nx bk ct : L2.St → Hp → Prop} {rt : VK}
theorem forg_any {kd : Bool} {a : Addr} {xs : List V} {tb : TS} (Pv : Nat → L2.St → Hp → Prop) (h0 : Pv 0 σ H) (hl : ∀ i σ H, i ≤ xs.length → Pv i σ H → SqK K kd H a xs)
    (hs : ∀ i x σ H, xs[i]? = some x → Pv i σ H → g x σ H fun σ2 H2 => tb ⟨Pv (i + 1), rt, nx, Pv (i + 1)⟩ σ2 H2) (hd : ∀ σ H, Pv xs.length σ H → nx σ H) :
    ((∃ xs, SqL K H a xs) ∧ ForG (Itl K a) g tb ⟨nx, rt, bk, ct⟩ σ H) ∨ ((∃ xs, SqT K H a xs) ∧ ForG (Itt K a) g tb ⟨nx, rt, bk, ct⟩ σ H) := by
  have h1 := hl 0 σ H (Nat.zero_le _) h0
  cases kd with
  | true => exact .inl ⟨⟨xs, h1⟩, forg_list Pv h0 hl hs hd⟩
  | false => exact .inr ⟨⟨xs, h1⟩, forg_tup Pv h0 hl hs hd⟩
theorem lcg_any (T : List (Addr × Str)) (ms : List Addr) {kd : Bool} {a : Addr} {xs : List V} {Q : VK} {tt : TT} {te : TE} {vs : List Nat} (h : SqK K kd H a xs) (ha : a ∉ ms)
    (hDm : ∀ D, H D = none → D ∉ ms) (hl : xs.length < sizeLine) (p : V → Bool) (Rel : V → V → Prop)
    (step : ∀ (i : Nat) (x : V), xs[i]? = some x → ∀ H', Ext T ms H H' → ∀ (R : V → Hp → Prop) (S : Hp → Prop), (p x = true → ∀ v H2, Ext T ms H' H2 → Rel v x → R v H2) → (p x = false → ∀ H2, Ext T ms H' H2 → S H2) →
      g x (wipe σ vs) H' fun σ2 H2 => wipe σ2 vs = wipe σ vs ∧ tt σ2 H2 fun b H3 => if b = true then te σ2 H3 R else S H3)
    (q : ∀ D H2 ys, Nw H D → Ext T ms H H2 → H2 D = some (.lst ys) → EachIs Rel ys (xs.filter p) → Q (.ref D) H2) :
    ((∃ xs, SqL K H a xs) ∧ LcG (Itl K a) g tt te vs σ H Q) ∨ ((∃ xs, SqT K H a xs) ∧ LcG (Itt K a) g tt te vs σ H Q) := by
  cases kd with
  | true => exact .inl ⟨⟨xs, h⟩, lcg_rel T ms walk_list xs rfl (fun i H x H' y => y) hDm (fun H' e => h.ext e ha) hl p Rel step q⟩
  | false => exact .inr ⟨⟨xs, h⟩, lcg_rel T ms walk_tup xs rfl (fun i H x H' y => y) hDm (fun H' e => h.ext e ha) hl p Rel step q⟩
end
/-- over a range, data without drawing -/
theorem lcg_rangeD (T : List (Addr × Str)) {σ : L2.St} {H : Hp} {Q : VK} {te : TE} {n k : Nat} (f : Nat → PyData) (hn : n < sizeLine)
    (step : ∀ (i : Nat) H', i < n → Ext T [] H H' → ∀ R : VK, (∀ v H2, Ext T [] H' H2 → Im H2 v (f i) → R v H2) → te ((wipe σ [k]).set k (some (.int (0 + (i : Int))))) H' R)
    (q : ∀ D H2, Nw H D → Ext T [] H H2 → Ls H2 D ((List.range n).map f) → Q (.ref D) H2) : LcG (Itr 0 n) (gName k) tYes te [k] σ H Q := fun D hD => by
  refine lc_it walk_range (fun i H2 => Ext T [] H H2 ∧ ∃ ys, H2 D = some (.lst ys) ∧ ys.length = i ∧ ImAll H2 ys ((List.range i).map f)) ⟨.new hD, [], upd_same, rfl, .nil⟩ (fun _ _ _ _ => True.intro) (fun i x H1 H' hi h y => ?_) (fun H1 h => ?_)
  · obtain ⟨e1, e2⟩ := y
    subst e1
    subst e2
    obtain ⟨h1, ys, h3, h4, h5⟩ := h
    refine ⟨wipe1, step i H' hi h1 _ fun v H2 e hv => ?_⟩
    have h3' := lst.x h3 e
    refine ⟨ys, h3', by omega, (h1.trans e).own (.of hD) h3', ys ++ [v], upd_same, by rw [List.length_append, h4]; rfl, ?_⟩
    have eD : Ext T [D] H2 (upd H2 D (.lst (ys ++ [v]))) := Ext.mut (by simp) h3'
    have hLD : Lsts H2 [D] := fun b hb => ⟨ys, by rw [List.mem_singleton.mp hb]; exact h3'⟩
    rw [List.range_succ, List.map_append]
    exact (ImAll.ext eD hLD _ _ (h5.x e)).snoc (Im.ext eD hLD _ _ hv)
  · obtain ⟨h1, ys, h3, h4, h5⟩ := h
    exact q D H1 (.of hD) h1 ⟨ys, h3, h5⟩
/-! ### rows of three numbers -/
theorem Im.rw' {H : Hp} {v : V} {r : Rw} (h : Im H v (rwD r)) : ∃ a, v = .ref a ∧ SqP H a [.int (r.1 : Int), .int (r.2.1 : Int), .int r.2.2] := by
  obtain ⟨a, xs, rfl, h1, h2⟩ := Im.tup' h
  cases h2 with
  | cons a1 h2 =>
    cases h2 with
    | cons a2 h2 =>
      cases h2 with
      | cons a3 h2 =>
        cases h2
        rw [a1.int', a2.int', a3.int'] at h1
        exact ⟨a, rfl, h1⟩
theorem rw_new {H : Hp} {a : Addr} {r : Rw} (h : H a = some (.tup [.int (r.1 : Int), .int (r.2.1 : Int), .int r.2.2])) : Im H (.ref a) (rwD r) := .new3 (.int _) (.int _) (.int _) h
theorem rwD_inj {a b : Rw} (h : rwD a = rwD b) : a = b := by
  obtain ⟨a1, a2, a3⟩ := a
  obtain ⟨b1, b2, b3⟩ := b
  unfold rwD at h
  injection h with h
  injection h with h1 h
  injection h with h2 h
  injection h with h3 _
  injection h1 with h1
  injection h2 with h2
  injection h3 with h3
  have e1 : a1 = b1 := Int.ofNat.inj h1
  have e2 : a2 = b2 := Int.ofNat.inj h2
  have e3 : a3 = b3 := h3
  rw [e1, e2, e3]
theorem rw_get {H : Hp} {xs : List V} {rs : List Rw} {i : Nat} {x : V} (h : ImAll H xs (rs.map rwD)) (hx : xs[i]? = some x) : ∃ r, rs[i]? = some r ∧ Im H x (rwD r) := by
  obtain ⟨d, h1, h2⟩ := h.get' hx
  rw [List.getElem?_map] at h1
  obtain ⟨r, h3, rfl⟩ := Option.map_eq_some_iff.mp h1
  exact ⟨r, h3, h2⟩
theorem rd_grow {K : PySem.W.Frag} {σ : L2.St} {H : Hp} {i j l : Nat} {v : V} {r : Rw} {Q : L2.St → Hp → Prop} (h : Im H v (rwD r)) (q : Q (((σ.set i (some (.int (r.1 : Int)))).set j (some (.int (r.2.1 : Int)))).set l (some (.int r.2.2))) H) :
    gTupU K 3 (gCons (gName i) (gCons (gName j) (gCons (gName l) gNil))) v σ H Q := by
  obtain ⟨a, rfl, h1⟩ := h.rw'
  exact rd_gtup (SqP.t h1) rfl (rd_gcons (rd_name (rd_gcons (rd_name (rd_gcons (rd_name (rd_gnil q)))))))
theorem at_fn {m : List Int} {k : Nat} (h : k < m.length) : atI (m.map V.int) (k : Int) = some (.int (fn m k)) := by
  refine atI_nat ?_
  rw [List.getElem?_map, List.getElem?_eq_getElem h]
  unfold fn
  rw [List.getD_eq_getElem?_getD, List.getElem?_eq_getElem h]
  rfl
theorem map_set {α β : Type} {f : α → β} (l : List α) (k : Nat) (v : α) : (l.map f).set k (f v) = (l.set k v).map f := by rw [List.map_set]
theorem ixN_nat {n k : Nat} (h : k < n) : ixN n (k : Int) = some k := by
  unfold ixN
  rw [if_pos (by omega), if_pos (by omega), Int.toNat_natCast]
/-- one of a list written there, drawn -/
theorem rd_pickL {K : PySem.W.Frag} {T : List (Addr × Str)} {σ : L2.St} {H : Hp} {Q : VK} {xs : List V} {l t : Addr} {i : Nat} {m : Int} (hσ : σ[i]? = some (some (.ref t))) (hT : Tape l H t) (hl : (xs.length : Int) = m) (h0 : 0 < m) (h1 : m ≤ 1000)
    (q : ∀ c ∈ xs, ∀ H', Ext T [t] H H' → Tape l H' t → Q c H') :
    xs.length ≤ sizeLine ∧ ∀ p, H p = none → tCall (spTake T) [] E0 (tCons (tVar i) (tCons (tC (.int m)) tNil)) σ (upd H p (.lst xs)) fun y H2 => rIx K (.ref p) y H2 Q := by
  refine ⟨Nat.le_trans (show _ ≤ 1000 by omega) (by decide), fun p np => ?_⟩
  have e1 : Ext T [] H (upd H p (.lst xs)) := .new np
  have T1 := hT.ext e1
  have h2 : (upd H p (.lst xs)) p = some (.lst xs) := upd_same
  have hpt : p ≠ t := (hT.ne (.of np)).1
  generalize upd H p _ = H1 at e1 T1 h2 ⊢
  refine ⟨_, hσ, l, t, m, rfl, h0, by omega, T1, fun d H2 hd0 hd1 e2 T2 => ?_⟩
  obtain ⟨c, hc1, _, hc2⟩ := at_in (l := xs) hd0 (by omega)
  exact rd_ixL (SqL.of (e2.lst (by simpa using hpt) h2)) hc1 (q c hc2 H2 (e1.any.trans e2) T2)
theorem Ls.app {T : List (Addr × Str)} {H : Hp} {a : Addr} {xs : List V} {ds : List PyData} {v : V} {d : PyData} (ha : H a = some (.lst xs)) (hi : ImAll H xs ds) (hv : Im H v d) : Ls (upd H a (.lst (xs ++ [v]))) a (ds ++ [d]) ∧ Ext T [a] H (upd H a (.lst (xs ++ [v]))) := by
  have eD : Ext T [a] H (upd H a (.lst (xs ++ [v]))) := Ext.mut (by simp) ha
  have hLD : Lsts H [a] := fun b hb => ⟨xs, by rw [List.mem_singleton.mp hb]; exact ha⟩
  exact ⟨⟨_, upd_same, (ImAll.ext eD hLD _ _ hi).snoc (Im.ext eD hLD _ _ hv)⟩, eD⟩

open PySem PySem.Spec PyProof.Rows L2
/-! ### causes: where they lead -/
def cz (c : List (Option Rw)) (k : Nat) : Option Rw := c.getD k none
theorem cz_set {c : List (Option Rw)} {k j : Nat} {v : Option Rw} (hk : k < c.length) : cz (c.set k v) j = if j = k then v else cz c j := by
  unfold cz
  rw [List.getD_eq_getElem?_getD, List.getD_eq_getElem?_getD, List.getElem?_set]
  by_cases h : j = k
  · subst h
    rw [if_pos rfl, if_pos rfl, if_pos hk]
    rfl
  · rw [if_neg (fun e => h e.symm), if_neg h]
inductive Path (c : List (Option Rw)) : Nat → Nat → Nat → Int → Prop
  | nil (k : Nat) : Path c k k 0 0
  | cons {k j p : Nat} {L : Int} {r : Rw} : cz c k = some r → Path c r.2.1 j p L → Path c k j (p + 1) (r.2.2 + L)
structure Caus (ws : List Rw) (m : List Int) (c : List (Option Rw)) : Prop where
  own : ∀ k r, cz c k = some r → r.1 = k ∧ r ∈ ws ∧ fn m k ≤ fn m r.2.1 + r.2.2
  pos : ∀ k p L, Path c k k (p + 1) L → 0 < L
theorem Caus.path {ws : List Rw} {m : List Int} {c : List (Option Rw)} (h : Caus ws m c) : ∀ {k j p : Nat} {L : Int}, Path c k j p L → fn m k ≤ fn m j + L
  | _, _, _, _, .nil k => by omega
  | _, _, _, _, .cons h1 t => by
    have h2 := (h.own _ _ h1).2.2
    have h3 := Caus.path h t
    omega
theorem Caus.step {ws : List Rw} {m : List Int} {c : List (Option Rw)} {w : Rw} (h : Caus ws m c) (hw : w ∈ ws) (hm : w.1 < m.length) (hc : w.1 < c.length) (hlt : fn m w.1 < fn m w.2.1 + w.2.2) :
    Caus ws (m.set w.1 (fn m w.2.1 + w.2.2)) (c.set w.1 (some w)) := by
  have up : ∀ k, fn m k ≤ fn (m.set w.1 (fn m w.2.1 + w.2.2)) k := fun k => by
    rw [fn_set hm]
    by_cases e : k = w.1
    · rw [if_pos e, e]
      omega
    · rw [if_neg e]
      exact Int.le_refl _
  have key : ∀ {a b p : Nat} {L : Int}, Path (c.set w.1 (some w)) a b p L → fn m a < fn m b + L ∨ Path c a b p L := by
    intro a b p L hp
    induction hp with
    | nil k => exact .inr (.nil k)
    | @cons k j p L r h1 t ih =>
      have hle : fn m r.2.1 ≤ fn m j + L := by
        rcases ih with ih | ih
        · omega
        · exact h.path ih
      rw [cz_set hc] at h1
      by_cases e : k = w.1
      · rw [if_pos e] at h1
        injection h1 with h1
        subst h1
        rw [e]
        exact .inl (by omega)
      · rw [if_neg e] at h1
        have h2 := (h.own _ _ h1).2.2
        rcases ih with ih | ih
        · exact .inl (by omega)
        · exact .inr (.cons h1 ih)
  refine ⟨fun k r hr => ?_, fun k p L hp => ?_⟩
  · rw [cz_set hc] at hr
    by_cases e : k = w.1
    · rw [if_pos e] at hr
      injection hr with hr
      subst hr
      refine ⟨e.symm, hw, ?_⟩
      have := up w.2.1
      rw [e, fn_set hm, if_pos rfl]
      omega
    · rw [if_neg e] at hr
      obtain ⟨h1, h2, h3⟩ := h.own k r hr
      refine ⟨h1, h2, ?_⟩
      have := up r.2.1
      rw [fn_set hm, if_neg e]
      omega
  · rcases key hp with hp | hp
    · omega
    · exact h.pos k p L hp
/-- in which round a moment was raised last -/
structure Rank (ws : List Rw) (i : Nat) (prev : Nat → Int) (m : List Int) (c : List (Option Rw)) (tt : Nat → Nat) : Prop where
  le : ∀ k, tt k ≤ i
  has : ∀ k, 1 ≤ tt k → ∃ r, cz c k = some r ∧ tt k ≤ tt r.2.1 + 1
  same : ∀ k, tt k < i → fn m k = prev k
  rnd : 1 ≤ i → ∀ r ∈ ws, prev r.2.1 + r.2.2 ≤ fn m r.1
structure InR (ws : List Rw) (i : Nat) (m0 : List Int) (t0 : Nat → Nat) (t : SS) (tt : Nat → Nat) : Prop where
  le : ∀ k, tt k ≤ i + 1
  up : ∀ k, t0 k ≤ tt k
  has : ∀ k, 1 ≤ tt k → ∃ r, cz t.c k = some r ∧ tt k ≤ tt r.2.1 + 1
  same : ∀ k, tt k ≤ i → fn t.m k = fn m0 k ∧ tt k = t0 k
  rais : ∀ k, t.r = some k → tt k = i + 1
  mup : ∀ k, fn m0 k ≤ fn t.m k
  cs : Caus ws t.m t.c
theorem inR_fold {ws : List Rw} {n i : Nat} {m0 : List Int} {t0 : Nat → Nat} {prev : Nat → Int} {c0 : List (Option Rw)} (hws : RwIn n ws) (R : Rank ws i prev m0 c0 t0) : ∀ {us : List Rw} {t : SS} {tt : Nat → Nat}, (∀ r ∈ us, r ∈ ws) → t.m.length = n + 1 → t.c.length = n + 1 → InR ws i m0 t0 t tt →
    ∃ tt', InR ws i m0 t0 (us.foldl SS.step t) tt'
  | [], t, tt, _, _, _, h => ⟨tt, h⟩
  | w :: us, t, tt, hu, hm, hc, h => by
    have hw := hu w List.mem_cons_self
    obtain ⟨h1, h2⟩ := hws w hw
    have hk : w.1 < t.m.length := by omega
    have hk2 : w.1 < t.c.length := by omega
    have hus : ∀ r ∈ us, r ∈ ws := fun r hr => hu r (List.mem_cons_of_mem _ hr)
    by_cases c : fn t.m w.1 < fn t.m w.2.1 + w.2.2
    · have e : t.step w = ⟨t.m.set w.1 (fn t.m w.2.1 + w.2.2), t.c.set w.1 (some w), some w.1⟩ := if_pos c
      have hj : i ≤ tt w.2.1 := Classical.byContradiction fun hlt => by
        obtain ⟨e1, e2⟩ := h.same w.2.1 (by omega)
        have e3 := R.same w.2.1 (by omega)
        have e4 := R.rnd (by omega) w hw
        have e5 := h.mup w.1
        omega
      refine inR_fold hws R (us := us) (t := t.step w) (tt := fun x => if x = w.1 then i + 1 else tt x) hus (by rw [e]; show (t.m.set _ _).length = _; rw [List.length_set]; exact hm) (by rw [e]; show (t.c.set _ _).length = _; rw [List.length_set]; exact hc) ?_
      have tup : ∀ x, tt x ≤ if x = w.1 then i + 1 else tt x := fun x => by
        by_cases ex : x = w.1
        · rw [if_pos ex]
          exact h.le x
        · rw [if_neg ex]
          exact Nat.le_refl _
      rw [e]
      refine ⟨fun k => ?_, fun k => Nat.le_trans (h.up k) (tup k), fun k hk1 => ?_, fun k hki => ?_, fun k hkr => ?_, fun k => ?_, h.cs.step hw hk hk2 c⟩
      · by_cases ex : k = w.1
        · rw [if_pos ex]
          exact Nat.le_refl _
        · rw [if_neg ex]
          exact h.le k
      · show ∃ r, cz (t.c.set w.1 (some w)) k = some r ∧ _
        rw [cz_set hk2]
        by_cases ex : k = w.1
        · rw [if_pos ex, if_pos ex]
          refine ⟨w, rfl, ?_⟩
          have := tup w.2.1
          omega
        · rw [if_neg ex, if_neg ex]
          rw [if_neg ex] at hk1
          obtain ⟨r, h3, h4⟩ := h.has k hk1
          refine ⟨r, h3, ?_⟩
          have := tup r.2.1
          omega
      · by_cases ex : k = w.1
        · rw [if_pos ex] at hki
          omega
        · rw [if_neg ex] at hki ⊢
          obtain ⟨h3, h4⟩ := h.same k hki
          refine ⟨?_, h4⟩
          show fn (t.m.set _ _) k = _
          rw [fn_set hk, if_neg ex]
          exact h3
      · injection hkr with hkr
        rw [if_pos hkr.symm]
      · show _ ≤ fn (t.m.set _ _) k
        rw [fn_set hk]
        by_cases ex : k = w.1
        · rw [if_pos ex, ex]
          have := h.mup w.1
          omega
        · rw [if_neg ex]
          exact h.mup k
    · have e : t.step w = t := if_neg c
      have e2 : (w :: us).foldl SS.step t = us.foldl SS.step t := by rw [List.foldl_cons, e]
      rw [e2]
      exact inR_fold hws R hus hm hc h
theorem settle_cause {rs : List Rw} {n : Nat} (hn : RwIn n rs) : ∀ (f i : Nat) (s : SS) (prev : Nat → Int) (tt : Nat → Nat), f + i = n + 1 → f ≠ 0 → s.m.length = n + 1 → s.c.length = n + 1 → Caus (allRows rs n) s.m s.c → Rank (allRows rs n) i prev s.m s.c tt →
    ∀ k, (settleF (allRows rs n) f s).r = some k → ∃ prev' tt', Caus (allRows rs n) (settleF (allRows rs n) f s).m (settleF (allRows rs n) f s).c ∧ Rank (allRows rs n) (n + 1) prev' (settleF (allRows rs n) f s).m (settleF (allRows rs n) f s).c tt' ∧ tt' k = n + 1
  | 0, _, _, _, _, _, h, _, _, _, _ => absurd rfl h
  | f + 1, i, s, prev, tt, hf, _, hm, hc, C, R => by
    intro k hk
    have F := fold_ok (s := ⟨s.m, s.c, none⟩) (allRows_in hn) hm
    obtain ⟨tt', I⟩ := inR_fold (us := allRows rs n) (t := ⟨s.m, s.c, none⟩) (tt := tt) (allRows_in hn) R (fun _ h => h) hm hc
      ⟨fun k => Nat.le_succ_of_le (R.le k), fun _ => Nat.le_refl _, R.has, fun k _ => ⟨rfl, rfl⟩, (fun k h => by cases h), fun _ => Int.le_refl _, C⟩
    have R2 : Rank (allRows rs n) (i + 1) (fn s.m) (s.pass (allRows rs n)).m (s.pass (allRows rs n)).c tt' := ⟨I.le, I.has, fun k h => (I.same k (by omega)).1, fun _ r hr => F.rows r hr⟩
    unfold settleF at hk ⊢
    by_cases hr : (s.pass (allRows rs n)).r = none
    · rw [if_pos hr] at hk
      rw [hr] at hk
      cases hk
    · rw [if_neg hr] at hk ⊢
      by_cases hz : f = 0
      · subst hz
        have hk : (s.pass (allRows rs n)).r = some k := hk
        show ∃ prev' tt', Caus _ (s.pass (allRows rs n)).m (s.pass (allRows rs n)).c ∧ Rank _ _ _ (s.pass (allRows rs n)).m (s.pass (allRows rs n)).c _ ∧ _
        have hi : i + 1 = n + 1 := by omega
        rw [hi] at R2
        exact ⟨_, tt', I.cs, R2, by rw [I.rais k hk, hi]⟩
      · exact settle_cause hn f (i + 1) _ _ _ (by omega) hz (F.len.trans hm) (F.clen.trans hc) I.cs R2 k hk
theorem cz_nones (n k : Nat) : cz (List.replicate n none) k = none := by
  unfold cz
  rw [List.getD_eq_getElem?_getD, List.getElem?_replicate]
  by_cases h : k < n
  · rw [if_pos h]
    rfl
  · rw [if_neg h]
    rfl
/-! ### the way along the causes -/
def cs (c : List (Option Rw)) (k : Nat) : Rw := (cz c k).getD (0, 0, 0)
def nxc (c : List (Option Rw)) (k : Nat) : Nat := (cs c k).2.1
def itc (c : List (Option Rw)) (k : Nat) : Nat → Nat
  | 0 => k
  | p + 1 => nxc c (itc c k p)
def ringL (c : List (Option Rw)) (k p : Nat) : List Rw := (List.range p).map fun i => cs c (itc c k i)
theorem itc_add (c : List (Option Rw)) (k p : Nat) : ∀ q, itc c (itc c k p) q = itc c k (p + q)
  | 0 => rfl
  | q + 1 => by
    show nxc c (itc c (itc c k p) q) = nxc c (itc c k (p + q))
    rw [itc_add c k p q]
theorem itc_front (c : List (Option Rw)) (k q : Nat) : itc c (nxc c k) q = itc c k (q + 1) := by
  have := itc_add c k 1 q
  rw [show itc c k 1 = nxc c k from rfl] at this
  rw [this, Nat.add_comm]
/-- the causes lead on for ever, and back -/
structure Cyc (n : Nat) (c : List (Option Rw)) (k p : Nat) : Prop where
  pos : 1 ≤ p
  back : itc c k p = k
  some : ∀ q, ∃ r, cz c (itc c k q) = some r
  le : ∀ q, itc c k q ≤ n
  sm : p ≤ n + 1
theorem pigeon : ∀ (n : Nat) (v : Nat → Nat), (∀ i, i ≤ n + 1 → v i ≤ n) → ∃ a b, a < b ∧ b ≤ n + 1 ∧ v a = v b := by
  intro n
  induction n with
  | zero =>
    intro v h
    refine ⟨0, 1, by omega, by omega, ?_⟩
    have h0 := h 0 (by omega)
    have h1 := h 1 (by omega)
    omega
  | succ n ih =>
    intro v h
    by_cases e : ∃ a, a ≤ n + 1 ∧ v a = v (n + 2)
    · obtain ⟨a, h1, h2⟩ := e
      exact ⟨a, n + 2, by omega, by omega, h2⟩
    · -- the last value is taken once: close the gap
      have hne : ∀ a, a ≤ n + 1 → v a ≠ v (n + 2) := fun a h1 h2 => e ⟨a, h1, h2⟩
      have hl := h (n + 2) (by omega)
      obtain ⟨a, b, h1, h2, h3⟩ := ih (fun i => if v i < v (n + 2) then v i else v i - 1) (fun i hi => by
        have h4 := h i (by omega)
        have h5 := hne i hi
        by_cases hlt : v i < v (n + 2)
        · show (if v i < v (n + 2) then v i else v i - 1) ≤ n
          rw [if_pos hlt]
          omega
        · show (if v i < v (n + 2) then v i else v i - 1) ≤ n
          rw [if_neg hlt]
          omega)
      refine ⟨a, b, h1, by omega, ?_⟩
      have h3 : (if v a < v (n + 2) then v a else v a - 1) = (if v b < v (n + 2) then v b else v b - 1) := h3
      have ha := hne a (by omega)
      have hb := hne b (by omega)
      by_cases p1 : v a < v (n + 2)
      · by_cases p2 : v b < v (n + 2)
        · rw [if_pos p1, if_pos p2] at h3
          exact h3
        · rw [if_pos p1, if_neg p2] at h3
          omega
      · by_cases p2 : v b < v (n + 2)
        · rw [if_neg p1, if_pos p2] at h3
          omega
        · rw [if_neg p1, if_neg p2] at h3
          omega
theorem cyc_of {ws : List Rw} {n k : Nat} {prev : Nat → Int} {m : List Int} {c : List (Option Rw)} {tt : Nat → Nat} (hws : RwIn n ws) (C : Caus ws m c) (R : Rank ws (n + 1) prev m c tt) (hk : k ≤ n) (ht : tt k = n + 1) :
    (∀ q, q ≤ n → (∃ r, cz c (itc c k q) = some r) ∧ itc c k q ≤ n) ∧ itc c k (n + 1) ≤ n ∧ ∃ p, Cyc n c (itc c k (n + 1)) p := by
  have chain : ∀ q, q ≤ n + 1 → itc c k q ≤ n ∧ n + 1 - q ≤ tt (itc c k q) := by
    intro q
    induction q with
    | zero => exact fun _ => ⟨hk, by rw [show itc c k 0 = k from rfl, ht]; exact Nat.le_refl _⟩
    | succ q ih =>
      intro hq
      obtain ⟨h1, h2⟩ := ih (by omega)
      obtain ⟨r, h3, h4⟩ := R.has (itc c k q) (by omega)
      obtain ⟨h5, h6, h7⟩ := C.own _ _ h3
      have e : itc c k (q + 1) = r.2.1 := by
        show (cs c (itc c k q)).2.1 = _
        unfold cs
        rw [h3]
        rfl
      rw [e]
      exact ⟨(hws r h6).2, by omega⟩
  have has : ∀ q, q ≤ n → ∃ r, cz c (itc c k q) = some r := fun q hq => by
    obtain ⟨h1, h2⟩ := chain q (by omega)
    obtain ⟨r, h3, _⟩ := R.has (itc c k q) (by omega)
    exact ⟨r, h3⟩
  refine ⟨fun q hq => ⟨has q hq, (chain q (by omega)).1⟩, (chain (n + 1) (Nat.le_refl _)).1, ?_⟩
  obtain ⟨a, b, h1, h2, h3⟩ := pigeon n (itc c k) fun i hi => (chain i hi).1
  have per : ∀ q, itc c k (a + q) = itc c k (b + q) := fun q => by rw [← itc_add, ← itc_add, h3]
  -- the place after all the steps is one that was there before
  have hc : itc c k (n + 1) = itc c k (a + (n + 1 - b)) := by
    rw [per, show b + (n + 1 - b) = n + 1 by omega]
  -- every place from a on is one from a to b
  have fold : ∀ q, ∃ q', a ≤ q' ∧ q' < b ∧ itc c k (a + q) = itc c k q' := by
    intro q
    induction q using Nat.strongRecOn with
    | _ q ih =>
      by_cases hq : a + q < b
      · exact ⟨a + q, by omega, hq, rfl⟩
      · obtain ⟨q', h4, h5, h6⟩ := ih (a + q - b) (by omega)
        refine ⟨q', h4, h5, ?_⟩
        have h7 := per (a + q - b)
        rw [show b + (a + q - b) = a + q by omega] at h7
        rw [← h6, h7]
  refine ⟨b - a, by omega, ?_, fun q => ?_, fun q => ?_, by omega⟩
  · rw [itc_add, show n + 1 + (b - a) = b + (n + 1 - a) by omega, ← per, show a + (n + 1 - a) = n + 1 by omega]
  · rw [hc, itc_add, show a + (n + 1 - b) + q = a + (n + 1 - b + q) by omega]
    obtain ⟨q', h4, h5, h6⟩ := fold (n + 1 - b + q)
    rw [h6]
    exact has q' (by omega)
  · rw [hc, itc_add, show a + (n + 1 - b) + q = a + (n + 1 - b + q) by omega]
    obtain ⟨q', h4, h5, h6⟩ := fold (n + 1 - b + q)
    rw [h6]
    exact (chain q' (by omega)).1
theorem cs_of {c : List (Option Rw)} {k : Nat} {r : Rw} (h : cz c k = some r) : cs c k = r := by
  unfold cs
  rw [h]
  rfl
theorem path_ring {c : List (Option Rw)} : ∀ {p k : Nat}, (∀ q, q < p → ∃ r, cz c (itc c k q) = some r) → Path c k (itc c k p) p ((ringL c k p).map (·.2.2)).sum
  | 0, k, _ => .nil k
  | p + 1, k, h => by
    obtain ⟨r, hr⟩ := h 0 (by omega)
    have e1 : ringL c k (p + 1) = cs c k :: ringL c (nxc c k) p := by
      unfold ringL
      rw [List.range_succ_eq_map, List.map_cons, List.map_map]
      congr 1
      exact List.map_congr_left fun i _ => by
        show cs c (itc c k (i + 1)) = _
        rw [itc_front]
    have hr' : cz c k = some r := hr
    have e2 : nxc c k = r.2.1 := by
      unfold nxc
      rw [cs_of hr']
    have ih := path_ring (c := c) (p := p) (k := nxc c k) fun q hq => by
      rw [itc_front]
      exact h (q + 1) (by omega)
    rw [e1, List.map_cons, List.sum_cons, cs_of hr', ← itc_front]
    rw [e2] at ih ⊢
    exact .cons hr' ih
/-! ### rings -/
def knownB (rs : List Rw) (r : Rw) : Bool := decide (r ∈ rs) || (decide (r.2.1 = 0) && decide (r.2.2 = 0))
def behindL (ring : List Rw) : List Rw := ring.drop 1 ++ ring.take 1
def linkB (ring : List Rw) : Bool := (ring.zip (behindL ring)).all fun p => decide (p.1.2.1 = p.2.1)
def sumL (ring : List Rw) : Int := (ring.map (·.2.2)).sum
def ringB (rs ring : List Rw) : Bool := !ring.isEmpty && (linkB ring && (ring.all (knownB rs) && decide (0 < sumL ring)))
theorem behind_len (ring : List Rw) : (behindL ring).length = ring.length := by
  unfold behindL
  rw [List.length_append, List.length_drop, List.length_take]
  omega
theorem behind_get {ring : List Rw} {i : Nat} (h : i < ring.length) : (behindL ring)[i]? = ring[(i + 1) % ring.length]? := by
  unfold behindL
  by_cases e : i + 1 < ring.length
  · rw [List.getElem?_append_left (by rw [List.length_drop]; omega), List.getElem?_drop, Nat.mod_eq_of_lt e, Nat.add_comm]
  · have e2 : i + 1 = ring.length := by omega
    rw [List.getElem?_append_right (by rw [List.length_drop]; omega), List.length_drop, e2, Nat.mod_self, show i - (ring.length - 1) = 0 by omega, List.getElem?_take_of_lt (by omega)]
theorem link_iff {ring : List Rw} : linkB ring = true ↔ ∀ i r s, ring[i]? = some r → ring[(i + 1) % ring.length]? = some s → r.2.1 = s.1 := by
  unfold linkB
  rw [List.all_eq_true]
  constructor
  · intro h i r s hr hs
    have hi : i < ring.length := (List.getElem?_eq_some_iff.mp hr).1
    have hz : (ring.zip (behindL ring))[i]? = some (r, s) := by
      rw [List.getElem?_zip_eq_some]
      exact ⟨hr, by rw [behind_get hi]; exact hs⟩
    exact of_decide_eq_true (h (r, s) (List.mem_of_getElem? hz))
  · intro h x hx
    obtain ⟨i, hi⟩ := List.mem_iff_getElem?.mp hx
    rw [show x = (x.1, x.2) from rfl, List.getElem?_zip_eq_some] at hi
    obtain ⟨h1, h2⟩ := hi
    have hl : i < ring.length := (List.getElem?_eq_some_iff.mp h1).1
    rw [behind_get hl] at h2
    exact decide_eq_true (h i _ _ h1 h2)
theorem ringL_len (c : List (Option Rw)) (k p : Nat) : (ringL c k p).length = p := by
  unfold ringL
  rw [List.length_map, List.length_range]
theorem ringL_get {c : List (Option Rw)} {k p i : Nat} (h : i < p) : (ringL c k p)[i]? = some (cs c (itc c k i)) := by
  unfold ringL
  rw [List.getElem?_map, List.getElem?_range h]
  rfl
theorem ringL_snoc (c : List (Option Rw)) (k p : Nat) : ringL c k (p + 1) = ringL c k p ++ [cs c (itc c k p)] := by
  unfold ringL
  rw [List.range_succ, List.map_append]
  rfl
theorem ringL_rot {c : List (Option Rw)} {k p b : Nat} (hb : b ≤ p) (hp : itc c k p = k) : (ringL c k p).drop b ++ (ringL c k p).take b = ringL c (itc c k b) p := by
  refine List.ext_getElem? fun i => ?_
  by_cases h : i < p
  · rw [ringL_get h, itc_add]
    by_cases h2 : i < p - b
    · rw [List.getElem?_append_left (by rw [List.length_drop, ringL_len]; exact h2), List.getElem?_drop, ringL_get (by omega)]
    · rw [List.getElem?_append_right (by rw [List.length_drop, ringL_len]; omega), List.length_drop, ringL_len, List.getElem?_take_of_lt (by omega), ringL_get (by omega)]
      have e : itc c k (b + i) = itc c (itc c k p) (i - (p - b)) := by
        rw [itc_add, show p + (i - (p - b)) = b + i by omega]
      rw [e, hp]
  · rw [List.getElem?_eq_none (by rw [List.length_append, List.length_drop, List.length_take, ringL_len]; omega), List.getElem?_eq_none (by rw [ringL_len]; omega)]
theorem Cyc.rot {n : Nat} {c : List (Option Rw)} {k p b : Nat} (h : Cyc n c k p) : Cyc n c (itc c k b) p := by
  refine ⟨h.pos, ?_, fun q => ?_, fun q => ?_, h.sm⟩
  · rw [itc_add, Nat.add_comm, ← itc_add, h.back]
  · rw [itc_add]
    exact h.some _
  · rw [itc_add]
    exact h.le _
theorem known_all {rs : List Rw} {n : Nat} {r : Rw} (h : r ∈ allRows rs n) : knownB rs r = true := by
  unfold knownB
  rcases List.mem_append.mp h with h | h
  · rw [decide_eq_true h]
    rfl
  · obtain ⟨k, _, rfl⟩ := List.mem_map.mp h
    rw [decide_eq_true (show ((k, 0, 0) : Rw).2.1 = 0 from rfl), decide_eq_true (show ((k, 0, 0) : Rw).2.2 = 0 from rfl), Bool.and_self, Bool.or_true]
theorem ring_ok {rs : List Rw} {n m' : Nat} {m : List Int} {c : List (Option Rw)} {k p : Nat} (C : Caus (allRows rs n) m c) (h : Cyc m' c k p) : ringB rs (ringL c k p) = true := by
  have one : ∀ q, ∃ r, cz c (itc c k q) = some r ∧ cs c (itc c k q) = r ∧ r.1 = itc c k q ∧ r ∈ allRows rs n ∧ r.2.1 = itc c k (q + 1) := fun q => by
    obtain ⟨r, hr⟩ := h.some q
    obtain ⟨h1, h2, _⟩ := C.own _ _ hr
    refine ⟨r, hr, cs_of hr, h1, h2, ?_⟩
    show _ = (cs c (itc c k q)).2.1
    rw [cs_of hr]
  have hp := h.pos
  unfold ringB
  rw [show (!(ringL c k p).isEmpty) = true by
    cases e : ringL c k p with
    | nil =>
      have := ringL_len c k p
      rw [e] at this
      simp at this
      omega
    | cons a b => rfl]
  rw [show linkB (ringL c k p) = true by
    rw [link_iff]
    intro i r s hr hs
    have hi : i < p := by
      have := (List.getElem?_eq_some_iff.mp hr).1
      rw [ringL_len] at this
      exact this
    rw [ringL_get hi] at hr
    injection hr with hr
    rw [ringL_len, ringL_get (Nat.mod_lt _ (by omega))] at hs
    injection hs with hs
    obtain ⟨r1, _, e1, _, _, e2⟩ := one i
    rw [← hr, ← hs, e1, e2]
    obtain ⟨r2, _, e3, e4, _, _⟩ := one ((i + 1) % p)
    rw [e3, e4]
    by_cases hl : i + 1 < p
    · rw [Nat.mod_eq_of_lt hl]
    · have e5 : i + 1 = p := by omega
      rw [e5, Nat.mod_self, h.back]
      rfl]
  rw [show (ringL c k p).all (knownB rs) = true by
    rw [List.all_eq_true]
    intro r hr
    obtain ⟨i, hi, rfl⟩ := List.mem_map.mp hr
    obtain ⟨r1, _, e1, _, e2, _⟩ := one i
    rw [e1]
    exact known_all e2]
  rw [show decide (0 < sumL (ringL c k p)) = true by
    obtain ⟨p', rfl⟩ : ∃ p', p = p' + 1 := ⟨p - 1, by omega⟩
    have h1 := path_ring (c := c) (p := p' + 1) (k := k) fun q _ => h.some q
    rw [h.back] at h1
    exact decide_eq_true (C.pos _ _ _ h1)]
  rfl
/-- what the search tells of a ring -/
theorem settle_ring {rs : List Rw} {n k : Nat} (hn : RwIn n rs) (hk : (settleF (allRows rs n) (n + 1) (SS.zero n)).r = some k) :
    Caus (allRows rs n) (settleF (allRows rs n) (n + 1) (SS.zero n)).m (settleF (allRows rs n) (n + 1) (SS.zero n)).c ∧
    (∀ q, q ≤ n → (∃ r, cz (settleF (allRows rs n) (n + 1) (SS.zero n)).c (itc (settleF (allRows rs n) (n + 1) (SS.zero n)).c k q) = some r) ∧ itc (settleF (allRows rs n) (n + 1) (SS.zero n)).c k q ≤ n) ∧
    ∃ p, Cyc n (settleF (allRows rs n) (n + 1) (SS.zero n)).c (itc (settleF (allRows rs n) (n + 1) (SS.zero n)).c k (n + 1)) p := by
  obtain ⟨prev, tt, C, R, ht⟩ := settle_cause hn (n + 1) 0 (SS.zero n) (fun _ => 0) (fun _ => 0) (by omega) (by omega) List.length_replicate List.length_replicate
    ⟨(fun k r h => by
      rw [show cz (SS.zero n).c k = none from cz_nones _ _] at h
      cases h), (fun k p L h => by
      cases h with
      | cons h1 _ =>
        rw [show cz (SS.zero n).c k = none from cz_nones _ _] at h1
        cases h1)⟩
    ⟨fun _ => Nat.le_refl _, fun k h => by omega, fun k h => by omega, fun h => by omega⟩ k hk
  obtain ⟨_, _, _, h4⟩ := settle_ok hn
  obtain ⟨h1, h2, h3⟩ := cyc_of (allRows_in hn) C R (h4 k hk).1 ht
  exact ⟨C, h1, h3⟩

open PySem PySem.Spec PyProof.Rows L2
/-! ### the least of a list of data: one of its elements -/
theorem vals_at : ∀ {xs : List V} {us : List Value} {i : Nat} {u : Value}, Vals xs us → us[i]? = some u → ∃ x, xs[i]? = some x ∧ RelV x u
  | _, _, _, _, .nil, h => by simp at h
  | _, _, 0, _, .cons r _, h => by
    have h := Option.some.inj h
    exact ⟨_, rfl, h ▸ r⟩
  | _, _, i + 1, _, .cons _ t, h => by
    obtain ⟨x, h1, h2⟩ := vals_at (i := i) t (by simpa using h)
    exact ⟨x, by simpa using h1, h2⟩
def rMinA (K : PySem.W.Frag) : List V → Hp → VK → Prop := fun vs H Q => ∃ (a : Addr) (xs : List V) (ds : List PyData), vs = [.ref a] ∧ SqL K H a xs ∧ DpAll K H xs ds ∧ ds ≠ [] ∧ PySem.W.AlikeAll ds ∧ PyData.depthAll ds ≤ 60 ∧ ∀ (i : Nat) (y : V), xs[i]? = some y → Q y H
theorem call_minA {X : Cx} (K : PySem.W.Frag) (hK : X.K = K) (hc : X.calm = true) (hu : X.A.units + 64 < cLine) : CallR X (.builtin "min") (rMinA K) := by
  subst hK
  intro pins s σ H vs us Q I r h
  obtain ⟨a, xs, ds, rfl, hs, hd, hne, hal, hdep, q⟩ := h
  cases r with
  | cons r t =>
    cases t
    cases r
    obtain ⟨its, rv, hl, hz⟩ := I.list hs
    obtain ⟨as, hr⟩ := Dp.readsAll I ds xs its hd rv
    cases ds with
    | nil => exact absurd rfl hne
    | cons d ds =>
      refine PySem.W.min_list_data (I.ok.hd hc) hl.isList hr hal (by omega) fun i v h' tk bs hv hrd hk => ?_
      obtain ⟨y, hy, ry⟩ := vals_at rv (show its[i]? = some v by simpa using hv)
      exact ⟨y, H, I.kept (t' := tk) hk, ry, q i y hy⟩
theorem call_sumU {X : Cx} (K : PySem.W.Frag) (hK : X.K = K) (hc : X.calm = true) : CallR X (.builtin "sum") (rSum K) := by
  subst hK
  exact cr_sum hc
theorem mt_indexU {X : Cx} (K : PySem.W.Frag) (hK : X.K = K) (hu : X.A.units + 65 < cLine) : MtR X "list.index" (rIndexD K) := by
  subst hK
  exact mt_indexD hu
def tTru (K : PySem.W.Frag) (ta : TE) : TT := fun σ H Q => ta σ H fun x H' => ∃ k, TruV K x H' k ∧ Q k H'
theorem pt_truU {X : Cx} (K : PySem.W.Frag) (hK : X.K = K) {e : Expr} {t : TE} (h : PE X e t) (he : ∀ whole, isTrue e X.env whole = (do let v ← whole; standAt e.pos; holding [v] (truthy v)) := by intro _; rfl) : PT X e (tTru K t) := by
  subst hK
  exact pt_truth h he
theorem pi_zipU {X : Cx} (K : PySem.W.Frag) (hK : X.K = K) {e e2 : Expr} {ta : TA} {p pos tpos : Pos} {elts : List Expr} {kk : Nat} (hg : Gl X "zip") (hm : X.mg "zip" = none) (ha : PA X [e, e2] ta)
    (h1 : starEach [e, e2] X.env = (false, eval e X.env) :: starEach [e2] X.env := by rfl) (h2 : (backTo pos (starEach [e2] X.env)).any (·.1) = false := by rfl) : PI X (.Tuple elts kk tpos) (.Call (.Name "zip" p) [e, e2] [] pos) (iZip K ta) := by
  subst hK
  exact pi_zip hg hm ha h1 h2
section
variable {K : PySem.W.Frag} {σ : L2.St} {H : Hp} {Q : VK} {te : TE}
theorem rd_tru {Q : Bool → Hp → Prop} (q : te σ H fun x H' => ∃ k, TruV K x H' k ∧ Q k H') : tTru K te σ H Q := q
theorem rd_truL {a : Addr} {xs : List V} {Q : Bool → Prop} (h : SqL K H a xs) (q : Q (!xs.isEmpty)) : ∃ k, TruV K (.ref a) H k ∧ Q k := ⟨_, .inl ⟨xs, h, rfl⟩, q⟩
theorem rd_while {c : TT} {tb : TS} {nx bk ct : L2.St → Hp → Prop} {rt : VK} (W : Nat → L2.St → Hp → Prop) {m0 : Nat} (h0 : W m0 σ H) (hs : ∀ m σ H, W m σ H → c σ H fun b H1 => if b = true then ∃ N : L2.St → Hp → Prop, (∀ σ' H', N σ' H' → ∃ m', m' < m ∧ W m' σ' H') ∧ tb ⟨N, rt, nx, N⟩ σ H1 else nx σ H1) : tWhile c tb ⟨nx, rt, bk, ct⟩ σ H := ⟨W, ⟨m0, h0⟩, hs⟩
theorem rd_zip {ta : TA} {R : It → Hp → Prop} (q : ta σ H fun vs H1 => ∃ a b xs ys, vs = [V.ref a, V.ref b] ∧ SqL K H1 a xs ∧ SqL K H1 b ys ∧ R (Itz K a b) H1) : iZip K ta σ H R := q
theorem rd_sum {a : Addr} {ns : List Int} (h : SqL K H a (ns.map V.int)) (q : Q (.int ns.sum) H) : rSum K [.ref a] H Q := ⟨a, ns, rfl, h, q⟩
theorem rd_aug {D : Ends} {i : Nat} {ti : TIp} {v : V} (h : σ[i]? = some (some v)) (q : te σ H fun y H1 => ti v y H1 fun z H2 => D.nx (σ.set i (some z)) H2) : tAug i te ti D σ H := ⟨v, h, q⟩
theorem rd_ipadd {i j : Int} (q : Q (.int (i + j)) H) : ipI (fun i j => i + j) (.int i) (.int j) H Q := ⟨i, j, rfl, rfl, q⟩
end
/-- over two lists of one length -/
theorem lcg_zipF (T : List (Addr × Str)) {K : PySem.W.Frag} {σ : L2.St} {H : Hp} {Q : VK} {g : TG} {te : TE} {vs : List Nat} {a b : Addr} {xs ys : List V} (h1 : SqL K H a xs) (h2 : SqL K H b ys) (hl : xs.length = ys.length) (hs : xs.length < sizeLine) (f : Nat → V)
    (step : ∀ (i : Nat) (x y : V) (t : Addr), xs[i]? = some x → ys[i]? = some y → ∀ H', Ext T [] H H' → H' t = some (.tup [x, y]) → ∀ R : VK, (∀ H2, Ext T [] H' H2 → R (f i) H2) → g (.ref t) (wipe σ vs) H' fun σ2 H2 => wipe σ2 vs = wipe σ vs ∧ tYes σ2 H2 fun b H3 => if b = true then te σ2 H3 R else True)
    (q : ∀ D H2, Nw H D → Ext T [] H H2 → H2 D = some (.lst ((List.range xs.length).map f)) → Q (.ref D) H2) : LcG (Itz K a b) g tYes te vs σ H Q := fun D hD => by
  refine lc_it (walk_zip (n := xs.length) (by rw [← hl, Nat.min_self]) (xs := xs) (ys := ys)) (fun i H2 => Ext T [] H H2 ∧ H2 D = some (.lst ((List.range i).map f))) ⟨.new hD, upd_same⟩ (fun i H2 _ h => ⟨h.1.seqL (by simp) h1, h.1.seqL (by simp) h2⟩) (fun i x H1 H' hi h y => ?_) (fun H1 h => ?_)
  · obtain ⟨t, u, v, rfl, nt, rfl, hu, hv⟩ := y
    obtain ⟨e1, e2⟩ := h
    obtain ⟨nt2, e3, ht⟩ := alT (T := T) nt [u, v]
    generalize upd H1 t _ = H' at e3 ht ⊢
    have h3 := step i u v t hu hv H' (e1.trans e3) ht
    have hD2 := lst.x e2 e3
    have h4 := h3 (fun y H4 => ∃ acc, H4 D = some (.lst acc) ∧ acc.length < sizeLine ∧ (Ext T [] H (upd H4 D (.lst (acc ++ [y]))) ∧ (upd H4 D (.lst (acc ++ [y]))) D = some (.lst ((List.range (i + 1)).map f)))) (fun H2 e4 => by
      have hD3 := lst.x hD2 e4
      refine ⟨_, hD3, ?_, ((e1.trans e3).trans e4).own (.of hD) hD3, ?_⟩
      · rw [List.length_map, List.length_range]
        omega
      · rw [upd_same, List.range_succ, List.map_append]
        rfl)
    exact h4
  · exact q D H1 (.of hD) h.1 h.2

section
open PySem PySem.Spec PyProof.Rows L2
/-! ### the pairs of a dict whose keys are tuples, just made -/
section
variable {X : Cx} {pins : List (Addr × Obj)} {σ : L2.St} {H : Hp} {s : Shared} {d : Addr} {o : Obj}
theorem frzT2 {kvs : List (List L2.Key × V)} (I : Inv X pins σ H s) (h : H d = some (.frz o (.dT kvs))) :
    (d == sysModules) = false ∧ s.heap.get? d = some o ∧ o.ExactDict ∧ ∃ (es : Array DictEntry) (ep : Nat), o.data = .dict es ep ∧ es.size = kvs.length ∧
      ∀ (i : Nat) (k : List L2.Key) (v : V), kvs[i]? = some (k, v) → ∃ (en : DictEntry) (q : Addr), es[i]? = some en ∧ en.key = .ref q ∧ H q = some (.tup (k.map kV)) ∧ RelV v en.val := by
  obtain ⟨hd, z, hs, xs, pr, o', es, ep, ho, hx, hdt, he, _⟩ := I.hok d _ h
  rw [hd] at ho
  cases ho
  refine ⟨hs, hd, hx, es, ep, hdt, ?_, fun i k v e => ?_⟩
  · have l1 : es.size = xs.length := size_of_entries he
    have l2 : kvs.length = xs.length := Paired.length pr
    omega
  · obtain ⟨b, hb, e1, e2, e3⟩ := paired_get pr e
    have q := entry_at he i
    rw [hb] at q
    exact ⟨_, b.2.1, q, rfl, e2, e3⟩
end
/-- the pairs, each a new tuple of the key's own tuple and the value -/
def ItiT (d : Addr) (o : Obj) (kvs : List (List L2.Key × V)) : It :=
  ⟨fun i H => H d = some (.frz o (.dT kvs)) ∧ i < kvs.length, fun i H x H' => ∃ (T : Addr) (k : List L2.Key) (v : V) (q : Addr), kvs[i]? = some (k, v) ∧ H q = some (.tup (k.map kV)) ∧ x = .ref T ∧ H T = none ∧ H' = upd H T (.tup [.ref q, v]), fun i H => H d = some (.frz o (.dT kvs)) ∧ kvs.length ≤ i⟩
section
variable {P : Program} {w : World} {K : PySem.W.Frag} {tg : Expr} {d : Addr} {o : Obj} {es : Array DictEntry} {ep : Nat}
theorem turn_itemsT {kvs : List (List L2.Key × V)} {elts : List Expr} {kk : Nat} {tpos : Pos} (it : Addr) (hod : o.data = .dict es ep) :
    Turn P w K (.Tuple elts kk tpos) (ItiT d o kvs) [it] it (fun i h => ∃ ok ov, IsItemIter h it d i kvs.length ep ok ov) where
  mem := by simp
  obj := fun i h st b hb => by
    have e : b = it := by simpa using hb
    subst e
    obtain ⟨ok, ov, e⟩ := st
    exact ⟨_, e, fun v z => nomatch z⟩
  keep := fun i h h' st k => let ⟨ok, ov, e⟩ := st; ⟨ok, ov, k it (by simp) _ e⟩
  item := by
    intro X hP hw hK hc i pins s σ H E I hf st hg
    subst hP hw hK
    obtain ⟨hd, hi⟩ := hg
    obtain ⟨hs, hgd, hx, es', ep', hdt, hsz, ent⟩ := frzT2 I hd
    obtain ⟨rfl, rfl⟩ := dict_ep hod hdt
    obtain ⟨⟨k, v⟩, hkv⟩ : ∃ p, kvs[i]? = some p := ⟨kvs[i], List.getElem?_eq_getElem hi⟩
    obtain ⟨en, q, hen, hkey, hq, hval⟩ := ent i k v hkv
    obtain ⟨ok, ov, he⟩ := st
    rw [← hsz] at he
    have hlt : it < s.heap.objs.size := Heap.lt_size he
    have hi' : i < es'.size := by omega
    have hen' : es'[i] = en := by
      rw [Array.getElem?_eq_getElem hi'] at hen
      exact Option.some.inj hen
    refine DT.nextI he ⟨_, hgd, hx, hdt⟩ hi' fun h' ho hT hz hk => ?_
    rw [hen'] at ho hT
    refine ⟨_, rfl, wpAny_letOwnedTupleGo_items (s := { s with heap := h' }) ho fun h'' he' sb => ?_⟩
    have hT2 : h''.get? s.heap.objs.size = some { cls := .type "tuple", data := .seq #[en.key, en.val] } := (sb.2 _ (Nat.ne_of_gt hlt)).trans hT
    have new : ObjOk X.prog X.w (upd H s.heap.objs.size (.tup [.ref q, v])) h'' s.heap.objs.size (.tup [.ref q, v]) :=
      ⟨by show 2 ≤ sizeLine; decide, [en.key, en.val], .cons (by rw [hkey]; rfl) (.cons hval .nil), ⟨_, hT2, rfl, _, rfl⟩⟩
    have I1 : Inv X pins σ (upd H s.heap.objs.size (.tup [.ref q, v])) { s with heap := h'' } :=
      I.turnedNew (t' := s.toks) (ch := [it]) (fun b ob hb e => (sb.2 b (by simpa using hb)).trans (hk b ob (by simpa using hb) e)) hf (Nat.le_refl _) new
    refine ⟨.ref s.heap.objs.size, _, I1, rfl, ⟨_, k, v, q, hkv, hq, rfl, I.hok.fresh (Nat.le_refl _), rfl⟩, ⟨en.key, en.val, ?_⟩, fun b hb => ?_⟩
    · rw [← hsz]; exact he'
    · have e : b = it := by simpa using hb
      rw [e, upd_ne (Nat.ne_of_lt hlt)]
      exact (hf it (by simp)).1
  done := by
    intro X hP hw hK hc i pins s σ H E I hf st hg
    subst hP hw hK
    obtain ⟨hd, hi⟩ := hg
    obtain ⟨f0, f1, f2, f3, f4, f5⟩ := hf it (by simp)
    obtain ⟨hs, hgd, hx, es', ep', hdt, hsz, ent⟩ := frzT2 I hd
    obtain ⟨rfl, rfl⟩ := dict_ep hod hdt
    obtain ⟨ok, ov, he⟩ := st
    rw [← hsz] at he
    exact DT.endI (I.ok.hd hc) he ⟨_, hgd, hx, hdt⟩ (by omega) fun h' eb => ⟨rfl, I.turned (t' := s.toks) (fun b ob hb e => eb b ob hb e) f0 f1 f3 f4 f5⟩
  self := fun A i s Q E st h => let ⟨_, _, e⟩ := st; PySem.W.kcp_self e h
end
theorem walk_itemsT {d : Addr} {o : Obj} {kvs : List (List L2.Key × V)} : Walk (ItiT d o kvs) kvs.length (fun H => H d = some (.frz o (.dT kvs))) (fun i H x H' => ∃ (T : Addr) (k : List L2.Key) (v : V) (q : Addr), kvs[i]? = some (k, v) ∧ H q = some (.tup (k.map kV)) ∧ x = .ref T ∧ H T = none ∧ H' = upd H T (.tup [.ref q, v])) :=
  ⟨fun _ _ hi q => ⟨q, hi⟩, fun _ q => ⟨q, Nat.le_refl _⟩, fun _ _ _ _ _ _ y => y⟩
def iItemsT (td : TE) : TI := fun σ H R => td σ H fun x H1 => ∃ (d : Addr) (kvs : List (List L2.Key × V)), x = .ref d ∧ H1 d = some (.dT kvs) ∧ ∀ o, R (ItiT d o kvs) (upd H1 d (.frz o (.dT kvs)))
theorem pi_itemsT {X : Cx} {e : Expr} {td : TE} {apos cpos : Pos} {elts : List Expr} {kk : Nat} {tpos : Pos} (he : PE X e td) (hbase : attributeBase e "items" X.env (eval e X.env) = eval e X.env := by rfl) (hline : (apos.endLine == cpos.line) = true := by rfl) :
    PI X (.Tuple elts kk tpos) (.Call (.Attribute e "items" apos) [] [] cpos) (iItemsT td) := by
  refine ⟨fun pins s σ H R I h => ?_⟩
  refine wpAny_Call_method (T := "dict") (id := "dict.items") hbase rfl hline F.plainAttrs_dict F.slot_dict_items F.type_dict_items (thn (he.run pins s σ H _ I h) fun u s1 ⟨x, H1, I1, rx, d, kvs, ex, hd, q⟩ => ?_)
  subst ex
  obtain rfl : u = Value.ref d := rx
  obtain ⟨od, I0⟩ := I1.lock hd trivial
  have q := q od
  have hd' : (upd H1 d (.frz od (.dT kvs))) d = some (.frz od (.dT kvs)) := upd_same
  generalize upd H1 d (.frz od (.dT kvs)) = H2 at I0 q hd'
  obtain ⟨hs, hgd, hx, es, ep, hdt, hsz, ent⟩ := frzT2 I0 hd'
  have hm : DT.Raw s1.heap d es ep := ⟨_, hgd, hx, hdt⟩
  refine ⟨hm.typeIs, fun a e => by cases e; exact ⟨_, hgd, hx.2.1⟩, ?_⟩
  have I2 : Inv X pins σ H2 { s1 with heap := s1.heap.push { cls := .type "dict_items", data := .fields #[.ref d] } } := I0.kept (t' := s1.toks) fun b ob q => Heap.get?_push_of_some _ q
  have fin : wpAny (model X.prog X.w) X.A (pyIter (.ref s1.heap.objs.size)) (PIE X pins σ (.Tuple elts kk tpos) R) X.xe { s1 with heap := s1.heap.push { cls := .type "dict_items", data := .fields #[.ref d] } } := by
    refine DT.iterI (d := d) ⟨_, Heap.get?_push_size _ rfl, rfl, rfl⟩ (hm.push _) (pi_one (tk := s1.toks) I2 _ (turn_itemsT _ hdt) ⟨.none, .none, ?_⟩ q)
    rw [← hsz]
    exact Heap.get?_push_size _ rfl
  show wpAny _ _ (callWith cpos (.builtin "dict.items") [.ref d] [] []) _ X.xe s1
  exact method_meetsIn F.slot_dict_items F.entry_dict_items rfl (PySem.evalArgs_none ⟨rfl, hm.typeIs, F.args_dict_items_1 _, _, DT.meetsItems (es := es) (ep := ep) hs, ⟨hm, fin⟩⟩)
end
/-! ### a slice that is the whole tuple: the tuple itself -/
namespace HTW
open PySem PySem.W PySem.Calls PyProof.Rows HT
section
variable {prog : Program} {w : World} {A : Around} {E : Value → Shared → Prop} {s : Shared}
theorem tupleIsExact_ {t : Addr} {items : Array Value} {Q : Bool → Shared → Prop} (ht : IsTup s.heap t items) (h : Q true s) : wpAny (model prog w) A (Builtin.Tuple.tupleIsExact (.ref t)) Q E s := by
  obtain ⟨o, ho, hc, n, hd⟩ := id ht
  unfold Builtin.Tuple.tupleIsExact
  refine wpAny_bind (wpAny_typeOf ht.typeIs ?_)
  exact wpAny_pure h
theorem getItem_tuple_whole {t sl : Addr} {items : Array Value} {vl vu : Value} {lo hi : Option Int} {Q : Value → Shared → Prop} (ht : IsTup s.heap t items) (hs : s.heap.IsSliceOf sl vl vu .none) (pl : IsPart vl lo) (pu : IsPart vu hi)
    (hw : sIx items.size 0 lo = 0 ∧ sIx items.size items.size hi = items.size)
    (h : Q (.ref t) s) : wpAny (model prog w) A (getItem (.ref t) (.ref sl)) Q E s := by
  obtain ⟨os, hos, hcs, hds⟩ := id hs
  have hTs : s.TypeIs (.ref sl) "slice" := ⟨os, hos, hcs⟩
  unfold getItem
  try with_reducible refine wpAny_holding ?_
  first | refine wpAny_bind (wpAny_pure ?_) | skip
  refine wpAny_bind (wpAny_sequenceKey ht.typeIs (by decide) ?_)
  refine wpAny_bind (wpAny_callSpecial?_slot (name := Str.ofString "__getitem__") ht.typeIs PyProof.Rows.slot_tuple_getitem
    (wpAny_call_entry PyProof.Rows.slot_tuple_getitem ht.typeIs entry_tuple_getitem ?_ (args_tuple_getitem _ _)))
  show wpAny _ _ (Builtin.Tuple.tupleItemsOf (.ref t) >>= _) _ _ s
  refine wpAny_bind (tupleItemsOf_ ht ?_)
  refine wpAny_bind (wpAny_typeOf hTs ?_)
  rw [if_pos (by decide)]
  refine wpAny_bind (sliceApplied_gen hs pl pu ?_)
  have hyes : (((sIx items.size 0 lo : Nat) : Int) == 0 && (1 : Int) == 1 && (sIx items.size items.size hi - sIx items.size 0 lo) == items.size) = true := by
    rw [hw.1, hw.2]
    simp
  show wpAny _ _ (if (((sIx items.size 0 lo : Nat) : Int) == 0 && (1 : Int) == 1 && (sIx items.size items.size hi - sIx items.size 0 lo) == items.size) = true then _ else _) _ _ s
  rw [if_pos hyes]
  refine wpAny_bind (tupleIsExact_ ht ?_)
  rw [if_pos rfl]
  first
    | exact wpAny_bind (wpAny_rule (wpAny_bind (wpAny_pure (wpAny_pure ⟨_, rfl, wpAny_pure h⟩))))
    | exact wpAny_bind (wpAny_rule (wpAny_pure ⟨_, rfl, wpAny_pure h⟩))
    | exact wpAny_bind (wpAny_rule (wpAny_bind (wpAny_pure ⟨_, rfl, wpAny_pure h⟩)))
end
end HTW
section
open PySem PySem.Spec PyProof.Rows L2
def rSlW (K : PySem.W.Frag) : V → Option Int → Option Int → Hp → VK → Prop := fun x lo hi H Q => ∃ a xs, x = .ref a ∧ SqT K H a xs ∧ HT.sIx xs.length 0 lo = 0 ∧ HT.sIx xs.length xs.length hi = xs.length ∧ Q (.ref a) H
theorem sl_tupW {X : Cx} : SlR X (rSlW X.K) := by
  intro pins s σ H x v vl vu lo hi sl Q I rx hs pl pu h
  obtain ⟨a, xs, rfl, hx, hw1, hw2, q⟩ := h
  cases rx
  obtain ⟨its, r, ht, hz⟩ := I.tuple hx
  have hlen : its.toArray.size = xs.length := by rw [List.size_toArray]; exact r.length.symm
  refine ⟨"tuple", _, PyProof.Rows.slot_tuple_getitem.lookup, ht.typeIs, ?_⟩
  exact HTW.getItem_tuple_whole ht hs pl pu (by rw [hlen]; exact ⟨hw1, hw2⟩) ⟨.ref a, H, I, rfl, q⟩
def rSlU2 (K : PySem.W.Frag) : V → Option Int → Option Int → Hp → VK → Prop := fun x lo hi H Q => rSlU K x lo hi H Q ∨ rSlW K x lo hi H Q
theorem sl_U2 {X : Cx} (K : PySem.W.Frag) (hK : X.K = K) : SlR X (rSlU2 K) := by
  have h := sl_U (X := X) K hK
  subst hK
  exact h.or sl_tupW
end

/-! a caught exception with its own dict: isinstance, fields; defs that may raise -/
section
open PySem PySem.W PySem.Spec PySem.Calls PyProof.Rows
variable {prog : Program} {w : World} {A : Around} {E : Value → Shared → Prop} {s : Shared} {K : Frag} {x D : Addr} {ox : Obj}
theorem find_classD {C : Addr} {odx : Option Obj} {name : Str} {a g : Value} (hc : (clsIn K C).isSome = true) (ha : findIn K (.ref C) name = some (some a)) (hg : specialIn K a "__get__" = some (some g)) (ht : takesIn K a = some true) : findObj K C odx name = some (.bind g a) := by
  obtain ⟨cd, hc⟩ := Option.isSome_iff_exists.mp hc
  unfold findObj
  rw [hc, Option.bind_some, ha, Option.bind_some]
  simp [hg, ht]
theorem kin_classD {odx : Option Obj} {Q : Option Value → Shared → Prop} (C : L2.ExcC K D) (X : K.In s.heap) (I : InstAt s.heap x ox D odx) (h : Q (some (.ref D)) { s with toks := s.toks + 1 }) : wpAny (model prog w) A (getAttr? (.ref x) "__class__") Q E s := by
  have hf : findObj K D odx "__class__" = some (.bind (.builtin "getset_descriptor.__get__") (.builtin "object.__class__")) := find_classD (by obtain ⟨cd, hc, _⟩ := any_some C.hd; rw [hc]; rfl) C.ha C.hn C.ht
  obtain ⟨hp, g, d, t, os⟩ := s
  have L0 := I.type (M := model prog w)
  have L1 := looks_findIn (M := model prog w) X C.hg
  have L2 := looks_findIn (M := model prog w) X C.hk
  have L3 := looks_find (M := model prog w) X I hf
  have sub : Looks (model prog w) hp (isInstance (.ref x) (.type "BaseException")) true := L0.andThen (looks_subIn X C.hs)
  have hx0 : (false && onTheHeap (Value.builtin "BaseException.__getattribute__")) = false := rfl
  have hx2 : (Value.builtin "BaseException.__getattribute__" == Value.builtin "object.__getattribute__") = false := by decide +kernel
  have hx1 : (onTheHeap (Value.ref D) && Value.builtin "BaseException.__getattribute__" == Value.builtin "object.__getattribute__") = false := by rw [hx2]; rfl
  unfold getAttr? getAttrBy? getAttrBy
  refine wpAny_bind (wpAny_mkText (wpAny_bind (wpAny_attempt (wpAny_holding (wpAny_bind (L0.at (wpAny_bind (L1.at ?_))))))))
  show wpAny _ _ (if (onTheHeap (Value.ref D) && Value.builtin "BaseException.__getattribute__" == Value.builtin "object.__getattribute__") = true then _ else _) _ _ _
  rw [hx1, if_neg Bool.false_ne_true]
  unfold getAttrByItsOwn hookBefore
  refine wpAny_bind ?_
  rw [if_pos (show onTheHeap (Value.ref D) = true from rfl)]
  refine L2.at ?_
  refine wpAny_bind (wpAny_attempt (wpAny_holding ?_))
  unfold callGetattribute
  rw [hx0, if_neg Bool.false_ne_true]
  unfold boundAndCalled
  rw [PySem.F.excAttr_ValueError.ga.bind (.ref x)]
  refine wpAny_bind (wpAny_pure ?_)
  show wpAny _ _ (call (.builtin "BaseException.__getattribute__") [.ref x, .str "__class__" t]) _ _ _
  refine wpAny_call (codeAny_call_builtin PySem.F.excAttr_ValueError.ga.plain PySem.F.entry_bexc_ga ?_)
  refine @check_slot (model prog w) _ _ ⟨hp, g, d, t + 1, os⟩ "BaseException.__getattribute__" "BaseException" "__getattribute__" (.ref x) [.str "__class__" t] [] _ (by decide +kernel) (by decide +kernel) sub (PySem.F.args_bexc_ga (.ref x) (.str "__class__" t)) ?_
  unfold Builtin.«object.__getattribute__»
  refine wpAny_bind (wpAny_of_eq (a := ((Value.ref x : Value), [Value.str "__class__" t])) (by first | rfl | (simp only [slotArgs]; rfl)) ?_)
  refine wpAny_bind (wpAny_pure (wpAny_bind (L0.at (wpAny_bind (L3.at ?_)))))
  show wpAny _ _ (holding [Value.builtin "object.__class__"] (call (.builtin "getset_descriptor.__get__") [.builtin "object.__class__", .ref x, .ref D]) >>= ret) _ _ _
  refine wpAny_bind (wpAny_holding (wpAny_call (class_get (s := ⟨hp, g, d, t + 1, os⟩) (ox := ox) (od := odx) X I C.hm ?_)))
  refine wpAny_pure ?_
  show wpAny _ _ (handedOut (.ref D)) _ _ _
  rw [handedOut_of (v := .ref D) rfl]
  first
    | exact wpAny_pure (wpAny_pure h)
    | exact wpAny_pure h
    | exact wpAny_pure (wpAny_bind (wpAny_pure (wpAny_pure h)))
theorem kit_excD {odx : Option Obj} (C : L2.ExcC K D) : KitX K (.ref x) (.ref D) (fun h => InstAt h x ox D odx) where
  ty := fun _ _ _ I => I.type
  it := fun _ _ X _ => by
    obtain ⟨cdD, hcD, _⟩ := any_some C.hd
    unfold clsIn at hcD
    split at hcD
    · rename_i c' d' cd' sl' ho
      intro A' Q' E' s' k q
      unfold isType loadHead
      exact wpAny_bind (wpAny_loadPart (k _ _ (X _ _ ho)) (wpAny_pure q))
    · cases hcD
  ne := fun h tp dd its n sl X htp => by
    obtain ⟨cdD, hcD, _⟩ := any_some C.hd
    refine Bool.eq_false_iff.mpr fun q => ?_
    have e : D = tp := Value.ref.inj (beq_iff_eq.mp q)
    subst e
    unfold clsIn at hcD
    split at hcD
    · rename_i c' d' cd' sl' ho
      have z := (X _ _ ho).symm.trans htp
      cases z
    · cases hcD
  ca := fun X I k => kin_classD C X I k
end
section
open PySem PySem.Spec PyProof.Rows L2
/-- what is more to be seen of such a class -/
structure ExcT (P : Program) (K : PySem.W.Frag) (mg : Str → Option Value) (nm fld : Str) (C fI : Addr) : Prop extends SupTxt P K mg nm fld C fI where
  ec : ExcC K C
theorem ExcT.xf {P : Program} {K : PySem.W.Frag} {mg : Str → Option Value} {nm fld : Str} {C fI : Addr} (T : ExcT P K mg nm fld C fI) : XfC K C := ⟨T.ga, T.gg, T.exC, T.hdC⟩
/-- isinstance(e, c), e the exception that the suite holds -/
def rIsX (K : PySem.W.Frag) (D a : Addr) (cls : Value) (d : Option Addr) : List V → Hp → VK → Prop := fun xs H Q => ∃ (c : V) (cv : Value) (b : Bool) (dd : Addr) (fs : List (Str × V)), xs = [.ref a, c] ∧ cls = .ref D ∧ d = some dd ∧ H dd = some (.xd fs) ∧ (∀ u, RelV c u → u = cv) ∧ PySem.W.kitOne K (.ref D) cv = some b ∧ Q (.bl b) H
theorem call_isX {X : Cx} {a D fI : Addr} {nm fld : Str} {oe : Obj} {cls : Value} {d : Option Addr} {pn : List (Addr × Obj)} (T : ExcT X.prog X.K X.mg nm fld D fI) (hz : Zc cls d oe) (hf : ∃ vs, oe.data = .fields vs) : CallR (X.suite a ((a, oe) :: pn)) (.builtin "isinstance") (rIsX X.K D a cls d) := by
  intro pins s σ H xs us Q I r h
  obtain ⟨c, cv, b, dd, fs, rfl, ecl, ed, ea, hcv, e, q⟩ := h
  subst ecl
  subst ed
  cases r with
  | cons rx rr =>
    cases rr with
    | cons rt rr =>
      cases rr
      cases rx
      have ec := hcv _ rt
      subst ec
      obtain ⟨hget, _⟩ := I.pin (a, oe) (List.mem_append.mpr (.inl List.mem_cons_self))
      obtain ⟨vs, hv⟩ := hf
      have hx : ObjOk X.prog X.w H s.heap dd (.xd fs) := I.hok dd _ ea
      obtain ⟨mA, hns, hr⟩ := hx
      obtain ⟨od, ho, hl⟩ := lookIn_ns hns
      have J : PySem.W.InstAt s.heap a oe D (some od) := ⟨hget, hz.1, by unfold PySem.W.notCls; rw [hv] <;> rfl, by rw [hz.2]; exact ho⟩
      exact PySem.W.kia_one (kit_excD T.ec) I.kIn J e (fun z => nomatch z) fun tk => ⟨.bl b, H, I.kept (t' := tk) fun _ _ z => z, rfl, q⟩
/-! ### a def that may raise, found by its name -/
def OkX (P : Program) (w : World) (K : PySem.W.Frag) (mg : Str → Option Value) (base : Heap) (k : Nat) (x : Str) (ps : List Str) (sp : Sp) : Prop :=
  ∃ (f : Addr) (fd : FuncData), FnOk P w K mg base (L2.CX P w) k f fd ps sp ∧ mg x = some (.ref f) ∧ PySem.W.keepIn K (.ref f) = true ∧ Binds K fd ps []
section
variable {P : Program} {w : World} {K : PySem.W.Frag} {mg : Str → Option Value} {base : Heap}
theorem Def.okX {x : Str} {st : Stmt} {N ps : List Str} {k : Nat} {sp : Sp} (D : Def K mg x st ps) (S : FnScope N ps (defScope st)) (len : ∀ vs H Q E, sp vs H Q E → vs.length = ps.length)
    (hbody : ∀ (cdv : Value) (f : Addr) (A : Around) (outer : List Env) (s : Shared) (H : Hp) (vs : List V) (Q : VK) (E : XK), Room k (A.deeper (envOfC x (defScope st) s.heap.objs.size f cdv)) → sp vs H Q E →
      ∃ t, PSs (cxOf (L2.CX P w) P w K mg base N x (defScope st) f cdv A outer s H E) (defBody st) t ∧ t { nx := fun _ H' => Q .non H', rt := Q } (start N vs) H) : OkX P w K mg base (k + 1) x ps sp := by
  obtain ⟨f, fd, F, hm, hb⟩ := D
  exact ⟨f, fd, F.okX S len fun cdv A outer s H vs Q E hr h => hbody cdv f A outer s H vs Q E hr h, hm, F.kp, hb⟩
theorem OkX.mono {j k : Nat} {x : Str} {ps : List Str} {sp : Sp} (h : OkX P w K mg base j x ps sp) (hk : j ≤ k) : OkX P w K mg base k x ps sp := by
  obtain ⟨f, fd, F, r⟩ := h
  exact ⟨f, fd, F.mono hk, r⟩
/-- where nothing is raised -/
def sp0 (sp : Sp) : Sp := fun vs H Q _ => sp vs H Q (fun _ _ _ => False)
theorem OkX.ok0 {k : Nat} {x : Str} {ps : List Str} {sp : Sp} (h : OkX P w K mg base k x ps sp) : Ok P w K mg base k x ps (sp0 sp) := by
  obtain ⟨f, fd, F, r⟩ := h
  refine ⟨f, fd, ⟨fun vs H Q E h => F.len vs H Q _ h, fun A outer s H args us vs Q E hr e0 hb rv hsp => ?_⟩, r⟩
  refine codeAny_mono (F.run A outer s H args us vs Q _ hr e0 hb rv hsp) fun r s' hq => ?_
  cases r with
  | error e =>
    obtain ⟨_, _, _, _, _, _, _, _, _, _, _, _, z⟩ := hq
    exact z.elim
  | ok fl => cases fl <;> exact hq
end
section
variable {X : Cx}
theorem pe_callX {x : Str} {p pos : Pos} {e : Expr} {es : List Expr} {t : TA} {k : Nat} {ps : List Str} {sp : Sp} {W : WX} (h : OkX X.prog X.w X.K X.mg X.base k x ps sp) (hr : Room k X.A) (hg : Gl X x) (tk : Takes X W) (ha : PA X (e :: es) t)
    (hdb : (x == ("__debug__" : Str)) = false := by decide) (he : starEach (e :: es) X.env = (false, eval e X.env) :: starEach es X.env := by rfl) (hpl : (backTo pos (starEach es X.env)).any (·.1) = false := by rfl) :
    PE X (.Call (.Name x p) (e :: es) [] pos) (tCallS sp (WE W) t) := by
  obtain ⟨f, fd, F, hm, hk, hb⟩ := h
  exact pe_callS F hr hg hm hk hb (fun σ => passAt tk σ) ha hdb he hpl
end
end

open PySem PySem.Spec PyProof.Rows L2
open PySem.W (EachIs)
/-! ### tables of waits: words, numbers, promises -/
section
variable {X : Cx}
theorem call_maxA (K : PySem.W.Frag) (hK : X.K = K) (hc : X.calm = true) : CallR X (.builtin "max") (rMax K) := by
  subst hK
  exact cr_max hc
theorem pi_zipAU (K : PySem.W.Frag) (hK : X.K = K) {e e2 : Expr} {ta : TA} {p pos tpos : Pos} {elts : List Expr} {kk : Nat} (hg : Gl X "zip") (hm : X.mg "zip" = none) (ha : PA X [e, e2] ta)
    (h1 : starEach [e, e2] X.env = (false, eval e X.env) :: starEach [e2] X.env := by rfl) (h2 : (backTo pos (starEach [e2] X.env)).any (·.1) = false := by rfl) : PI X (.Tuple elts kk tpos) (.Call (.Name "zip" p) [e, e2] [] pos) (RZ.iZipA K ta) := by
  subst hK
  exact RZ.pi_zipA hg hm ha h1 h2
end
section
variable {K : PySem.W.Frag} {σ : L2.St} {H : Hp} {Q : VK} {te : TE}
theorem rd_zipA {ta : TA} {R : It → Hp → Prop} (q : ta σ H fun vs H1 => ∃ a b xs ys, vs = [V.ref a, V.ref b] ∧ ((SqL K H1 a xs ∧ SqL K H1 b ys ∧ R (Itz K a b) H1) ∨ (SqT K H1 a xs ∧ SqT K H1 b ys ∧ R (RZ.ItzT K a b) H1))) : RZ.iZipA K ta σ H R := q
theorem rd_max2 {i j : Int} (q : Q (.int (if j > i then j else i)) H) : ∃ i' j', [V.int i, V.int j] = [.int i', .int j'] ∧ Q (.int (if j' > i' then j' else i')) H := ⟨i, j, rfl, q⟩
theorem rd_maxA {a : Addr} {ns : List Int} (h : SqL K H a (ns.map V.int)) (hn : 0 < ns.length) (q : ∀ m, m ∈ ns → (∀ y, y ∈ ns → y ≤ m) → Q (.int m) H) : rMax K [.ref a] H Q := ⟨a, ns, rfl, h, hn, q⟩
theorem rd_slW {a : Addr} {xs : List V} {lo hi : Option Int} (h : SqT K H a xs) (h1 : HT.sIx xs.length 0 lo = 0) (h2 : HT.sIx xs.length xs.length hi = xs.length) (q : Q (.ref a) H) : rSlU2 K (.ref a) lo hi H Q := .inr ⟨a, xs, rfl, h, h1, h2, q⟩
theorem rd_slT2 {a : Addr} {xs : List V} {lo hi : Option Int} (h : SqT K H a xs) (hw : ¬ (HT.sIx xs.length 0 lo = 0 ∧ HT.sIx xs.length xs.length hi = xs.length)) (q : ∀ p, H p = none → Q (.ref p) (upd H p (.tup (cutV xs lo hi)))) : rSlU2 K (.ref a) lo hi H Q := .inl (rd_slT h hw q)
end
abbrev Bd := Int × Int
def bdD (b : Bd) : PyData := .tuple [.int b.1, .int b.2]
def BdOk (bs : List Bd) : Prop := ∀ b ∈ bs, 0 ≤ b.1 ∧ b.1 ≤ b.2 ∧ b.2 ≤ 1000
def TbLt (tb : List Rw) : Prop := ∀ r ∈ tb, r.2.1 < r.1
def askStep (done : List Int) (m : Int) (r : Rw) : Int := if r.1 = done.length + 1 then (if fn (0 :: done) r.2.1 + r.2.2 > m then fn (0 :: done) r.2.1 + r.2.2 else m) else m
def askF (tb : List Rw) (done : List Int) : Int := tb.foldl (askStep done) (fn (0 :: done) done.length + 1)
def askW (tb : List Rw) (done : List Int) : List Int := (tb.filter fun r => decide (r.1 = done.length + 1)).map fun r => fn (0 :: done) r.2.1 + r.2.2
theorem ask_fold (done : List Int) : ∀ (tb : List Rw) (a : Int), tb.foldl (askStep done) a ∈ a :: askW tb done ∧ ∀ y ∈ a :: askW tb done, y ≤ tb.foldl (askStep done) a
  | [], a => by simp [askW]
  | r :: tb, a => by
    obtain ⟨h1, h2⟩ := ask_fold done tb (askStep done a r)
    rw [List.foldl_cons]
    by_cases c : r.1 = done.length + 1
    · have e : askW (r :: tb) done = (fn (0 :: done) r.2.1 + r.2.2) :: askW tb done := by
        unfold askW
        rw [List.filter_cons_of_pos (by simp [c])]
        rfl
      rw [e]
      have hs : askStep done a r = if fn (0 :: done) r.2.1 + r.2.2 > a then fn (0 :: done) r.2.1 + r.2.2 else a := by
        unfold askStep
        rw [if_pos c]
      have hle : askStep done a r ≤ tb.foldl (askStep done) (askStep done a r) := h2 _ List.mem_cons_self
      generalize hw : fn (0 :: done) r.2.1 + r.2.2 = w at hs ⊢
      refine ⟨?_, fun y hy => ?_⟩
      · rcases List.mem_cons.mp h1 with h | h
        · rw [h, hs]
          by_cases c2 : w > a
          · rw [if_pos c2]
            simp
          · rw [if_neg c2]
            simp
        · exact List.mem_cons_of_mem _ (List.mem_cons_of_mem _ h)
      · have ha : a ≤ askStep done a r := by
          rw [hs]
          split <;> omega
        have hw2 : w ≤ askStep done a r := by
          rw [hs]
          split <;> omega
        rcases List.mem_cons.mp hy with h | h
        · rw [h]
          omega
        rcases List.mem_cons.mp h with h | h
        · rw [h]
          omega
        · exact h2 y (List.mem_cons_of_mem _ h)
    · have e : askW (r :: tb) done = askW tb done := by
        unfold askW
        rw [List.filter_cons_of_neg (by simp [c])]
      have hs : askStep done a r = a := by
        unfold askStep
        rw [if_neg c]
      rw [hs] at h1 h2 ⊢
      rw [e]
      exact ⟨h1, h2⟩
theorem ask_max {tb : List Rw} {done : List Int} {m : Int} (h1 : m ∈ (fn (0 :: done) done.length + 1) :: askW tb done) (h2 : ∀ y ∈ (fn (0 :: done) done.length + 1) :: askW tb done, y ≤ m) : m = askF tb done := by
  obtain ⟨h3, h4⟩ := ask_fold done tb (fn (0 :: done) done.length + 1)
  have a := h2 _ h3
  have b := h4 _ h1
  unfold askF
  omega
def runF (tb : List Rw) : List Int → List Int → List Int → List Int × List Int
  | asked, done, [] => (asked, done)
  | asked, done, d :: ds => runF tb (asked ++ [askF tb done]) (done ++ [askF tb done + d]) ds
def areD (bs : List Bd) (ds : List Int) : Bool := decide (ds.length = bs.length) && (List.range ds.length).all fun i => decide ((bs.getD i (0, 0)).1 ≤ ds.getD i 0) && decide (ds.getD i 0 ≤ (bs.getD i (0, 0)).2)
def runD (r : List Int × List Int) : PyData := .tuple [.tuple (r.1.map .int), .tuple (r.2.map .int)]
section
variable (T : List (Addr × Str)) (K : PySem.W.Frag)
def spAsk : Sp := fun vs H Q _ => ∃ (va : V) (b : Addr) (kd : Bool) (tb : List Rw) (done : List Int), vs = [va, .ref b] ∧ Im H va (.tuple (tb.map rwD)) ∧ SqK K kd H b (done.map V.int) ∧ TbLt tb ∧ tb.length ≤ 100 ∧ done.length ≤ 100 ∧
  ∀ H', Ext T [] H H' → Q (.int (askF tb done)) H'
def spAreD : Sp := fun vs H Q _ => ∃ (vb vd : V) (bs : List Bd) (ds : List Int), vs = [vb, vd] ∧ Im H vb (.tuple (bs.map bdD)) ∧ Im H vd (.tuple (ds.map .int)) ∧ bs.length ≤ 100 ∧ ds.length ≤ 100 ∧
  ∀ H', Ext T [] H H' → Q (.bl (areD bs ds)) H'
def wordS : Str := "word"
def spRun (C : Addr) : Sp := fun vs H Q E => ∃ (va vb vd : V) (tb : List Rw) (bs : List Bd) (ds : List Int), vs = [va, vb, vd] ∧ Im H va (.tuple (tb.map rwD)) ∧ Im H vb (.tuple (bs.map bdD)) ∧ Im H vd (.tuple (ds.map .int)) ∧ TbLt tb ∧ tb.length ≤ 100 ∧ bs.length ≤ 50 ∧ ds.length ≤ 50 ∧
  (areD bs ds = true → ∀ v H', Ext T [] H H' → Im H' v (runD (runF tb [] [] ds)) → Q v H') ∧ (areD bs ds = false → ∀ d H', Ext T [] H H' → H' d = none → E (.ref C) (some d) (upd H' d (.xd [(wordS, .str "delays")])))
def spFirst57 : Sp := fun vs H Q _ => ∃ (va : V) (b : Addr) (kd : Bool) (tb : List Rw) (done : List Int), vs = [va, .int ((done.length : Int) + 1), .ref b] ∧ Im H va (.tuple (tb.map rwD)) ∧ SqK K kd H b (done.map V.int) ∧ TbLt tb ∧ tb.length ≤ 100 ∧ done.length ≤ 100 ∧
  ∀ H', Ext T [] H H' → Q (.int (askF tb done)) H'
def spLawRun : Sp := fun vs H Q _ => ∃ (va : V) (b : Addr) (kd : Bool) (tb : List Rw) (ds : List Int), vs = [va, .ref b] ∧ Im H va (.tuple (tb.map rwD)) ∧ SqK K kd H b (ds.map V.int) ∧ TbLt tb ∧ tb.length ≤ 100 ∧ ds.length ≤ 50 ∧
  ∀ v H', Ext T [] H H' → Im H' v (runD (runF tb [] [] ds)) → Q v H'
def spBounds : Sp := fun vs H Q _ => ∃ (l t : Addr) (n : Nat) (w : Int), vs = [.ref t, .int (n : Int), .int w] ∧ n ≤ 6 ∧ 0 ≤ w ∧ w < 3 ∧ Tape l H t ∧
  ∀ v bs H', BdOk bs → bs.length = n → Im H' v (.tuple (bs.map bdD)) → Ext T [t] H H' → Tape l H' t → Q v H'
def spDelays : Sp := fun vs H Q _ => ∃ (l t : Addr) (vb : V) (bs : List Bd), vs = [.ref t, vb] ∧ Im H vb (.tuple (bs.map bdD)) ∧ BdOk bs ∧ bs.length ≤ 6 ∧ Tape l H t ∧
  ∀ v ds H', ds.length = bs.length → areD bs ds = true → Im H' v (.tuple (ds.map .int)) → Ext T [t] H H' → Tape l H' t → Q v H'
def TbIn (n : Nat) (tb : List Rw) : Prop := ∀ r ∈ tb, r.2.1 < r.1 ∧ r.1 ≤ n
def spTable : Sp := fun vs H Q _ => ∃ (l t : Addr) (n : Nat) (w : Int), vs = [.ref t, .int (n : Int), .int w] ∧ n ≤ 6 ∧ 0 ≤ w ∧ w < 3 ∧ Tape l H t ∧
  ∀ v tb H', TbIn n tb → tb.length ≤ 36 → Im H' v (.tuple (tb.map rwD)) → Ext T [t] H H' → Tape l H' t → Q v H'
end
theorem im_ints {H : Hp} {v : V} {ds : List Int} (h : Im H v (.tuple (ds.map .int))) : ∃ a, v = .ref a ∧ H a = some (.tup (ds.map V.int)) := by
  obtain ⟨a, xs, rfl, h1, h2⟩ := h.tup'
  refine ⟨a, rfl, ?_⟩
  have e : ∀ {t : List Int} {vs : List V}, ImAll H vs (t.map PyData.int) → vs = t.map V.int := by
    intro t
    induction t with
    | nil =>
      intro vs h
      cases h
      rfl
    | cons z t ih =>
      intro vs h
      cases h with
      | cons a b => rw [a.int', ih b]; rfl
  rw [← e h2]
  exact h1
theorem imAll_int {H : Hp} : ∀ t : List Int, ImAll H (t.map V.int) (t.map PyData.int)
  | [] => .nil
  | z :: t => .cons (.int z) (imAll_int t)
theorem im_intsT {H : Hp} {a : Addr} {ds : List Int} (h : H a = some (.tup (ds.map V.int))) : Im H (.ref a) (.tuple (ds.map .int)) := .tup h (imAll_int ds)
open PySem PySem.Spec PyProof.Rows L2
open PySem.W (EachIs)
theorem walk_zipT {K : PySem.W.Frag} {a b : Addr} {xs ys : List V} {n : Nat} (hn : n = min xs.length ys.length) : Walk (RZ.ItzT K a b) n (fun H => SqT K H a xs ∧ SqT K H b ys) (YPair (fun i => xs[i]?) (fun i => ys[i]?)) := by
  subst hn
  refine ⟨fun i _ hi q => ?_, fun _ q => ⟨xs, ys, q.1, q.2, by omega⟩, fun i H v H' _ q y => ?_⟩
  · have h1 : i < xs.length := by omega
    have h2 : i < ys.length := by omega
    exact ⟨xs, ys, xs[i], ys[i], q.1, q.2, by simp [h1], by simp [h2]⟩
  · obtain ⟨T, x, z, h1, h2, h3, h4, h5⟩ := y
    exact ⟨T, x, z, h1, h2, h3, h4 xs q.1, h5 ys q.2⟩
/-- over two tuples of one length -/
theorem lcg_zipTF (T : List (Addr × Str)) {K : PySem.W.Frag} {σ : L2.St} {H : Hp} {Q : VK} {g : TG} {te : TE} {vs : List Nat} {a b : Addr} {xs ys : List V} (h1 : SqT K H a xs) (h2 : SqT K H b ys) (hl : xs.length = ys.length) (hs : xs.length < sizeLine) (f : Nat → V)
    (step : ∀ (i : Nat) (x y : V) (t : Addr), xs[i]? = some x → ys[i]? = some y → ∀ H', Ext T [] H H' → H' t = some (.tup [x, y]) → ∀ R : VK, (∀ H2, Ext T [] H' H2 → R (f i) H2) → g (.ref t) (wipe σ vs) H' fun σ2 H2 => wipe σ2 vs = wipe σ vs ∧ tYes σ2 H2 fun b H3 => if b = true then te σ2 H3 R else True)
    (q : ∀ D H2, Nw H D → Ext T [] H H2 → H2 D = some (.lst ((List.range xs.length).map f)) → Q (.ref D) H2) : LcG (RZ.ItzT K a b) g tYes te vs σ H Q := fun D hD => by
  refine lc_it (walk_zipT (n := xs.length) (by rw [← hl, Nat.min_self]) (xs := xs) (ys := ys)) (fun i H2 => Ext T [] H H2 ∧ H2 D = some (.lst ((List.range i).map f))) ⟨.new hD, upd_same⟩ (fun i H2 _ h => ⟨h.1.seqT (by simp) h1, h.1.seqT (by simp) h2⟩) (fun i x H1 H' hi h y => ?_) (fun H1 h => ?_)
  · obtain ⟨t, u, v, rfl, nt, rfl, hu, hv⟩ := y
    obtain ⟨e1, e2⟩ := h
    obtain ⟨nt2, e3, ht⟩ := alT (T := T) nt [u, v]
    generalize upd H1 t _ = H' at e3 ht ⊢
    have h3 := step i u v t hu hv H' (e1.trans e3) ht
    have hD2 := lst.x e2 e3
    have h4 := h3 (fun y H4 => ∃ acc, H4 D = some (.lst acc) ∧ acc.length < sizeLine ∧ (Ext T [] H (upd H4 D (.lst (acc ++ [y]))) ∧ (upd H4 D (.lst (acc ++ [y]))) D = some (.lst ((List.range (i + 1)).map f)))) (fun H2 e4 => by
      have hD3 := lst.x hD2 e4
      refine ⟨_, hD3, ?_, ((e1.trans e3).trans e4).own (.of hD) hD3, ?_⟩
      · rw [List.length_map, List.length_range]
        omega
      · rw [upd_same, List.range_succ, List.map_append]
        rfl)
    exact h4
  · exact q D H1 (.of hD) h.1 h.2
theorem bd_get {H : Hp} {xs : List V} {bs : List Bd} {i : Nat} {x : V} (h : ImAll H xs (bs.map bdD)) (hx : xs[i]? = some x) : ∃ b a, bs[i]? = some b ∧ x = .ref a ∧ SqP H a [.int b.1, .int b.2] ∧ Im H x (bdD b) := by
  obtain ⟨d, h1, h2⟩ := h.get' hx
  rw [List.getElem?_map] at h1
  obtain ⟨b, h3, rfl⟩ := Option.map_eq_some_iff.mp h1
  obtain ⟨a, u, v, rfl, h4, h5, h6⟩ := Im.pair' h2
  refine ⟨b, a, h3, rfl, ?_, h2⟩
  rw [h5.int', h6.int'] at h4
  exact h4
theorem getD_of {α : Type} {l : List α} {i : Nat} {x d : α} (h : l[i]? = some x) : l.getD i d = x := by
  rw [List.getD_eq_getElem?_getD, h]
  rfl
theorem areD_len {bs : List Bd} {ds : List Int} (h : areD bs ds = true) : ds.length = bs.length := by
  unfold areD at h
  rw [Bool.and_eq_true] at h
  exact of_decide_eq_true h.1
open PySem PySem.Spec PyProof.Rows L2
def DIn (bs : List Bd) (ds : List Int) : Prop := ∀ j, j < ds.length → (bs.getD j (0, 0)).1 ≤ ds.getD j 0 ∧ ds.getD j 0 ≤ (bs.getD j (0, 0)).2
theorem areD_iff {bs : List Bd} {ds : List Int} : areD bs ds = true ↔ ds.length = bs.length ∧ DIn bs ds := by
  unfold areD DIn
  rw [Bool.and_eq_true, decide_eq_true_eq, List.all_eq_true]
  constructor
  · rintro ⟨h1, h2⟩
    refine ⟨h1, fun j hj => ?_⟩
    have := h2 j (List.mem_range.mpr hj)
    rw [Bool.and_eq_true, decide_eq_true_eq, decide_eq_true_eq] at this
    exact this
  · rintro ⟨h1, h2⟩
    refine ⟨h1, fun j hj => ?_⟩
    rw [Bool.and_eq_true, decide_eq_true_eq, decide_eq_true_eq]
    exact h2 j (List.mem_range.mp hj)
theorem getD_app_lt {α : Type} {l : List α} {x d : α} {j : Nat} (h : j < l.length) : (l ++ [x]).getD j d = l.getD j d := by
  rw [List.getD_eq_getElem?_getD, List.getD_eq_getElem?_getD, List.getElem?_append_left h]
theorem getD_app_eq {α : Type} {l : List α} {x d : α} : (l ++ [x]).getD l.length d = x := by
  rw [List.getD_eq_getElem?_getD, List.getElem?_append_right (Nat.le_refl _)]
  simp
theorem DIn.snoc {bs : List Bd} {ds : List Int} {d : Int} (h : DIn bs ds) (h1 : (bs.getD ds.length (0, 0)).1 ≤ d) (h2 : d ≤ (bs.getD ds.length (0, 0)).2) : DIn bs (ds ++ [d]) := by
  intro j hj
  rw [List.length_append] at hj
  by_cases c : j < ds.length
  · rw [getD_app_lt c]
    exact h j c
  · have e : j = ds.length := by
      have : [d].length = 1 := rfl
      omega
    rw [e, getD_app_eq]
    exact ⟨h1, h2⟩
open PySem PySem.Spec PyProof.Rows L2
theorem rd_listK2 {K : PySem.W.Frag} {kd : Bool} {H : Hp} {Q : VK} {p : Addr} {ys : List V} (h : SqK K kd H p ys) (q : ∀ l, H l = none → Q (.ref l) (upd H l (.lst ys))) : rListOf K [.ref p] H Q := by
  cases kd with
  | true => exact rd_listL h q
  | false => exact rd_listT h q
open PySem PySem.Spec PyProof.Rows L2
theorem rd_rng2 {σ : L2.St} {H : Hp} {ta : TA} {R : It → Hp → Prop} (q : ta σ H fun vs H1 => ∃ i j : Int, vs = [.int i, .int j] ∧ (-(2 ^ 62) ≤ i ∧ i < 2 ^ 62 ∧ -(2 ^ 62) ≤ j ∧ j < 2 ^ 62) ∧ R (Itr i (j - i).toNat) H1) : iRng2 ta σ H R := q
open PySem PySem.Spec PyProof.Rows L2
section
variable {K : PySem.W.Frag} {H : Hp} {Q : VK}
theorem rd_catAny (T : List (Addr × Str)) {a b : Addr} {xs ys : List V} (h1 : H a = some (.tup xs)) (h2 : H b = some (.tup ys)) (c : xs.length + ys.length ≤ 1000) (q : ∀ p H', Ext T [] H H' → H' p = some (.tup (xs ++ ys)) → Q (.ref p) H') : rPlus K (.ref a) (.ref b) H Q := by
  by_cases e1 : xs = []
  · subst e1
    exact rd_catT0 (SqT.of h1) (SqT.of h2) (q b H .refl h2)
  · refine .inr (.inr (.inr (.inl ⟨a, b, xs, ys, rfl, rfl, SqT.of h1, SqT.of h2, e1, Nat.le_trans c (by decide), fun e => ?_, fun _ p np => q p _ (.new np) upd_same⟩)))
    refine q a H .refl ?_
    rw [e, List.append_nil]
    exact h1
theorem rd_slAny (T : List (Addr × Str)) {a : Addr} {xs : List V} {lo hi : Option Int} (h : H a = some (.tup xs)) (q : ∀ p H', Ext T [] H H' → H' p = some (.tup (cutV xs lo hi)) → Q (.ref p) H') : rSlU2 K (.ref a) lo hi H Q := by
  by_cases w : HT.sIx xs.length 0 lo = 0 ∧ HT.sIx xs.length xs.length hi = xs.length
  · refine rd_slW (SqT.of h) w.1 w.2 (q a H .refl ?_)
    unfold cutV
    rw [w.1, w.2, List.drop_zero, Nat.sub_zero, List.take_length]
    exact h
  · exact rd_slT2 (SqT.of h) w fun p np => q p _ (.new np) upd_same
end
theorem cutV_neg (xs : List V) : cutV xs none (some (-1)) = xs.dropLast := by
  unfold cutV
  rw [HT.sIx_none]
  have e : HT.sIx xs.length xs.length (some (-1)) = xs.length - 1 := by
    unfold HT.sIx
    simp only []
    split <;> omega
  rw [e, List.drop_zero, Nat.sub_zero, List.dropLast_eq_take]
theorem cutV_last (xs : List V) : cutV xs (some (-1)) none = xs.drop (xs.length - 1) := by
  unfold cutV
  rw [HT.sIx_none]
  have e : HT.sIx xs.length 0 (some (-1)) = xs.length - 1 := by
    unfold HT.sIx
    simp only []
    split <;> omega
  rw [e, List.take_of_length_le (by rw [List.length_drop]; omega)]
theorem areD_no_len {bs : List Bd} {ds : List Int} (h : ds.length ≠ bs.length) : areD bs ds = false := by
  cases e : areD bs ds with
  | false => rfl
  | true => exact absurd (areD_iff.mp e).1 h
theorem areD_no_at {bs : List Bd} {ds : List Int} {j : Nat} (hj : j < ds.length) (h : ¬ ((bs.getD j (0, 0)).1 ≤ ds.getD j 0 ∧ ds.getD j 0 ≤ (bs.getD j (0, 0)).2)) : areD bs ds = false := by
  cases e : areD bs ds with
  | false => rfl
  | true => exact absurd ((areD_iff.mp e).2 j hj) h
theorem dep_rw2 (r : Rw) : (rwD r).depth ≤ 1 := by show 0 + 1 ≤ 1; omega
theorem dep_ints2 : ∀ t : List Int, PyData.depthAll (t.map PyData.int) = 0
  | [] => rfl
  | z :: zs => by
    show max (PyData.depth (.int z)) (PyData.depthAll (zs.map PyData.int)) = 0
    rw [dep_ints2 zs]
    rfl
theorem dep_run (r : List Int × List Int) : (runD r).depth ≤ 64 := by
  show max (PyData.depthAll (r.1.map PyData.int) + 1) (max (PyData.depthAll (r.2.map PyData.int) + 1) 0) + 1 ≤ 64
  rw [dep_ints2, dep_ints2]
  decide
def spRefused (T : List (Addr × Str)) : Sp := fun vs H Q _ => ∃ (va vb vd : V) (tb : List Rw) (bs : List Bd) (ds : List Int), vs = [va, vb, vd] ∧ Im H va (.tuple (tb.map rwD)) ∧ Im H vb (.tuple (bs.map bdD)) ∧ Im H vd (.tuple (ds.map .int)) ∧ TbLt tb ∧ tb.length ≤ 100 ∧ bs.length ≤ 50 ∧ ds.length ≤ 50 ∧
  areD bs ds = false ∧ ∀ H', Ext T [] H H' → Q (.bl true) H'
/-- what is more known of the classes of errors -/
structure ErrIs (K : PySem.W.Frag) (mg : Str → Option Value) (C CN CB : Addr) : Prop where
  gN : mg "NeverdarkError" = some (.ref CN)
  gB : mg "BadText" = some (.ref CB)
  kN : PySem.W.kitOne K (.ref C) (.ref CN) = some true
  kB : PySem.W.kitOne K (.ref C) (.ref CB) = some false
open PySem PySem.Spec PyProof.Rows L2
theorem pe_cls {X : Cx} {x : Str} {C : Addr} {pos : Pos} (hg : Gl X x) (hm : X.mg x = some (.ref C)) (hd : (x == ("__debug__" : Str)) = false := by decide) : PE X (.Name x pos) (tC (.ref C)) := pe_glob hg hm (show RelV (.ref C) (.ref C) from rfl) hd
open PySem PySem.Spec PyProof.Rows L2
theorem rd_callS {sp : Sp} {E : L2.St → XK} {t : TA} {σ : L2.St} {H : Hp} {Q : VK} (q : t σ H fun vs H1 => sp vs H1 Q (E σ)) : tCallS sp E t σ H Q := q
theorem rd_xf {a : Addr} {cls : Value} {d : Option Addr} {C : Addr} {f : Str} {te : TE} {σ : L2.St} {H : Hp} {Q : VK} (q : te σ H fun x H1 => x = .ref a ∧ cls = .ref C ∧ ∃ (dd : Addr) (fs : List (Str × V)) (v : V), d = some dd ∧ H1 dd = some (.xd fs) ∧ fs.lookup f = some v ∧ Q v H1) : tXf a cls d C f te σ H Q := q

open PySem PySem.Spec PyProof.Rows L2
/-! enumerate(list, start=1) -/
def Ite1 (K : PySem.W.Frag) (a : Addr) : It :=
  ⟨fun i H => ∃ (xs : List V) (x : V), SqL K H a xs ∧ xs[i]? = some x, fun i H v H' => ∃ T x, v = .ref T ∧ H T = none ∧ H' = upd H T (.tup [.int ((i : Nat) + 1), x]) ∧ ∀ xs, SqL K H a xs → xs[i]? = some x, fun i H => ∃ xs : List V, SqL K H a xs ∧ xs.length = i⟩
theorem ne_iter {h : Heap} {it a : Addr} {i : Nat} {its : Array Value} (h1 : h.IsListIter it a i) (h2 : h.IsList a its) : a ≠ it := fun z => by
  subst z
  obtain ⟨o, q1, q2, _⟩ := h1
  obtain ⟨o2, q3, q4, _⟩ := h2
  rw [q1] at q3
  cases q3
  rw [q2] at q4
  injection q4 with q5
  exact absurd q5 (by decide)
theorem ne_enum {h : Heap} {e it a : Addr} {k : Int} {old : Value} {its : Array Value} (h1 : IsEnum h e it k old) (h2 : h.IsList a its) : e ≠ a := fun z => by
  subst z
  obtain ⟨o2, q3, q4, _⟩ := h2
  have h1 : h.get? e = some _ := h1
  rw [h1] at q3
  cases q3
  injection q4 with q5
  exact absurd q5 (by decide)
theorem turn_enum1 {P : Program} {w : World} {K : PySem.W.Frag} {elts : List Expr} {kk : Nat} {tpos : Pos} (a e it : Addr) :
    Turn P w K (.Tuple elts kk tpos) (Ite1 K a) [e, it] e (fun i h => (∃ old, IsEnum h e it ((i : Nat) + 1 : Int) old) ∧ h.IsListIter it a i ∧ e ≠ it) where
  mem := by simp
  obj := fun i h st b hb => by
    obtain ⟨⟨old, he⟩, ⟨o, ho, hc, hd⟩, _⟩ := st
    have e' : b = e ∨ b = it := by simpa using hb
    rcases e' with z | z
    · rw [z]; exact ⟨_, he, fun v q => nomatch q⟩
    · rw [z]; exact ⟨o, ho, fun v q => by rw [hd] at q; cases q⟩
  keep := fun i h h' st k => let ⟨⟨old, he⟩, hi, hne⟩ := st; ⟨⟨old, k e (by simp) _ he⟩, hi.at fun o q => k it (by simp) o q, hne⟩
  item := by
    intro X hP hw hK hc i pins s σ H E I hf st hg
    subst hP hw hK
    obtain ⟨⟨old, he⟩, hit, hne⟩ := st
    obtain ⟨xs, x, hq, hx⟩ := hg
    obtain ⟨its, rv, p, hz⟩ := I.list hq
    obtain ⟨u, hu, ru⟩ := rv.get hx
    have hel : e < s.heap.objs.size := Heap.lt_size he
    have hil : it < s.heap.objs.size := by obtain ⟨_, q, _⟩ := hit; exact Heap.lt_size q
    have hu0 : its.toArray[i]? = some u := by simpa using hu
    have hx2 : i < its.toArray.size := (Array.getElem?_eq_some_iff.mp hu0).1
    have hae : a ≠ it := ne_iter hit p.isList
    have hea : e ≠ a := ne_enum he p.isList
    refine wpAny_pyNext_enum_itemC (Draws.list (A := X.A.in1) (I.ok.hd hc) it a hae its.toArray) he ⟨hit, p.isList⟩ hx2 hne (by simp [hne, hea]) fun u' h' tk hu' ho hit' hT hsz hk => ?_
    have eu : u' = u := by
      have := hu'.symm.trans hu0
      exact Option.some.inj this
    subst eu
    refine ⟨_, rfl, wpAny_letOwnedTupleGo_enum (s := { s with heap := h', toks := tk + 1 }) ho fun h'' he' sb => ?_⟩
    have hT2 : h''.get? s.heap.objs.size = some { cls := .type "tuple", data := .seq #[.int ((i : Nat) + 1) tk, u'] } := (sb.2 _ (Nat.ne_of_gt hel)).trans hT
    have new : ObjOk X.prog X.w (upd H s.heap.objs.size (.tup [.int ((i : Nat) + 1), x])) h'' s.heap.objs.size (.tup [.int ((i : Nat) + 1), x]) :=
      ⟨by show 2 ≤ sizeLine; decide, [.int ((i : Nat) + 1) tk, u'], .cons ⟨_, rfl⟩ (.cons ru .nil), ⟨_, hT2, rfl, _, rfl⟩⟩
    have I1 : Inv X pins σ (upd H s.heap.objs.size (.tup [.int ((i : Nat) + 1), x])) { s with heap := h'', toks := tk + 1 } :=
      I.turnedNew (ch := [e, it]) (fun b ob hb q => (sb.2 b (fun z => hb (by simp [z]))).trans (hk b ob (fun z => hb (by simp [z])) (fun z => hb (by simp [z])) q)) hf (Nat.le_refl _) new
    refine ⟨.ref s.heap.objs.size, _, I1, rfl, ⟨_, x, rfl, I.hok.fresh (Nat.le_refl _), rfl, fun ys hy => by rw [I.list_inj hy hq]; exact hx⟩, ⟨⟨u', ?_⟩, hit'.1.at fun o q => (sb.2 it (Ne.symm hne)).trans q, hne⟩, fun b hb => ?_⟩
    · have e1 : ((i + 1 : Nat) : Int) + 1 = (i : Int) + 1 + 1 := by omega
      rw [e1]; exact he'
    · have hb' : b < s.heap.objs.size := by
        have e' : b = e ∨ b = it := by simpa using hb
        rcases e' with z | z
        · rw [z]; exact hel
        · rw [z]; exact hil
      rw [upd_ne (Nat.ne_of_lt hb')]
      exact (hf b hb).1
  done := by
    intro X hP hw hK hc i pins s σ H E I hf st hg
    subst hP hw hK
    obtain ⟨⟨old, he⟩, hit, hne⟩ := st
    obtain ⟨xs, hq, hx⟩ := hg
    obtain ⟨its, rv, p, hz⟩ := I.list hq
    obtain ⟨f0, f1, f2, f3, f4, f5⟩ := hf it (by simp)
    have hl := rv.length
    have hae : a ≠ it := ne_iter hit p.isList
    refine wpAny_pyNext_enum_endD (Draws.list (A := X.A.in1) (I.ok.hd hc) it a hae its.toArray) he ⟨?_, p.isList⟩ fun h' eb => ⟨rfl, I.turned (t' := s.toks) (fun b o hb q => eb b o hb q) f0 f1 f3 f4 f5⟩
    have e : its.toArray.size = i := by simp; omega
    rw [e]
    exact hit
  self := fun A i s Q E st h => let ⟨⟨_, he⟩, _⟩ := st; wpAny_pyIter_enum he h
def iEnum1 (K : PySem.W.Frag) (ta : TA) : TI := fun σ H R => ta σ H fun vs H1 => ∃ a xs, vs = [.ref a] ∧ SqL K H1 a xs ∧ R (Ite1 K a) H1
theorem pi_enum1 {X : Cx} {e : Expr} {ta : TA} {p pos tpos kp kpos : Pos} {elts : List Expr} {kk kc : Nat} (hg : Gl X "enumerate") (hm : X.mg "enumerate" = none) (ha : PA X [e] ta) (hs : starEach [e] X.env = [(false, eval e X.env)] := by rfl)
    (hall : (backToKw pos (keywordEach [⟨some "start", .Constant (.int 1) kc kp, kpos⟩] X.env)).all (·.1.isSome) = true := by rfl)
    (hkw : (backToKw pos (keywordEach [⟨some "start", .Constant (.int 1) kc kp, kpos⟩] X.env)).any (·.1.isNone) = false := by rfl) :
    PI X (.Tuple elts kk tpos) (.Call (.Name "enumerate" p) [e] [⟨some "start", .Constant (.int 1) kc kp, kpos⟩] pos) (iEnum1 X.K ta) := by
  refine ⟨fun pins s σ H R I h => ?_⟩
  refine wpAny_Call_Name_kw (ld_blt I hg hm boot_enumerate ?_)
  have hpl : ((backTo pos (starEach [e] X.env)).any (·.1) || (backToKw pos (keywordEach [⟨some "start", .Constant (.int 1) kc kp, kpos⟩] X.env)).any (·.1.isNone)) = false := by
    rw [hkw, hs]
    rfl
  refine PySem.W.callWith_of (P := fun _ => True) hpl (fun h _ => ⟨.machine, .inr (.inl rfl), PySem.W.Looks.of_pure rfl⟩) (evalArgs_kw2 hall (thn (ha.run pos pins s σ H _ I h) fun us s1 ⟨vs, H1, I1, r1, q1⟩ => ?_) hs)
  obtain ⟨a, xs, ex, hq, q⟩ := q1
  subst ex
  cases r1 with
  | cons r rr =>
    cases rr
    cases r
    show wpAny _ _ (evalAll [do let v ← eval (.Constant (.int 1) kc kp) X.env; standAt pos; pure v]) _ _ s1
    refine wpAny_evalAll_cons (wpAny_bind ?_)
    obtain ⟨its, rv, p', hz⟩ := I1.list hq
    refine wpAny_Constant_int ?_
    refine wpAny_bind (wpAny_standAt (wpAny_pure (wpAny_evalAll_nil ?_)))
    refine ⟨trivial, ?_⟩
    refine enum_begins_start (begins_list a its.toArray) p'.isList (by decide) (by decide) fun h' he hit hsz hk => wpAny_pyIter_enum he ?_
    have I2 : Inv X pins σ H1 { s1 with heap := h', toks := s1.toks + 1 } := I1.kept (t' := s1.toks + 1) hk
    refine ⟨s1.heap.objs.size + 1, [s1.heap.objs.size + 1, s1.heap.objs.size], _, _, H1, rfl, I2, turn_enum1 a (s1.heap.objs.size + 1) s1.heap.objs.size, ⟨⟨.none, ?_⟩, ⟨_, hit, rfl, rfl⟩, Nat.succ_ne_self _⟩, fun b hb => ?_, q⟩
    · exact he
    have e' : b = s1.heap.objs.size + 1 ∨ b = s1.heap.objs.size := by simpa using hb
    have hle : s1.heap.objs.size ≤ b := by
      rcases e' with z | z
      · rw [z]; exact Nat.le_add_right _ _
      · rw [z]; exact Nat.le_refl _
    exact I1.fpOk hle (I1.hok.fresh hle)
/-- enumerate(xs, start=1), turn by turn -/
theorem walk_enum1 {K : PySem.W.Frag} {a : Addr} {xs : List V} : Walk (Ite1 K a) xs.length (fun H => SqL K H a xs) (YPair (fun i => some (.int ((i : Nat) + 1))) (fun i => xs[i]?)) := by
  refine ⟨fun i _ hi q => ⟨xs, xs[i], q, by simp [hi]⟩, fun _ q => ⟨xs, q, rfl⟩, fun i H v H' _ q y => ?_⟩
  obtain ⟨T, x, h1, h2, h3, h4⟩ := y
  exact ⟨T, .int ((i : Nat) + 1), x, h1, h2, h3, rfl, h4 xs q⟩

open PySem PySem.Spec PyProof.Rows L2
open PySem.W (EachIs dataLe dataLt sort_maps AllAlike Sortable)
/-! ### tables out of rows: the numbers -/
abbrev Kj := Nat × Nat
def kj (k : Kj) : List L2.Key := [.inl (k.1 : Int), .inl (k.2 : Int)]
theorem kj_inj {a b : Kj} (h : kj a = kj b) : a = b := by
  unfold kj at h
  injection h with h1 h
  injection h with h2 _
  injection h1 with h1
  injection h2 with h2
  exact Prod.ext (Int.ofNat.inj h1) (Int.ofNat.inj h2)
def putG (acc : List (Kj × Int)) (k : Kj) (v : Int) : List (Kj × Int) := if (acc.any fun kv => decide (kv.1 = k)) = true then acc.map (fun kv => if kv.1 = k then (kv.1, v) else kv) else acc ++ [(k, v)]
def getG (acc : List (Kj × Int)) (k : Kj) : Option Int := (acc.find? fun kv => decide (kv.1 = k)).map (·.2)
def kvG (acc : List (Kj × Int)) : List (List L2.Key × V) := acc.map fun p => (kj p.1, V.int p.2)
theorem dec_kj (a b : Kj) : decide (kj a = kj b) = decide (a = b) := by
  by_cases h : a = b
  · simp [h]
  · rw [decide_eq_false h, decide_eq_false fun e => h (kj_inj e)]
theorem putK_kvG (acc : List (Kj × Int)) (k : Kj) (v : Int) : putK (kvG acc) (kj k) (.int v) = kvG (putG acc k v) := by
  unfold putK putG kvG
  have e : (acc.map fun p => (kj p.1, V.int p.2)).any (fun kv => decide (kv.1 = kj k)) = acc.any fun kv => decide (kv.1 = k) := by
    rw [List.any_map]
    congr 1
    funext p
    exact dec_kj p.1 k
  rw [e]
  split
  · rw [List.map_map, List.map_map]
    refine List.map_congr_left fun p _ => ?_
    show (if kj p.1 = kj k then (kj p.1, V.int v) else (kj p.1, V.int p.2)) = _
    by_cases h : p.1 = k
    · simp [h]
    · rw [if_neg fun e => h (kj_inj e)]
      simp [h]
  · rw [List.map_append]
    rfl
theorem valV_kvG (acc : List (Kj × Int)) (k : Kj) : valV (kvG acc) (kj k) = (getG acc k).map V.int := by
  unfold valV getG kvG
  rw [List.find?_map]
  have e : ((fun kv : List L2.Key × V => decide (kv.1 = kj k)) ∘ fun p : Kj × Int => (kj p.1, V.int p.2)) = fun kv => decide (kv.1 = k) := by
    funext p
    exact dec_kj p.1 k
  rw [e]
  cases acc.find? fun kv => decide (kv.1 = k) <;> rfl
def gwStep (acc : List (Kj × Int)) (r : Rw) : List (Kj × Int) := putG acc (r.1, r.2.1) (if (getG acc (r.1, r.2.1)).getD r.2.2 > r.2.2 then (getG acc (r.1, r.2.1)).getD r.2.2 else r.2.2)
def gw (rs : List Rw) : List (Kj × Int) := rs.foldl gwStep []
/-- what the dict says of the rows -/
structure GwOk (rs : List Rw) (acc : List (Kj × Int)) : Prop where
  nd : (acc.map (·.1)).Nodup
  is : ∀ p ∈ acc, (∃ r ∈ rs, (r.1, r.2.1) = p.1 ∧ r.2.2 = p.2) ∧ ∀ r ∈ rs, (r.1, r.2.1) = p.1 → r.2.2 ≤ p.2
  all : ∀ r ∈ rs, ∃ p ∈ acc, p.1 = (r.1, r.2.1)
  len : acc.length ≤ rs.length
theorem getG_mem {acc : List (Kj × Int)} (hn : (acc.map (·.1)).Nodup) {k : Kj} {v : Int} (h : (k, v) ∈ acc) : getG acc k = some v := by
  induction acc with
  | nil => cases h
  | cons p acc ih =>
    rw [List.map_cons, List.nodup_cons] at hn
    unfold getG
    rcases List.mem_cons.mp h with e | h
    · rw [← e]
      simp
    · have hne : ¬ p.1 = k := fun e => hn.1 (by rw [e]; exact List.mem_map.mpr ⟨_, h, rfl⟩)
      rw [List.find?_cons_of_neg (by simpa using hne)]
      exact ih hn.2 h
theorem getG_none {acc : List (Kj × Int)} {k : Kj} (h : ∀ p ∈ acc, p.1 ≠ k) : getG acc k = none := by
  unfold getG
  rw [List.find?_eq_none.mpr fun p hp => by simpa using h p hp]
  rfl
theorem gw_step {rs : List Rw} {acc : List (Kj × Int)} {r : Rw} (G : GwOk rs acc) : GwOk (rs ++ [r]) (gwStep acc r) := by
  unfold gwStep putG
  by_cases hin : ∃ v, ((r.1, r.2.1), v) ∈ acc
  · obtain ⟨v, hv⟩ := hin
    have hg := getG_mem G.nd hv
    rw [hg]
    show GwOk _ (if _ then acc.map (fun kv : Kj × Int => if kv.1 = (r.1, r.2.1) then (kv.1, if v > r.2.2 then v else r.2.2) else kv) else _)
    have ha : (acc.any fun kv => decide (kv.1 = (r.1, r.2.1))) = true := List.any_eq_true.mpr ⟨_, hv, by simp⟩
    rw [if_pos ha]
    have hk : (acc.map (fun kv => if kv.1 = (r.1, r.2.1) then (kv.1, if v > r.2.2 then v else r.2.2) else kv)).map (·.1) = acc.map (·.1) := by
      rw [List.map_map]
      refine List.map_congr_left fun p _ => ?_
      show (if p.1 = (r.1, r.2.1) then (p.1, if v > r.2.2 then v else r.2.2) else p).1 = p.1
      split <;> rfl
    refine ⟨by rw [hk]; exact G.nd, fun p hp => ?_, fun r2 hr2 => ?_, ?_⟩
    · obtain ⟨y, hy, e⟩ := List.mem_map.mp hp
      by_cases c : y.1 = (r.1, r.2.1)
      · rw [if_pos c] at e
        have hyv : y.2 = v := by
          have h2 := getG_mem G.nd (show (y.1, y.2) ∈ acc from hy)
          rw [c, hg] at h2
          exact (Option.some.inj h2).symm
        obtain ⟨⟨r0, h1, h2, h3⟩, h4⟩ := G.is y hy
        rw [← e]
        refine ⟨?_, fun r2 hr2 he => ?_⟩
        · by_cases c2 : v > r.2.2
          · exact ⟨r0, List.mem_append_left _ h1, h2, by show r0.2.2 = if v > r.2.2 then v else r.2.2; rw [if_pos c2, h3, hyv]⟩
          · exact ⟨r, List.mem_append_right _ (List.mem_singleton.mpr rfl), c.symm, by show r.2.2 = if v > r.2.2 then v else r.2.2; rw [if_neg c2]⟩
        · show r2.2.2 ≤ if v > r.2.2 then v else r.2.2
          rcases List.mem_append.mp hr2 with hr2 | hr2
          · have := h4 r2 hr2 he
            split <;> omega
          · rw [List.mem_singleton.mp hr2]
            split <;> omega
      · rw [if_neg c] at e
        rw [← e]
        obtain ⟨⟨r0, h1, h2⟩, h4⟩ := G.is y hy
        refine ⟨⟨r0, List.mem_append_left _ h1, h2⟩, fun r2 hr2 he => ?_⟩
        rcases List.mem_append.mp hr2 with hr2 | hr2
        · exact h4 r2 hr2 he
        · rw [List.mem_singleton.mp hr2] at he
          exact absurd he.symm c
    · have key : ∃ p ∈ acc, p.1 = (r2.1, r2.2.1) := by
        rcases List.mem_append.mp hr2 with hr2 | hr2
        · exact G.all r2 hr2
        · rw [List.mem_singleton.mp hr2]
          exact ⟨_, hv, rfl⟩
      obtain ⟨p, hp, e⟩ := key
      refine ⟨_, List.mem_map_of_mem hp, ?_⟩
      rw [← e]
      split <;> rfl
    · rw [List.length_map, List.length_append]
      have := G.len
      omega
  · have hno : ∀ p ∈ acc, p.1 ≠ (r.1, r.2.1) := fun p hp e => hin ⟨p.2, by rw [← e]; exact hp⟩
    rw [getG_none hno]
    have ha : ¬ (acc.any fun kv => decide (kv.1 = (r.1, r.2.1))) = true := fun h => by
      obtain ⟨p, hp, e⟩ := List.any_eq_true.mp h
      exact hno p hp (of_decide_eq_true e)
    rw [if_neg ha]
    have ev : (if (none : Option Int).getD r.2.2 > r.2.2 then (none : Option Int).getD r.2.2 else r.2.2) = r.2.2 := by
      show (if r.2.2 > r.2.2 then r.2.2 else r.2.2) = r.2.2
      split <;> rfl
    rw [ev]
    refine ⟨?_, fun p hp => ?_, fun r2 hr2 => ?_, ?_⟩
    · rw [List.map_append]
      refine nodup_snoc G.nd fun h => ?_
      obtain ⟨p, hp, e⟩ := List.mem_map.mp h
      exact hno p hp e
    · rcases List.mem_append.mp hp with hp | hp
      · obtain ⟨⟨r0, h1, h2⟩, h4⟩ := G.is p hp
        refine ⟨⟨r0, List.mem_append_left _ h1, h2⟩, fun r2 hr2 he => ?_⟩
        rcases List.mem_append.mp hr2 with hr2 | hr2
        · exact h4 r2 hr2 he
        · rw [List.mem_singleton.mp hr2] at he
          exact absurd he.symm (hno p hp)
      · rw [List.mem_singleton.mp hp]
        refine ⟨⟨r, List.mem_append_right _ (List.mem_singleton.mpr rfl), rfl, rfl⟩, fun r2 hr2 he => ?_⟩
        rcases List.mem_append.mp hr2 with hr2 | hr2
        · obtain ⟨p2, hp2, e2⟩ := G.all r2 hr2
          exact absurd (e2.trans he) (hno p2 hp2)
        · rw [List.mem_singleton.mp hr2]
          exact Int.le_refl _
    · rcases List.mem_append.mp hr2 with hr2 | hr2
      · obtain ⟨p, hp, e⟩ := G.all r2 hr2
        exact ⟨p, List.mem_append_left _ hp, e⟩
      · rw [List.mem_singleton.mp hr2]
        exact ⟨_, List.mem_append_right _ (List.mem_singleton.mpr rfl), rfl⟩
    · rw [List.length_append, List.length_append]
      have := G.len
      show _ + 1 ≤ _ + 1
      omega
theorem gw_ok (rs : List Rw) : ∀ i, i ≤ rs.length → GwOk (rs.take i) ((rs.take i).foldl gwStep [])
  | 0, _ => ⟨by simp, by simp, by simp, by simp⟩
  | i + 1, h => by
    have hi : i < rs.length := h
    rw [List.take_add_one, List.getElem?_eq_getElem hi]
    show GwOk (rs.take i ++ [rs[i]]) ((rs.take i ++ [rs[i]]).foldl gwStep [])
    rw [List.foldl_append]
    exact gw_step (gw_ok rs i (by omega))
theorem gw_all (rs : List Rw) : GwOk rs (gw rs) := by
  have h := gw_ok rs rs.length (Nat.le_refl _)
  rw [List.take_length] at h
  exact h
/-! ### the two lists of waits -/
def aOf (bs : List Bd) (k : Nat) : Int := (bs.getD (k - 1) (0, 0)).1
def thr (k j : Nat) : Int := if j = k - 1 then 2 else 1
def plOf (bs : List Bd) (p : Kj × Int) : Option Rw := if p.1.2 < p.1.1 ∧ p.2 - aOf bs p.1.1 ≥ thr p.1.1 p.1.2 then some (p.1.1, p.1.2, p.2 - aOf bs p.1.1) else none
def plL (rs : List Rw) (bs : List Bd) : List Rw := (gw rs).filterMap (plOf bs)
def waitsL (rs : List Rw) (bs : List Bd) (k j : Nat) : List Int := (rs.filter fun r => decide (r.1 = k) && decide (r.2.1 = j)).map fun r => r.2.2 - aOf bs k
def IsMax (m : Int) (l : List Int) : Prop := m ∈ l ∧ ∀ y ∈ l, y ≤ m
theorem max_ex : ∀ l : List Int, ∃ m, IsMax m (0 :: l)
  | [] => ⟨0, by simp [IsMax]⟩
  | x :: l => by
    obtain ⟨m, h1, h2⟩ := max_ex l
    by_cases c : x ≤ m
    · refine ⟨m, ?_, fun y hy => ?_⟩
      · rcases List.mem_cons.mp h1 with h | h
        · rw [h]; exact List.mem_cons_self
        · exact List.mem_cons_of_mem _ (List.mem_cons_of_mem _ h)
      · rcases List.mem_cons.mp hy with h | h
        · exact h2 y (by rw [h]; exact List.mem_cons_self)
        rcases List.mem_cons.mp h with h | h
        · rw [h]; exact c
        · exact h2 y (List.mem_cons_of_mem _ h)
    · refine ⟨x, by simp, fun y hy => ?_⟩
      rcases List.mem_cons.mp hy with h | h
      · have := h2 0 List.mem_cons_self
        omega
      rcases List.mem_cons.mp h with h | h
      · omega
      · have := h2 y (List.mem_cons_of_mem _ h)
        omega
noncomputable def tw (rs : List Rw) (bs : List Bd) (k j : Nat) : Int := (max_ex (waitsL rs bs k j)).choose
theorem tw_is (rs : List Rw) (bs : List Bd) (k j : Nat) : IsMax (tw rs bs k j) (0 :: waitsL rs bs k j) := (max_ex (waitsL rs bs k j)).choose_spec
theorem max_uniq {l : List Int} {a b : Int} (h1 : IsMax a l) (h2 : IsMax b l) : a = b := by
  have := h1.2 b h2.1
  have := h2.2 a h1.1
  omega
noncomputable def llOf (rs : List Rw) (bs : List Bd) (k j : Nat) : Option Rw := if tw rs bs k j > 1 ∨ (tw rs bs k j = 1 ∧ j < k - 1) then some (k, j, tw rs bs k j) else none
noncomputable def llRow (rs : List Rw) (bs : List Bd) (k : Nat) : List Rw := (List.range k).filterMap (llOf rs bs k)
noncomputable def llL (rs : List Rw) (bs : List Bd) (n : Nat) : List Rw := (List.range n).flatMap fun i => llRow rs bs (i + 1)
theorem ll_mem {rs : List Rw} {bs : List Bd} {n : Nat} {x : Rw} : x ∈ llL rs bs n ↔ 1 ≤ x.1 ∧ x.1 ≤ n ∧ x.2.1 < x.1 ∧ x.2.2 = tw rs bs x.1 x.2.1 ∧ x.2.2 ≥ thr x.1 x.2.1 := by
  unfold llL llRow
  rw [List.mem_flatMap]
  constructor
  · rintro ⟨i, hi, h⟩
    obtain ⟨j, hj, e⟩ := List.mem_filterMap.mp h
    rw [List.mem_range] at hi hj
    unfold llOf at e
    split at e
    · rename_i c
      have e := Option.some.inj e
      subst e
      refine ⟨by show 1 ≤ i + 1; omega, by show i + 1 ≤ n; omega, by show j < i + 1; omega, rfl, ?_⟩
      show tw rs bs (i + 1) j ≥ thr (i + 1) j
      unfold thr
      split <;> omega
    · cases e
  · rintro ⟨h1, h2, h3, h4, h5⟩
    refine ⟨x.1 - 1, List.mem_range.mpr (by omega), List.mem_filterMap.mpr ⟨x.2.1, List.mem_range.mpr (by omega), ?_⟩⟩
    have e : x.1 - 1 + 1 = x.1 := by omega
    rw [e]
    unfold llOf
    rw [if_pos]
    · rw [← h4]
    · unfold thr at h5
      rw [← h4]
      split at h5 <;> omega
theorem pl_mem {rs : List Rw} {bs : List Bd} {x : Rw} : x ∈ plL rs bs ↔ x.2.1 < x.1 ∧ (∃ r ∈ rs, r.1 = x.1 ∧ r.2.1 = x.2.1 ∧ r.2.2 - aOf bs x.1 = x.2.2) ∧ (∀ r ∈ rs, r.1 = x.1 → r.2.1 = x.2.1 → r.2.2 - aOf bs x.1 ≤ x.2.2) ∧ x.2.2 ≥ thr x.1 x.2.1 := by
  have G := gw_all rs
  unfold plL
  rw [List.mem_filterMap]
  constructor
  · rintro ⟨p, hp, e⟩
    unfold plOf at e
    split at e
    · rename_i c
      have e := Option.some.inj e
      subst e
      obtain ⟨⟨r, h1, h2, h3⟩, h4⟩ := G.is p hp
      refine ⟨c.1, ⟨r, h1, show r.1 = p.1.1 from congrArg Prod.fst h2, show r.2.1 = p.1.2 from congrArg Prod.snd h2, by show r.2.2 - _ = p.2 - _; rw [h3]⟩, fun r2 hr2 e1 e2 => ?_, c.2⟩
      have := h4 r2 hr2 (Prod.ext e1 e2)
      show r2.2.2 - aOf bs p.1.1 ≤ p.2 - aOf bs p.1.1
      omega
    · cases e
  · rintro ⟨h1, ⟨r, h2, h3, h4, h5⟩, h6, h7⟩
    obtain ⟨p, hp, e⟩ := G.all r h2
    obtain ⟨⟨r0, g1, g2, g3⟩, g4⟩ := G.is p hp
    have e1 : p.1.1 = x.1 := by rw [e]; exact h3
    have e2 : p.1.2 = x.2.1 := by rw [e]; exact h4
    have hle := g4 r h2 e.symm
    have hge := h6 r0 g1 ((congrArg Prod.fst g2).trans e1) ((congrArg Prod.snd g2).trans e2)
    have ev : p.2 - aOf bs x.1 = x.2.2 := by omega
    refine ⟨p, hp, ?_⟩
    unfold plOf
    rw [e1, e2, ev, if_pos ⟨h1, h7⟩]
theorem pl_ll {rs : List Rw} {bs : List Bd} {n : Nat} (hn : ∀ r ∈ rs, r.1 ≤ n) (x : Rw) : x ∈ plL rs bs ↔ x ∈ llL rs bs n := by
  rw [pl_mem, ll_mem]
  have tpos : 1 ≤ thr x.1 x.2.1 := by
    unfold thr
    split <;> decide
  have wm : ∀ y, y ∈ waitsL rs bs x.1 x.2.1 ↔ ∃ r ∈ rs, r.1 = x.1 ∧ r.2.1 = x.2.1 ∧ r.2.2 - aOf bs x.1 = y := fun y => by
    unfold waitsL
    rw [List.mem_map]
    constructor
    · rintro ⟨r, hr, e⟩
      obtain ⟨h1, h2⟩ := List.mem_filter.mp hr
      rw [Bool.and_eq_true, decide_eq_true_eq, decide_eq_true_eq] at h2
      exact ⟨r, h1, h2.1, h2.2, e⟩
    · rintro ⟨r, h1, h2, h3, h4⟩
      exact ⟨r, List.mem_filter.mpr ⟨h1, by rw [Bool.and_eq_true, decide_eq_true_eq, decide_eq_true_eq]; exact ⟨h2, h3⟩⟩, h4⟩
  have T := tw_is rs bs x.1 x.2.1
  constructor
  · rintro ⟨h1, ⟨r, h2, h3, h4, h5⟩, h6, h7⟩
    refine ⟨by omega, by have := hn r h2; omega, h1, max_uniq ⟨List.mem_cons_of_mem _ ((wm _).mpr ⟨r, h2, h3, h4, h5⟩), fun y hy => ?_⟩ T, h7⟩
    rcases List.mem_cons.mp hy with e | hy
    · omega
    · obtain ⟨r2, g1, g2, g3, g4⟩ := (wm y).mp hy
      rw [← g4]
      exact h6 r2 g1 g2 g3
  · rintro ⟨h1, h2, h3, h4, h5⟩
    rw [← h4] at T
    have hin : x.2.2 ∈ waitsL rs bs x.1 x.2.1 := by
      rcases List.mem_cons.mp T.1 with e | e
      · omega
      · exact e
    exact ⟨h3, (wm _).mp hin, fun r g1 g2 g3 => T.2 _ (List.mem_cons_of_mem _ ((wm _).mpr ⟨r, g1, g2, g3, rfl⟩)), h5⟩
/-! ### both in order -/
def kjLt (a b : Rw) : Prop := a.1 < b.1 ∨ (a.1 = b.1 ∧ a.2.1 < b.2.1)
theorem eq_of_strict {α : Type} {R : α → α → Prop} (ha : ∀ a b, R a b → ¬ R b a) : ∀ {l m : List α}, l.Pairwise R → m.Pairwise R → (∀ x, x ∈ l ↔ x ∈ m) → l = m
  | [], m, _, _, h => by
    cases m with
    | nil => rfl
    | cons b m => exact absurd ((h b).mpr List.mem_cons_self) (by simp)
  | a :: l, [], _, _, h => absurd ((h a).mp List.mem_cons_self) (by simp)
  | a :: l, b :: m, hl, hm, h => by
    rw [List.pairwise_cons] at hl hm
    have e : a = b := by
      rcases List.mem_cons.mp ((h a).mp List.mem_cons_self) with e | h1
      · exact e
      rcases List.mem_cons.mp ((h b).mpr List.mem_cons_self) with e | h2
      · exact e.symm
      exact absurd (hl.1 b h2) (ha _ _ (hm.1 a h1))
    subst e
    rw [eq_of_strict ha hl.2 hm.2 fun x => ?_]
    constructor
    · intro hx
      rcases List.mem_cons.mp ((h x).mp (List.mem_cons_of_mem _ hx)) with e | h1
      · rw [e] at hx
        exact absurd (hl.1 a hx) (ha _ _ (hl.1 a hx))
      · exact h1
    · intro hx
      rcases List.mem_cons.mp ((h x).mpr (List.mem_cons_of_mem _ hx)) with e | h1
      · rw [e] at hx
        exact absurd (hm.1 a hx) (ha _ _ (hm.1 a hx))
      · exact h1
theorem kjLt_asym (a b : Rw) (h : kjLt a b) : ¬ kjLt b a := by
  unfold kjLt at *
  omega
theorem ll_sorted (rs : List Rw) (bs : List Bd) (n : Nat) : (llL rs bs n).Pairwise kjLt := by
  unfold llL
  rw [List.pairwise_flatMap]
  refine ⟨fun i hi => ?_, List.Pairwise.imp_of_mem (fun {a b} ha hb hab x hx y hy => ?_) (List.pairwise_lt_range)⟩
  · unfold llRow
    rw [List.pairwise_filterMap]
    refine List.Pairwise.imp (fun {a b} hab x hx y hy => ?_) (List.pairwise_lt_range)
    unfold llOf at hx hy
    split at hx
    · split at hy
      · have hx := Option.some.inj hx
        have hy := Option.some.inj hy
        subst hx hy
        exact .inr ⟨rfl, hab⟩
      · cases hy
    · cases hx
  · unfold llRow at hx hy
    obtain ⟨j, _, e1⟩ := List.mem_filterMap.mp hx
    obtain ⟨j2, _, e2⟩ := List.mem_filterMap.mp hy
    unfold llOf at e1 e2
    split at e1
    · split at e2
      · have e1 := Option.some.inj e1
        have e2 := Option.some.inj e2
        subst e1 e2
        exact .inl (by show a + 1 < b + 1; omega)
      · cases e2
    · cases e1
def rwL (r : Rw) : List Int := [(r.1 : Int), (r.2.1 : Int), r.2.2]
def rwLe (a b : Rw) : Bool := !decide (rwL b < rwL a)
theorem rwLe_data (a b : Rw) : rwLe a b = dataLe false id (rwD a) (rwD b) := by
  rw [PySem.W.dataLe_eq]
  show _ = !dataLt (rwD b) (rwD a)
  unfold rwLe
  rw [← PySem.W.dataLt_ints]
  rfl
theorem rwL_lt (a b : Rw) : rwL a < rwL b ↔ ((a.1 : Int) < b.1 ∨ ((a.1 : Int) = b.1 ∧ ((a.2.1 : Int) < b.2.1 ∨ ((a.2.1 : Int) = b.2.1 ∧ a.2.2 < b.2.2)))) := by
  unfold rwL
  rw [List.cons_lt_cons_iff, List.cons_lt_cons_iff, List.cons_lt_cons_iff]
  simp
def srtRw (l : List Rw) : List Rw := l.mergeSort rwLe
theorem srtRw_eq (l : List Rw) : srtD (l.map rwD) = (srtRw l).map rwD := (sort_maps rwD fun a _ b _ => rwLe_data a b).symm
theorem rwLe_iff (a b : Rw) : rwLe a b = true ↔ ¬ rwL b < rwL a := by
  unfold rwLe
  simp
theorem srt_sorted (l : List Rw) : (srtRw l).Pairwise fun a b => rwLe a b = true := by
  refine List.pairwise_mergeSort (fun a b c h1 h2 => ?_) (fun a b => ?_) l
  · rw [rwLe_iff, rwL_lt] at *
    omega
  · rw [Bool.or_eq_true, rwLe_iff, rwLe_iff, rwL_lt, rwL_lt]
    omega
theorem pl_nodup (rs : List Rw) (bs : List Bd) : (plL rs bs).Pairwise fun a b => (a.1, a.2.1) ≠ (b.1, b.2.1) := by
  unfold plL
  rw [List.pairwise_filterMap]
  have h := (gw_all rs).nd
  rw [List.Nodup, List.pairwise_map] at h
  refine List.Pairwise.imp (fun {a b} hab x hx y hy => ?_) h
  unfold plOf at hx hy
  split at hx
  · split at hy
    · have hx := Option.some.inj hx
      have hy := Option.some.inj hy
      subst hx hy
      exact fun e => hab e
    · cases hy
  · cases hx
theorem srt_pl {rs : List Rw} {bs : List Bd} {n : Nat} (hn : ∀ r ∈ rs, r.1 ≤ n) : srtRw (plL rs bs) = llL rs bs n := by
  have hp : (srtRw (plL rs bs)).Perm (plL rs bs) := List.mergeSort_perm _ _
  refine eq_of_strict kjLt_asym ?_ (ll_sorted rs bs n) fun x => hp.mem_iff.trans (pl_ll hn x)
  have h1 := srt_sorted (plL rs bs)
  have h2 : (srtRw (plL rs bs)).Pairwise fun a b => (a.1, a.2.1) ≠ (b.1, b.2.1) := (hp.pairwise_iff fun {a b} h e => h e.symm).mpr (pl_nodup rs bs)
  refine (List.pairwise_and_iff.mpr ⟨h1, h2⟩).imp fun {a b} h => ?_
  obtain ⟨h3, h4⟩ := h
  rw [rwLe_iff, rwL_lt] at h3
  have h4 : ¬ (a.1 = b.1 ∧ a.2.1 = b.2.1) := fun e => h4 (Prod.ext e.1 e.2)
  unfold kjLt
  omega
open PySem PySem.Spec PyProof.Rows L2
open PySem.W (EachIs AllAlike Sortable)
/-- an own new dict is changed -/
theorem Ext.ownT {T : List (Addr × Str)} {ms : List Addr} {H H1 : Hp} {p : Addr} {kvs : List (List L2.Key × V)} {u : HO} (e : Ext T ms H H1) (hn : Nw H p) (h : H1 p = some (.dT kvs)) : Ext T ms H (upd H1 p u) := ⟨fun b x hb hx q => by
  rw [upd_ne (hn.ne q hx)]
  exact e.keep b x hb hx q, fun t => by
  intro q hq
  obtain ⟨ps, h1, h2, h3⟩ := e.tabs t q hq
  refine ⟨ps, ?_, h2, fun pos cv hc => ?_⟩
  · rw [upd_ne]
    · exact h1
    · intro z
      rw [z, h] at h1
      cases h1
  · obtain ⟨c, e1, e2⟩ := h3 pos cv hc
    refine ⟨c, e1, ?_⟩
    rw [upd_ne]
    · exact e2
    · intro z
      rw [z, h] at e2
      unfold LamX.CodeO at e2
      cases e2⟩
theorem dT.x {T : List (Addr × Str)} {H H' : Hp} {a : Addr} {kvs : List (List L2.Key × V)} (h : H a = some (.dT kvs)) (e : Ext T [] H H') : H' a = some (.dT kvs) := e.keep a _ (by simp) (fun _ z => by cases z) h
section
variable {K : PySem.W.Frag} {σ : L2.St} {H : Hp} {Q : VK} {td ty tv tx te : TE} {nx bk ct : L2.St → Hp → Prop} {rt : VK}
theorem rd_dput (q : tv σ H fun v H1 => td σ H1 fun x H2 => ty σ H2 fun y H3 => ∃ a H4, x = .ref a ∧ DPut H3 a y v H4 ∧ nx σ H4) : sDPut td ty tv ⟨nx, rt, bk, ct⟩ σ H := q
theorem rd_dget2 (q : td σ H fun x H1 => ∃ a, x = .ref a ∧ IsD H1 a ∧ ty σ H1 fun y H2 => tx σ H2 fun z H3 => ∃ o, DGet H3 a y o ∧ Q (o.getD z) H3) : tDGet2 td ty tx σ H Q := q
theorem rd_dnewT (q : ∀ p, H p = none → Q (.ref p) (upd H p (.dT []))) : tDNewT σ H Q := q
theorem rd_itemsT {R : It → Hp → Prop} (q : te σ H fun x H1 => ∃ (d : Addr) (kvs : List (List L2.Key × V)), x = .ref d ∧ H1 d = some (.dT kvs) ∧ ∀ o, R (ItiT d o kvs) (upd H1 d (.frz o (.dT kvs)))) : iItemsT te σ H R := q
end
def impB (r : Rw) : Bool := (decide (r.1 = r.2.1) && decide (r.2.2 > 0)) || (decide (0 < r.1) && decide (r.1 < r.2.1) && decide (r.2.2 > (r.1 : Int) - (r.2.1 : Int)))
noncomputable def torF (rs : List Rw) (bs : List Bd) (n : Nat) : Option (List Rw) :=
  if (rs.any impB) = true then none else if (rs.all fun r => !(decide (r.1 = 0) && decide (0 < r.2.1) && decide ((runF (llL rs bs n) [] [] (bs.map (·.2))).2.getD (r.2.1 - 1) 0 > 0 - r.2.2))) = true then some (llL rs bs n) else none
def opT : Option (List Rw) → PyData
  | none => .none
  | some t => .tuple (t.map rwD)
section
variable (T : List (Addr × Str)) (K : PySem.W.Frag)
def spGreat : Sp := fun vs H Q _ => ∃ (a : Addr) (kd : Bool) (rs : List Rw), vs = [.ref a] ∧ DsK K kd H a (rs.map rwD) ∧ rs.length ≤ 100 ∧ ∀ p H', Nw H p → Ext T [] H H' → H' p = some (.dT (kvG (gw rs))) → Q (.ref p) H'
def spImp : Sp := fun vs H Q _ => ∃ (v : V) (r : Rw), vs = [v] ∧ Im H v (rwD r) ∧ Q (.bl (impB r)) H
def spWaits : Sp := fun vs H Q _ => ∃ (a : Addr) (kd : Bool) (vb : V) (rs : List Rw) (bs : List Bd), vs = [.ref a, vb] ∧ DsK K kd H a (rs.map rwD) ∧ Im H vb (.tuple (bs.map bdD)) ∧ RwIn bs.length rs ∧ rs.length ≤ 100 ∧
  ∀ v H', Ext T [] H H' → Im H' v (.tuple ((llL rs bs bs.length).map rwD)) → Q v H'
def spMost : Sp := fun vs H Q _ => ∃ (vb : V) (bs : List Bd), vs = [vb] ∧ Im H vb (.tuple (bs.map bdD)) ∧ bs.length ≤ 100 ∧ ∀ v H', Ext T [] H H' → Im H' v (.tuple ((bs.map (·.2)).map .int)) → Q v H'
def spTor : Sp := fun vs H Q _ => ∃ (a : Addr) (kd : Bool) (vb : V) (rs : List Rw) (bs : List Bd), vs = [.ref a, vb] ∧ DsK K kd H a (rs.map rwD) ∧ Im H vb (.tuple (bs.map bdD)) ∧ RwIn bs.length rs ∧ rs.length ≤ 100 ∧ BdOk bs ∧ bs.length ≤ 6 ∧
  ∀ v H', Ext T [] H H' → Im H' v (opT (torF rs bs bs.length)) → Q v H'
def keepsB2 (rs : List Rw) (ms : List Int) : Bool := rs.all fun r => decide (fn (0 :: ms) r.1 - fn (0 :: ms) r.2.1 ≥ r.2.2)
def spKeeps2 : Sp := fun vs H Q _ => ∃ (a b : Addr) (k1 k2 : Bool) (rs : List Rw) (ms : List Int), vs = [.ref a, .ref b] ∧ DsK K k1 H a (rs.map rwD) ∧ SqK K k2 H b (ms.map V.int) ∧ RwIn ms.length rs ∧ ms.length ≤ 12 ∧ rs.length ≤ 100 ∧
  ∀ H', Ext T [] H H' → Q (.bl (keepsB2 rs ms)) H'
end
theorem bls_of2 {H : Hp} {g : Rw → Bool} : ∀ {ys xs : List V} {rs : List Rw}, EachIs (fun y x => ∃ r, Im H x (rwD r) ∧ y = V.bl (g r)) ys xs → ImAll H xs (rs.map rwD) → ys = (rs.map g).map V.bl
  | _, _, [], h1, h2 => by
    cases h2
    cases h1
    rfl
  | _, _, r :: rs, h1, h2 => by
    cases h2 with
    | cons a b =>
      cases h1 with
      | cons c d =>
        obtain ⟨r', c1, c2⟩ := c
        have e := rwD_inj (Im.inj _ _ _ a c1)
        rw [bls_of2 d b, c2, ← e]
        rfl
theorem alike_rw (l : List Rw) : AllAlike (l.map rwD) := fun d hd e he => by
  obtain ⟨y, _, rfl⟩ := List.mem_map.mp hd
  obtain ⟨z, _, rfl⟩ := List.mem_map.mp he
  rfl
theorem sortable_rw (l : List Rw) : Sortable (l.map rwD) := .inl fun d hd => by
  obtain ⟨y, _, rfl⟩ := List.mem_map.mp hd
  exact ⟨_, _, rfl⟩
theorem depth_rws (l : List Rw) : ∀ d ∈ l.map rwD, d.depth ≤ 60 := fun d hd => by
  obtain ⟨y, _, rfl⟩ := List.mem_map.mp hd
  show 0 + 1 ≤ 60
  omega
open PySem PySem.Spec PyProof.Rows L2
open PySem.W (EachIs AllAlike Sortable)
theorem eachs_of {α : Type} {f : α → PyData} (hf : ∀ a b, f a = f b → a = b) {H : Hp} {g : α → V} : ∀ {ys xs : List V} {as : List α}, EachIs (fun y x => ∃ r, Im H x (f r) ∧ y = g r) ys xs → ImAll H xs (as.map f) → ys = as.map g
  | _, _, [], h1, h2 => by
    cases h2
    cases h1
    rfl
  | _, _, r :: rs, h1, h2 => by
    cases h2 with
    | cons a b =>
      cases h1 with
      | cons c d =>
        obtain ⟨r', c1, c2⟩ := c
        have e := hf _ _ (Im.inj _ _ _ a c1)
        rw [eachs_of hf d b, c2, ← e]
        rfl
theorem bdD_inj (a b : Bd) (h : bdD a = bdD b) : a = b := by
  unfold bdD at h
  injection h with h
  injection h with h1 h
  injection h with h2 _
  injection h1 with h1
  injection h2 with h2
  exact Prod.ext h1 h2
theorem rd_any {K : PySem.W.Frag} {H : Hp} {Q : VK} {a : Addr} {bs : List Bool} (h : SqL K H a (bs.map V.bl)) (q : Q (.bl (bs.any id)) H) : rAny K [.ref a] H Q := ⟨a, bs, rfl, h, q⟩
theorem runF_len {tb : List Rw} : ∀ (ds as dn : List Int), (runF tb as dn ds).2.length = dn.length + ds.length
  | [], as, dn => rfl
  | d :: ds, as, dn => by
    show (runF tb (as ++ [askF tb dn]) (dn ++ [askF tb dn + d]) ds).2.length = _
    rw [runF_len ds]
    simp only [List.length_append, List.length_cons, List.length_nil]
    omega
theorem areD_most {bs : List Bd} (h : BdOk bs) : areD bs (bs.map (·.2)) = true := by
  refine areD_iff.mpr ⟨by rw [List.length_map], fun j hj => ?_⟩
  rw [List.length_map] at hj
  have hb := h bs[j] (List.getElem_mem hj)
  have e1 : bs.getD j (0, 0) = bs[j] := getD_of (List.getElem?_eq_getElem hj)
  have e2 : (bs.map (·.2)).getD j 0 = bs[j].2 := getD_of (by rw [List.getElem?_map, List.getElem?_eq_getElem hj]; rfl)
  rw [e1, e2]
  omega
theorem fn_cons {done : List Int} {j : Nat} (h : 0 < j) : fn (0 :: done) j = done.getD (j - 1) 0 := by
  unfold fn
  obtain ⟨i, rfl⟩ : ∃ i, j = i + 1 := ⟨j - 1, by omega⟩
  rfl
theorem tor_keeps {rs : List Rw} {done : List Int} (h : rs.any impB = false) :
    keepsB2 (rs.filter fun r => decide (r.1 = 0)) done = rs.all fun r => !(decide (r.1 = 0) && decide (0 < r.2.1) && decide (done.getD (r.2.1 - 1) 0 > 0 - r.2.2)) := by
  unfold keepsB2
  rw [List.all_filter]
  have all_c : ∀ {f g : Rw → Bool}, (∀ r ∈ rs, f r = g r) → rs.all f = rs.all g := by
    intro f g h
    rw [Bool.eq_iff_iff, List.all_eq_true, List.all_eq_true]
    exact ⟨fun h2 r hr => by rw [← h r hr]; exact h2 r hr, fun h2 r hr => by rw [h r hr]; exact h2 r hr⟩
  refine all_c fun r hr => ?_
  have hi : impB r = false := by
    cases e : impB r with
    | false => rfl
    | true => exact absurd (List.any_eq_true.mpr ⟨r, hr, e⟩) (by rw [h]; decide)
  by_cases c0 : r.1 = 0
  · have f0 : fn (0 :: done) r.1 = 0 := by rw [c0]; rfl
    rw [f0, decide_eq_true c0]
    by_cases c1 : 0 < r.2.1
    · rw [fn_cons c1, decide_eq_true c1]
      by_cases c2 : done.getD (r.2.1 - 1) 0 > 0 - r.2.2
      · rw [decide_eq_true c2, decide_eq_false (show ¬ 0 - done.getD (r.2.1 - 1) 0 ≥ r.2.2 by omega)]
        rfl
      · rw [decide_eq_false c2, decide_eq_true (show 0 - done.getD (r.2.1 - 1) 0 ≥ r.2.2 by omega)]
        rfl
    · have c1' : r.2.1 = 0 := by omega
      rw [decide_eq_false c1]
      have f1 : fn (0 :: done) r.2.1 = 0 := by rw [c1']; rfl
      rw [f1]
      have hl : r.2.2 ≤ 0 := by
        unfold impB at hi
        rw [Bool.or_eq_false_iff] at hi
        have h2 := hi.1
        rw [decide_eq_true (show r.1 = r.2.1 by omega), Bool.true_and] at h2
        have := of_decide_eq_false h2
        omega
      rw [decide_eq_true (show (0 : Int) - 0 ≥ r.2.2 by omega)]
      rfl
  · rw [decide_eq_false c0]
    rfl
theorem opT_dep (o : Option (List Rw)) : (opT o).depth ≤ 64 := by
  cases o with
  | none => show 0 ≤ 64; decide
  | some t =>
    show PyData.depthAll (t.map rwD) + 1 ≤ 64
    have := dep_map dep_rw2 t
    omega
open PySem PySem.Spec PyProof.Rows L2
theorem rd_cutT {c : TT} {σ : L2.St} {H : Hp} {Q : Bool → Hp → Prop} (Mid : Bool → Hp → Prop) (h1 : ∀ Q' : Bool → Hp → Prop, (∀ b H', Mid b H' → Q' b H') → c σ H Q') (h2 : ∀ b H', Mid b H' → Q b H') : c σ H Q := h1 Q h2
theorem rd_isnN {x : V} {H : Hp} {Q : VK} (q : Q (.bl (!decide (x = .non))) H) : rIsNU x .non H Q := .inr ⟨rfl, q⟩
theorem rd_neLs2 {K : PySem.W.Frag} {H : Hp} {Q : VK} {a b : Addr} {ds : List PyData} (ha : Ls H a ds) (hb : Ls H b ds) (hd : PyData.depth (.list ds) ≤ 64) (q : Q (.bl false) H) : rNeU K (.ref a) (.ref b) H Q := by
  have hs : SeqAt.shaped (.list ds) = true := by
    obtain ⟨xs, _, e2⟩ := ha
    unfold SeqAt.shaped
    rw [show PyData.canLay0 (.list ds) = true from ImAll.lay ds _ e2, decide_eq_true hd]
    rfl
  refine .inr ⟨_, _, ha.dp, hb.dp, hs, hs, ?_⟩
  have he : PyData.eqv (.list ds) (.list ds) = true := by
    obtain ⟨xs, _, e2⟩ := ha
    exact (ImAll.eqv ds ds _ _ e2 e2).mpr rfl
  rw [he]
  exact q
theorem dep_rws2 (rs : List Rw) : PyData.depth (.list (rs.map rwD)) ≤ 64 := by
  have h := dep_map (f := rwD) dep_rw2 rs
  show PyData.depthAll (rs.map rwD) + 1 ≤ 64
  omega
def spRows2 (T : List (Addr × Str)) : Sp := fun vs H Q _ => ∃ (l t : Addr) (n : Nat), vs = [.ref t, .int (n : Int)] ∧ 1 ≤ n ∧ n ≤ 6 ∧ Tape l H t ∧
  ∀ p H' rs, Nw H p → Ext T [t] H H' → Tape l H' t → Ls H' p (rs.map rwD) → RwIn n rs → rs.length ≤ 30 → Q (.ref p) H'

open PySem PySem.Spec PyProof.Rows L2
abbrev S (l : List Nat) : Str := ⟨l.toArray⟩
theorem S_sg (x : Str) : S (sg x) = x := TL.mk_tl x
theorem sg_S (l : List Nat) : sg (S l) = l := rfl
/-! the text of a book: lines of entries -/
abbrev Ent := Str × Nat × Nat
def entD (e : Ent) : PyData := .tuple [.str e.1, .int (e.2.1 : Int), .int (e.2.2 : Int)]
def askedS : Str := "asked"
def doneS : Str := "done"
def digB (c : Nat) : Bool := decide (48 ≤ c) && decide (c ≤ 57)
def numBL (b : List Nat) : Bool := (decide (1 ≤ b.length) && (decide (b.length ≤ 5) && b.all digB)) && (decide (b = [48]) || !decide (b.head? = some 48))
def lastM (es : List Ent) : Nat := match es.getLast? with | none => 0 | some e => e.2.2
def lastK (es : List Ent) : Nat := match es.getLast? with | none => 0 | some e => e.2.1
def isEntV (es : List Ent) (e : Ent) : Bool :=
  if es.length % 2 = 0 then decide (e.1 = askedS) && (decide (lastM es < e.2.2) && decide (e.2.1 = es.length / 2 + 1))
  else decide (e.1 = doneS) && (decide (lastM es ≤ e.2.2) && decide (e.2.1 = lastK es))
def entL : List (List Nat) → Option Ent
  | [a, b, c] => if numBL b && numBL c then some (S a, NumText.digitsVal b, NumText.digitsVal c) else none
  | _ => none
def isEntL (es : List Ent) (ps : List (List Nat)) : Bool := match entL ps with | some e => isEntV es e | none => false
def wordsL (l : List Nat) : List (List Nat) := TL.spl [32] 0 [] l
def rdL : List (List Nat) → List Ent → Nat → Except Nat (List Ent)
  | [], es, _ => .ok es
  | l :: ls, es, k => match entL (wordsL l) with
    | some e => if isEntV es e = true then rdL ls (es ++ [e]) (k + 1) else .error k
    | none => .error k
def linesL (z : List Nat) : List (List Nat) := (TL.spl [10] 0 [] z).dropLast
def lineP (e : Ent) : List (List Nat) := [sg e.1, TL.numL e.2.1, TL.numL e.2.2]
def lineL (e : Ent) : List Nat := TL.joinL [32] (lineP e)
def nls (ls : List (List Nat)) : List Nat := (ls.map (· ++ [10])).flatten
theorem nls_cons (l : List Nat) (r : List (List Nat)) : nls (l :: r) = l ++ (10 :: nls r) := by
  unfold nls
  simp
theorem nls_app (a b : List (List Nat)) : nls (a ++ b) = nls a ++ nls b := by
  unfold nls
  simp
theorem spl_nls : ∀ (ls : List (List Nat)) (t : List Nat), (∀ l ∈ ls, 10 ∉ l) → 10 ∉ t → TL.spl [10] 0 [] (nls ls ++ t) = ls ++ [t]
  | [], t, _, ht => by
    have := TL.spl_last1 (s := 10) (S := []) (acc := []) ht
    exact this
  | l :: r, t, h, ht => by
    have h1 := TL.spl_part1 (s := 10) (S := []) (acc := []) (rest := nls r ++ t) (h l List.mem_cons_self)
    rw [nls_cons]
    have e : l ++ 10 :: nls r ++ t = l ++ ([10] ++ (nls r ++ t)) := by simp
    rw [e]
    refine h1.trans ?_
    rw [spl_nls r t (fun x hx => h x (List.mem_cons_of_mem _ hx)) ht]
    rfl
theorem lines_nls {ls : List (List Nat)} {t : List Nat} (h : ∀ l ∈ ls, 10 ∉ l) (ht : 10 ∉ t) : linesL (nls ls ++ t) = ls := by
  unfold linesL
  rw [spl_nls ls t h ht, List.dropLast_concat]
theorem take_nls : ∀ (ls : List (List Nat)) (m : Nat), (∀ l ∈ ls, 10 ∉ l) → ∃ w t, w ≤ ls.length ∧ 10 ∉ t ∧ (nls ls).take m = nls (ls.take w) ++ t
  | [], m, _ => ⟨0, [], Nat.le_refl _, by simp, by unfold nls; simp⟩
  | l :: r, m, h => by
    by_cases hm : m ≤ l.length
    · refine ⟨0, l.take m, Nat.zero_le _, fun hx => h l List.mem_cons_self (List.mem_of_mem_take hx), ?_⟩
      rw [nls_cons, List.take_append_of_le_length hm]
      rfl
    · obtain ⟨w, t, h1, h2, h3⟩ := take_nls r (m - (l.length + 1)) fun x hx => h x (List.mem_cons_of_mem _ hx)
      refine ⟨w + 1, t, by simpa using h1, h2, ?_⟩
      obtain ⟨d, rfl⟩ : ∃ d, m = l.length + (d + 1) := ⟨m - l.length - 1, by omega⟩
      have ed : l.length + (d + 1) - (l.length + 1) = d := by omega
      rw [ed] at h3
      rw [nls_cons, List.take_length_add_append, List.take_succ_cons, h3, List.take_succ_cons, nls_cons]
      simp
/-! numbers -/
theorem num_dig (n : Nat) : (TL.numL n).all digB = true := by
  have h := TL.numL_digits n
  rw [List.all_eq_true]
  intro c hc
  have := h c hc
  unfold digB
  rw [Bool.and_eq_true, decide_eq_true_eq, decide_eq_true_eq]
  exact this
theorem num_head : ∀ (n : Nat), 0 < n → (TL.numL n).head? ≠ some 48
  | n, h => by
    by_cases h1 : n < 10
    · rw [TL.numL_lt h1]
      intro e
      have e := Option.some.inj e
      omega
    · rw [TL.numL_step (by omega)]
      have ih := num_head (n / 10) (by omega)
      have hne := TL.numL_ne (n / 10)
      cases hl : TL.numL (n / 10) with
      | nil => exact absurd hl hne
      | cons a r =>
        rw [hl] at ih
        exact ih
theorem num_ok {n : Nat} (h : n < 100000) : numBL (TL.numL n) = true := by
  unfold numBL
  have h1 : 1 ≤ (TL.numL n).length := by
    have := TL.numL_ne n
    have := List.length_pos_iff.mpr this
    omega
  have h2 : (TL.numL n).length ≤ 5 := TL.numL_len (by decide) (by simpa using h)
  rw [decide_eq_true h1, decide_eq_true h2, num_dig]
  by_cases h0 : n = 0
  · subst h0
    rfl
  · rw [decide_eq_false (num_head n (by omega))]
    simp
theorem num_free {n s : Nat} (h : s < 48 ∨ 57 < s) : s ∉ TL.numL n := TL.numL_free h
/-! an entry's line -/
def freeP (ps : List (List Nat)) : Prop := ∀ p ∈ ps, 32 ∉ p ∧ 10 ∉ p
theorem words_join {ps : List (List Nat)} (hne : ps ≠ []) (h : freeP ps) : wordsL (TL.joinL [32] ps) = ps := TL.spl_join hne fun p hp => (h p hp).1
theorem join_free : ∀ {ps : List (List Nat)}, freeP ps → 10 ∉ TL.joinL [32] ps
  | [], _ => by simp [TL.joinL]
  | [p], h => (h p List.mem_cons_self).2
  | p :: q :: r, h => by
    show 10 ∉ p ++ ([32] ++ TL.joinL [32] (q :: r))
    have ih := join_free (ps := q :: r) fun x hx => h x (List.mem_cons_of_mem _ hx)
    intro hx
    rcases List.mem_append.mp hx with hx | hx
    · exact (h p List.mem_cons_self).2 hx
    · rcases List.mem_append.mp hx with hx | hx
      · simp at hx
      · exact ih hx
def EntOk (e : Ent) : Prop := (e.1 = askedS ∨ e.1 = doneS) ∧ e.2.1 < 100000 ∧ e.2.2 < 100000
theorem word_free {a : Str} (h : a = askedS ∨ a = doneS) : 32 ∉ sg a ∧ 10 ∉ sg a := by
  rcases h with rfl | rfl <;> decide +kernel
theorem line_free {e : Ent} (h : EntOk e) : freeP (lineP e) := fun p hp => by
  rcases List.mem_cons.mp hp with rfl | hp
  · exact word_free h.1
  rcases List.mem_cons.mp hp with rfl | hp
  · exact ⟨num_free (.inl (by decide)), num_free (.inl (by decide))⟩
  rw [List.mem_singleton.mp hp]
  exact ⟨num_free (.inl (by decide)), num_free (.inl (by decide))⟩
theorem line_words {e : Ent} (h : EntOk e) : entL (wordsL (lineL e)) = some e := by
  unfold lineL
  rw [words_join (by unfold lineP; simp) (line_free h)]
  show (if (numBL (TL.numL e.2.1) && numBL (TL.numL e.2.2)) = true then some (S (sg e.1), NumText.digitsVal (TL.numL e.2.1), NumText.digitsVal (TL.numL e.2.2)) else none) = some e
  rw [num_ok h.2.1, num_ok h.2.2, if_pos (show (true && true) = true from rfl)]
  rw [TL.numL_val, TL.numL_val, S_sg]
/-- a history that a book may hold -/
def Good (es : List Ent) : Prop := ∀ i e, es[i]? = some e → EntOk e ∧ isEntV (es.take i) e = true
theorem Good.take {es : List Ent} (h : Good es) (n : Nat) : Good (es.take n) := fun i e hi => by
  have hl : i < (es.take n).length := (List.getElem?_eq_some_iff.mp hi).1
  rw [List.length_take] at hl
  rw [List.getElem?_take_of_lt (by omega)] at hi
  have := h i e hi
  rw [List.take_take, Nat.min_eq_left (by omega)]
  exact this
theorem rdL_good {es : List Ent} (h : Good es) (rest : List (List Nat)) : ∀ (n : Nat), n ≤ es.length → ∀ k, rdL ((es.drop (es.length - n)).map lineL ++ rest) (es.take (es.length - n)) k = rdL rest es (k + n)
  | 0, _, k => by
    rw [Nat.sub_zero, List.drop_length, List.take_length]
    rfl
  | n + 1, hn, k => by
    have hi : es.length - (n + 1) < es.length := by omega
    have e1 : es.length - (n + 1) + 1 = es.length - n := by omega
    have hd := List.drop_eq_getElem_cons hi
    obtain ⟨g1, g2⟩ := h _ _ (List.getElem?_eq_getElem hi)
    rw [hd]
    show (match entL (wordsL (lineL es[es.length - (n + 1)])) with
      | some e => if isEntV (es.take (es.length - (n + 1))) e = true then rdL ((es.drop (es.length - (n + 1) + 1)).map lineL ++ rest) (es.take (es.length - (n + 1)) ++ [e]) (k + 1) else .error k
      | none => .error k) = _
    rw [line_words g1]
    show (if isEntV (es.take (es.length - (n + 1))) es[es.length - (n + 1)] = true then _ else _) = _
    rw [if_pos g2, List.take_append_getElem hi, e1, rdL_good h rest n (by omega) (k + 1)]
    congr 1
    omega
theorem rdL_all {es : List Ent} (h : Good es) (rest : List (List Nat)) : rdL (es.map lineL ++ rest) [] 1 = rdL rest es (es.length + 1) := by
  have := rdL_good h rest es.length (Nat.le_refl _) 1
  rw [Nat.sub_self] at this
  rw [Nat.add_comm]
  exact this
theorem rdL_one {es : List Ent} (h : Good es) : rdL (es.map lineL) [] 1 = .ok es := by
  have := rdL_all h []
  rw [List.append_nil] at this
  exact this
theorem Good.free {es : List Ent} (h : Good es) : ∀ l ∈ es.map lineL, 10 ∉ l := fun l hl => by
  obtain ⟨e, he, rfl⟩ := List.mem_map.mp hl
  obtain ⟨i, hi⟩ := List.getElem?_of_mem he
  exact join_free (line_free (h i e hi).1)
/-! lines that are no entry -/
theorem last_take {es : List Ent} {j : Nat} {e : Ent} (h : es[j]? = some e) : (es.take (j + 1)).getLast? = some e := by
  have hj := (List.getElem?_eq_some_iff.mp h).1
  rw [List.getLast?_eq_getElem?, List.length_take, Nat.min_eq_left (by omega), Nat.add_sub_cancel, List.getElem?_take_of_lt (by omega)]
  exact h
theorem lastM_take {es : List Ent} {j : Nat} {e : Ent} (h : es[j]? = some e) : lastM (es.take (j + 1)) = e.2.2 := by
  unfold lastM
  rw [last_take h]
theorem lastK_take {es : List Ent} {j : Nat} {e : Ent} (h : es[j]? = some e) : lastK (es.take (j + 1)) = e.2.1 := by
  unfold lastK
  rw [last_take h]
theorem entV_even {es : List Ent} {e : Ent} (h : es.length % 2 = 0) : isEntV es e = true ↔ e.1 = askedS ∧ lastM es < e.2.2 ∧ e.2.1 = es.length / 2 + 1 := by
  unfold isEntV
  rw [if_pos h, Bool.and_eq_true, Bool.and_eq_true, decide_eq_true_eq, decide_eq_true_eq, decide_eq_true_eq]
theorem entV_odd {es : List Ent} {e : Ent} (h : ¬ es.length % 2 = 0) : isEntV es e = true ↔ e.1 = doneS ∧ lastM es ≤ e.2.2 ∧ e.2.1 = lastK es := by
  unfold isEntV
  rw [if_neg h, Bool.and_eq_true, Bool.and_eq_true, decide_eq_true_eq, decide_eq_true_eq, decide_eq_true_eq]
theorem take_len {es : List Ent} {i : Nat} {e : Ent} (h : es[i]? = some e) : (es.take i).length = i := by
  have := (List.getElem?_eq_some_iff.mp h).1
  rw [List.length_take]
  omega
theorem good_pos {es : List Ent} (h : Good es) : ∀ (i : Nat) (e : Ent), es[i]? = some e → 1 ≤ e.2.1 ∧ 1 ≤ e.2.2 := by
  have even : ∀ (i : Nat) (e : Ent), i % 2 = 0 → es[i]? = some e → 1 ≤ e.2.1 ∧ 1 ≤ e.2.2 := fun i e hi he => by
    obtain ⟨_, g⟩ := h i e he
    rw [entV_even (by rw [take_len he]; exact hi)] at g
    omega
  intro i e he
  by_cases hi : i % 2 = 0
  · exact even i e hi he
  · obtain ⟨_, g⟩ := h i e he
    rw [entV_odd (by rw [take_len he]; exact hi)] at g
    obtain ⟨j, rfl⟩ : ∃ j, i = j + 1 := ⟨i - 1, by omega⟩
    have hj := (List.getElem?_eq_some_iff.mp he).1
    have hp : es[j]? = some es[j] := List.getElem?_eq_getElem (by omega)
    have g2 := even j _ (by omega) hp
    rw [lastM_take hp, lastK_take hp] at g
    omega
def otherS (a : Str) : Str := if a = askedS then doneS else askedS
def earlyN (pre : List Ent) (a : Str) : Nat := if a = doneS then lastM pre - 1 else lastM pre
def badP (pre : List Ent) (e : Ent) : List (List (List Nat)) :=
  let a := sg e.1
  let k := TL.numL e.2.1
  let m := TL.numL e.2.2
  [[sg (otherS e.1), k, m], [a, TL.numL (e.2.1 + 1), m], [a, k], [a, k, m, []], [[]], [a, 48 :: k, m], [a, [], k, m], [a, k, m ++ [120]], [a, k, 48 :: m],
   [a, k, TL.numL (earlyN pre e.1)], [a, TL.numL (e.2.1 - 1), m], [a, k, TL.numL 100000], [(sg e.1).map PyProof.Rows.up1]]
theorem num_zero {l : List Nat} (h : l ≠ []) : numBL (48 :: l) = false := by
  unfold numBL
  have e : (48 :: l = [48]) = False := by simpa using h
  rw [show decide (48 :: l = [48]) = false from decide_eq_false (by simpa using h), show decide ((48 :: l).head? = some 48) = true from decide_eq_true rfl]
  simp
theorem num_x (l : List Nat) : numBL (l ++ [120]) = false := by
  unfold numBL
  rw [List.all_append, show [120].all digB = false from by decide, Bool.and_false, Bool.and_false, Bool.and_false, Bool.false_and]
theorem entL3 {a b c : List Nat} (h : (numBL b && numBL c) = false) (pre : List Ent) : isEntL pre [a, b, c] = false := by
  unfold isEntL
  show (match (if (numBL b && numBL c) = true then some (S a, NumText.digitsVal b, NumText.digitsVal c) else none) with | some e => isEntV pre e | none => false) = false
  rw [h]
  rfl
theorem entL3t {a : Str} {k m : Nat} (hk : k < 100000) (hm : m < 100000) {pre : List Ent} (h : isEntV pre (a, k, m) = false) : isEntL pre [sg a, TL.numL k, TL.numL m] = false := by
  unfold isEntL
  show (match (if (numBL (TL.numL k) && numBL (TL.numL m)) = true then some (S (sg a), NumText.digitsVal (TL.numL k), NumText.digitsVal (TL.numL m)) else none) with | some e => isEntV pre e | none => false) = false
  rw [num_ok hk, num_ok hm, TL.numL_val, TL.numL_val, S_sg]
  exact h
theorem bad_not {es : List Ent} (h : Good es) {i : Nat} {e : Ent} (he : es[i]? = some e) : ∀ ps ∈ badP (es.take i) e, isEntL (es.take i) ps = false := by
  obtain ⟨⟨hw, hk, hm⟩, g⟩ := h i e he
  obtain ⟨p1, p2⟩ := good_pos h i e he
  have hlen := take_len he
  have key : (i % 2 = 0 ∧ e.1 = askedS ∧ lastM (es.take i) < e.2.2 ∧ e.2.1 = i / 2 + 1) ∨ (¬ i % 2 = 0 ∧ e.1 = doneS ∧ lastM (es.take i) ≤ e.2.2 ∧ e.2.1 = lastK (es.take i) ∧ 1 ≤ lastM (es.take i)) := by
    by_cases hi : i % 2 = 0
    · rw [entV_even (by rw [hlen]; exact hi), hlen] at g
      exact .inl ⟨hi, g⟩
    · rw [entV_odd (by rw [hlen]; exact hi)] at g
      refine .inr ⟨hi, g.1, g.2.1, g.2.2, ?_⟩
      obtain ⟨j, rfl⟩ : ∃ j, i = j + 1 := ⟨i - 1, by omega⟩
      have hj := (List.getElem?_eq_some_iff.mp he).1
      have hp : es[j]? = some es[j] := List.getElem?_eq_getElem (by omega)
      rw [lastM_take hp]
      exact (good_pos h j _ hp).2
  have had : ¬ askedS = doneS := by decide
  have hda : ¬ doneS = askedS := by decide
  have no : ∀ {a : Str} {k m : Nat}, (i % 2 = 0 → ¬ (a = askedS ∧ lastM (es.take i) < m ∧ k = i / 2 + 1)) → (¬ i % 2 = 0 → ¬ (a = doneS ∧ lastM (es.take i) ≤ m ∧ k = lastK (es.take i))) → isEntV (es.take i) (a, k, m) = false := by
    intro a k m h1 h2
    cases hv : isEntV (es.take i) (a, k, m) with
    | false => rfl
    | true =>
      by_cases hi : i % 2 = 0
      · rw [entV_even (by rw [hlen]; exact hi), hlen] at hv
        exact absurd hv (h1 hi)
      · rw [entV_odd (by rw [hlen]; exact hi)] at hv
        exact absurd hv (h2 hi)
  intro ps hps
  unfold badP at hps
  rcases List.mem_cons.mp hps with rfl | hps
  · refine entL3t hk hm (no (fun hi => ?_) (fun hi => ?_))
    · rcases key with ⟨_, ka, _⟩ | ⟨kn, _⟩
      · rw [ka]
        unfold otherS
        rw [if_pos rfl]
        exact fun x => hda x.1
      · exact absurd hi kn
    · rcases key with ⟨kn, _⟩ | ⟨_, ka, _⟩
      · exact absurd kn hi
      · rw [ka]
        unfold otherS
        rw [if_neg hda]
        exact fun x => had x.1
  rcases List.mem_cons.mp hps with rfl | hps
  · by_cases hk2 : e.2.1 + 1 < 100000
    · refine entL3t hk2 hm (no (fun hi => ?_) (fun hi => ?_))
      · rcases key with ⟨_, _, _, kk⟩ | ⟨kn, _⟩
        · omega
        · exact absurd hi kn
      · rcases key with ⟨kn, _⟩ | ⟨_, _, _, kk, _⟩
        · exact absurd kn hi
        · omega
    · have e1 : e.2.1 + 1 = 100000 := by omega
      rw [e1]
      exact entL3 (by rw [show numBL (TL.numL 100000) = false from by decide +kernel]; rfl) _
  rcases List.mem_cons.mp hps with rfl | hps
  · rfl
  rcases List.mem_cons.mp hps with rfl | hps
  · rfl
  rcases List.mem_cons.mp hps with rfl | hps
  · rfl
  rcases List.mem_cons.mp hps with rfl | hps
  · exact entL3 (by rw [num_zero (TL.numL_ne _)]; rfl) _
  rcases List.mem_cons.mp hps with rfl | hps
  · rfl
  rcases List.mem_cons.mp hps with rfl | hps
  · exact entL3 (by rw [num_x, Bool.and_false]) _
  rcases List.mem_cons.mp hps with rfl | hps
  · exact entL3 (by rw [num_zero (TL.numL_ne _), Bool.and_false]) _
  rcases List.mem_cons.mp hps with rfl | hps
  · refine entL3t hk (by unfold earlyN; split <;> omega) (no (fun hi => ?_) (fun hi => ?_))
    · rcases key with ⟨_, ka, _⟩ | ⟨kn, _⟩
      · rw [ka]
        unfold earlyN
        rw [if_neg had]
        omega
      · exact absurd hi kn
    · rcases key with ⟨kn, _⟩ | ⟨_, ka, _, _, kp⟩
      · exact absurd kn hi
      · rw [ka]
        unfold earlyN
        rw [if_pos rfl]
        omega
  rcases List.mem_cons.mp hps with rfl | hps
  · refine entL3t (by omega) hm (no (fun hi => ?_) (fun hi => ?_))
    · rcases key with ⟨_, _, _, kk⟩ | ⟨kn, _⟩
      · omega
      · exact absurd hi kn
    · rcases key with ⟨kn, _⟩ | ⟨_, _, _, kk, _⟩
      · exact absurd kn hi
      · omega
  rcases List.mem_cons.mp hps with rfl | hps
  · exact entL3 (by rw [show numBL (TL.numL 100000) = false from by decide +kernel, Bool.and_false]) _
  rw [List.mem_singleton.mp hps]
  rfl
theorem bad_free {es : List Ent} (h : Good es) {i : Nat} {e : Ent} (he : es[i]? = some e) : ∀ ps ∈ badP (es.take i) e, freeP ps ∧ ps ≠ [] := by
  obtain ⟨⟨hw, hk, hm⟩, g⟩ := h i e he
  have fn : ∀ n, 32 ∉ TL.numL n ∧ 10 ∉ TL.numL n := fun n => ⟨num_free (.inl (by decide)), num_free (.inl (by decide))⟩
  have fw := word_free hw
  have fo : 32 ∉ sg (otherS e.1) ∧ 10 ∉ sg (otherS e.1) := word_free (by unfold otherS; split <;> simp)
  have f0 : 32 ∉ ([] : List Nat) ∧ 10 ∉ ([] : List Nat) := by simp
  have fz : ∀ n, 32 ∉ 48 :: TL.numL n ∧ 10 ∉ 48 :: TL.numL n := fun n => by
    have := fn n
    simp [this.1, this.2]
  have fx : 32 ∉ TL.numL e.2.2 ++ [120] ∧ 10 ∉ TL.numL e.2.2 ++ [120] := by
    have := fn e.2.2
    simp [this.1, this.2]
  have fu : 32 ∉ (sg e.1).map PyProof.Rows.up1 ∧ 10 ∉ (sg e.1).map PyProof.Rows.up1 := by
    rcases hw with h | h <;> rw [h] <;> decide +kernel
  intro ps hps
  unfold badP at hps
  simp only [List.mem_cons, List.not_mem_nil, or_false] at hps
  rcases hps with rfl | rfl | rfl | rfl | rfl | rfl | rfl | rfl | rfl | rfl | rfl | rfl | rfl <;> refine ⟨?_, by simp⟩ <;> intro p hp <;> simp only [List.mem_cons, List.not_mem_nil, or_false] at hp
  · rcases hp with rfl | rfl | rfl
    · exact fo
    · exact fn _
    · exact fn _
  · rcases hp with rfl | rfl | rfl
    · exact fw
    · exact fn _
    · exact fn _
  · rcases hp with rfl | rfl
    · exact fw
    · exact fn _
  · rcases hp with rfl | rfl | rfl | rfl
    · exact fw
    · exact fn _
    · exact fn _
    · exact f0
  · rw [hp]
    exact f0
  · rcases hp with rfl | rfl | rfl
    · exact fw
    · exact fz _
    · exact fn _
  · rcases hp with rfl | rfl | rfl | rfl
    · exact fw
    · exact f0
    · exact fn _
    · exact fn _
  · rcases hp with rfl | rfl | rfl
    · exact fw
    · exact fn _
    · exact fx
  · rcases hp with rfl | rfl | rfl
    · exact fw
    · exact fn _
    · exact fz _
  · rcases hp with rfl | rfl | rfl
    · exact fw
    · exact fn _
    · exact fn _
  · rcases hp with rfl | rfl | rfl
    · exact fw
    · exact fn _
    · exact fn _
  · rcases hp with rfl | rfl | rfl
    · exact fw
    · exact fn _
    · exact fn _
  · rw [hp]
    exact fu
open PySem PySem.Spec PyProof.Rows L2
section
variable (T : List (Addr × Str)) (K : PySem.W.Frag)
def spEntLine : Sp := fun vs H Q _ => ∃ (v : V) (e : Ent), vs = [v] ∧ Im H v (entD e) ∧ EntOk e ∧ Q (.str (S (lineL e ++ [10]))) H
def spIsEnt : Sp := fun vs H Q _ => ∃ (a b : Addr) (es : List Ent) (ws : List (List Nat)), vs = [.ref a, .ref b] ∧ Ls H a (es.map entD) ∧ H b = some (.lst ((ws.map S).map V.str)) ∧ es.length ≤ 1000 ∧ ws.length ≤ 1001 ∧ (∀ x ∈ ws, x.length ≤ 1000) ∧
  ∀ H', Ext T [] H H' → Q (.bl (isEntL es ws)) H'
def lineS : Str := "line"
def spRead (C : Addr) : Sp := fun vs H Q E => ∃ z : Str, vs = [.str z] ∧ z.length ≤ 1000 ∧
  (∀ es, rdL (linesL (sg z)) [] 1 = .ok es → ∀ p H', Nw H p → Ext T [] H H' → Ls H' p (es.map entD) → Q (.ref p) H') ∧
  (∀ k, rdL (linesL (sg z)) [] 1 = .error k → ∀ d H', Ext T [] H H' → H' d = none → E (.ref C) (some d) (upd H' d (.xd [(lineS, .int (k : Int))])))
end
theorem Im.ent' {H : Hp} {v : V} {e : Ent} (h : Im H v (entD e)) : ∃ a, v = .ref a ∧ SqP H a [.str e.1, .int (e.2.1 : Int), .int (e.2.2 : Int)] := by
  obtain ⟨a, xs, rfl, h1, h2⟩ := h.tup'
  cases h2 with
  | cons a1 h2 =>
    cases h2 with
    | cons a2 h2 =>
      cases h2 with
      | cons a3 h2 =>
        cases h2
        cases a1
        cases a2
        cases a3
        exact ⟨a, rfl, h1⟩
theorem app_len2 (a b : Str) : (a ++ b).length = a.length + b.length := by rw [← sg_len, sg_app, List.length_append, sg_len, sg_len]
theorem num_len {n : Nat} (h : n < 100000) : (Str.ofString (toString ((n : Nat) : Int))).length ≤ 5 := by
  rw [← sg_len]
  show (TL.tl _).length ≤ 5
  rw [TL.tl_num]
  exact TL.numL_len (by decide) (by simpa using h)
theorem word_len {a : Str} (h : a = askedS ∨ a = doneS) : a.length ≤ 5 := by
  rcases h with rfl | rfl <;> decide +kernel
theorem sg_num (n : Nat) : sg (Str.ofString (toString ((n : Nat) : Int))) = TL.numL n := TL.tl_num n
theorem sg_sp : sg (Str.ofString " ") = [32] := by decide +kernel
theorem sg_nl : sg (Str.ofString "\n") = [10] := by decide +kernel
theorem sg_em : sg Str.empty = [] := rfl
open PySem PySem.Spec PyProof.Rows L2
/-! texts made of parts -/
theorem fs_s {y : Str} {C : Prop} {P : Str → Prop} (h : y.length ≤ sizeLine) (q : P y) : (∃ z : Str, V.str y = .str z ∧ z.length ≤ sizeLine ∧ P z) ∨ C := .inl ⟨y, rfl, h, q⟩
theorem fs_i {n : Nat} {C : Prop} {P : Int → Prop} (h : n < 2 ^ 64) (q : P (n : Int)) : C ∨ ∃ i : Int, V.int (n : Int) = .int i ∧ i.natAbs.log2 < 1920 ∧ P i := .inr ⟨_, rfl, by
  show n.log2 < 1920
  by_cases h0 : n = 0
  · subst h0; decide
  · exact Nat.lt_of_lt_of_le ((Nat.log2_lt h0).mpr h) (by decide), q⟩
theorem fs_y {y : Str} {P : Str → Prop} (q : P y) : ∃ z : Str, V.str y = .str z ∧ P z := ⟨y, rfl, q⟩
theorem sp_len : (Str.ofString " ").length = 1 := by decide +kernel
theorem nl_len : (Str.ofString "\n").length = 1 := by decide +kernel
theorem em_len : Str.empty.length = 0 := by decide +kernel
open PySem PySem.Spec PyProof.Rows L2
theorem rd_iteN {p A B : Prop} [Decidable p] (h1 : ¬ p → A) (h2 : p → B) : if (!decide p) = true then A else B := by
  by_cases h : p
  · rw [decide_eq_true h, if_neg (by decide)]
    exact h2 h
  · rw [decide_eq_false h, if_pos (by decide)]
    exact h1 h
theorem lastM_of {es : List Ent} {e : Ent} (h : es.getLast? = some e) : lastM es = e.2.2 := by
  unfold lastM
  rw [h]
theorem lastK_of {es : List Ent} {e : Ent} (h : es.getLast? = some e) : lastK es = e.2.1 := by
  unfold lastK
  rw [h]
theorem ent_last {H : Hp} {xs : List V} {es : List Ent} (h : ImAll H xs (es.map entD)) (hne : es ≠ []) : ∃ e a, es.getLast? = some e ∧ atI xs (-1) = some (.ref a) ∧ SqP H a [.str e.1, .int (e.2.1 : Int), .int (e.2.2 : Int)] := by
  have hl : es.length - 1 < es.length := by have := List.length_pos_iff.mpr hne; omega
  have e1 : (es.map entD)[es.length - 1]? = some (entD es[es.length - 1]) := by rw [List.getElem?_map, List.getElem?_eq_getElem hl]; rfl
  obtain ⟨u, h1, h2⟩ := h.get e1
  obtain ⟨a, rfl, h3⟩ := h2.ent'
  refine ⟨_, a, ?_, at_last ?_, h3⟩
  · rw [List.getLast?_eq_getElem?, List.getElem?_eq_getElem hl]
  · rw [List.getLast?_eq_getElem?, h.len, List.length_map]
    exact h1
theorem rd_iteNB {b : Bool} {A B : Prop} (h1 : b = false → A) (h2 : b = true → B) : if (!b) = true then A else B := by
  cases b with
  | true =>
    rw [if_neg (by decide)]
    exact h2 rfl
  | false =>
    rw [if_pos (by decide)]
    exact h1 rfl
theorem rd_iteB {b : Bool} {A B : Prop} (h1 : b = true → A) (h2 : b = false → B) : if b = true then A else B := by
  cases b with
  | true =>
    rw [if_pos rfl]
    exact h1 rfl
  | false =>
    rw [if_neg (by decide)]
    exact h2 rfl
open PySem PySem.Spec PyProof.Rows L2
theorem spl_hit1 {s : Nat} (acc r : List Nat) : TL.spl [s] 0 acc (s :: r) = acc :: TL.spl [s] 0 [] r := by
  have h := TL.spl_part1 (s := s) (S := []) (p := []) (acc := acc) (rest := r) (by simp)
  rw [List.append_nil] at h
  exact h
theorem spl_miss1 {s c : Nat} (h : c ≠ s) (acc r : List Nat) : TL.spl [s] 0 acc (c :: r) = TL.spl [s] 0 (acc ++ [c]) r := TL.spl_miss (TL.pre_of_head [] r h)
theorem spl_size (s : Nat) : ∀ (l acc : List Nat), (TL.spl [s] 0 acc l).length ≤ l.length + 1
  | [], acc => by rw [TL.spl_nil]; simp
  | c :: r, acc => by
    by_cases h : c = s
    · subst h
      rw [spl_hit1, List.length_cons, List.length_cons]
      have := spl_size c r []
      omega
    · rw [spl_miss1 h, List.length_cons]
      have := spl_size s r (acc ++ [c])
      omega
theorem spl_each (s : Nat) : ∀ (l acc : List Nat) (x : List Nat), x ∈ TL.spl [s] 0 acc l → x.length ≤ acc.length + l.length
  | [], acc, x, h => by
    rw [TL.spl_nil, List.mem_singleton] at h
    rw [h]
    simp
  | c :: r, acc, x, h => by
    by_cases hc : c = s
    · subst hc
      rw [spl_hit1] at h
      rcases List.mem_cons.mp h with h | h
      · rw [h]
        omega
      · have := spl_each c r [] x h
        simp only [List.length_nil, List.length_cons] at this ⊢
        omega
    · rw [spl_miss1 hc] at h
      have := spl_each s r _ x h
      simp only [List.length_append, List.length_cons, List.length_nil] at this ⊢
      omega
theorem map_S_sg : ∀ l : List Str, (l.map sg).map S = l
  | [] => rfl
  | a :: r => by
    rw [List.map_cons, List.map_cons, S_sg, map_S_sg r]
theorem split_nl (z : Str) : Txt.split z (Str.ofString "\n") = (TL.spl [10] 0 [] (sg z)).map S := by
  have h := TL.split_spl z (Str.ofString "\n") (by rw [show TL.tl (Str.ofString "\n") = [10] from sg_nl]; simp) (TL.kind_ok (by decide +kernel))
  rw [show TL.tl (Str.ofString "\n") = [10] from sg_nl] at h
  rw [← map_S_sg (Txt.split z (Str.ofString "\n"))]
  exact congrArg (List.map S) h
theorem split_sp (l : List Nat) : Txt.split (S l) (Str.ofString " ") = (wordsL l).map S := by
  have h := TL.split_spl (S l) (Str.ofString " ") (by rw [show TL.tl (Str.ofString " ") = [32] from sg_sp]; simp) (TL.kind_ok (by decide +kernel))
  rw [show TL.tl (Str.ofString " ") = [32] from sg_sp] at h
  rw [← map_S_sg (Txt.split (S l) (Str.ofString " "))]
  exact congrArg (List.map S) h
theorem lines_len (z : List Nat) : (linesL z).length ≤ z.length := by
  unfold linesL
  rw [List.length_dropLast]
  have := spl_size 10 z []
  omega
theorem lines_each {z x : List Nat} (h : x ∈ linesL z) : x.length ≤ z.length := by
  have := spl_each 10 z [] x ((List.dropLast_sublist _).mem h)
  simpa using this
theorem words_len (l : List Nat) : (wordsL l).length ≤ l.length + 1 := spl_size 32 l []
theorem words_each {l x : List Nat} (h : x ∈ wordsL l) : x.length ≤ l.length := by
  have := spl_each 32 l [] x h
  simpa using this
theorem entL_cases {ps : List (List Nat)} {e : Ent} (h : entL ps = some e) : ∃ a b c, ps = [a, b, c] ∧ numBL b = true ∧ numBL c = true ∧ e = (S a, NumText.digitsVal b, NumText.digitsVal c) := by
  unfold entL at h
  split at h
  · rename_i a b c
    split at h
    · rename_i hb
      rw [Bool.and_eq_true] at hb
      exact ⟨a, b, c, rfl, hb.1, hb.2, (Option.some.inj h).symm⟩
    · cases h
  · cases h
theorem ent_new {H : Hp} {e : Ent} {a : Addr} (h : H a = some (.tup [.str e.1, .int (e.2.1 : Int), .int (e.2.2 : Int)])) (hs : PyData.strOk e.1 = true) : Im H (.ref a) (entD e) := .new3 (.str _ hs) (.int _) (.int _) h
open PySem L2
theorem rd_enum1 {K : PySem.W.Frag} {ta : TA} {σ : L2.St} {H : Hp} {R : It → Hp → Prop} (q : ta σ H fun vs H1 => ∃ a xs, vs = [.ref a] ∧ SqL K H1 a xs ∧ R (Ite1 K a) H1) : iEnum1 K ta σ H R := q

open PySem PySem.Spec PyProof.Rows L2
/-! own classes: methods that may raise, called under a try -/
section
def MeX (P : Program) (w : World) (K : PySem.W.Frag) (mg : Str → Option Value) (base : Heap) (k : Nat) (C : Addr) (m : Str) (ps : List Str) (sp : Sp) : Prop :=
  ∃ (f : Addr) (fd : FuncData), (Cls K C ∧ Meth K C m f) ∧ FnOk P w K mg base (L2.CX P w) k f fd ps sp ∧ Binds K fd ps []
/-- such a method called with exceptions going to E -/
def tMethS (C : Addr) (m : Str) (sp : Sp) (E : L2.St → XK) (ta : TE) (t : TA) : TE := fun σ H Q => ta σ H fun x H1 => ∃ (a dx : Addr) (fs : List (Str × V)), x = .ref a ∧ H1 a = some (.ins C dx fs) ∧ fs.lookup m = none ∧ t σ H1 fun vs H2 => sp (.ref a :: vs) H2 Q (E σ)
variable {X : Cx} {C : Addr} {m : Str} {k : Nat} {ps : List Str} {sp : Sp} {W : WX}
theorem pe_methX {pos apos : Pos} {e o : Expr} {es : List Expr} {ta : TE} {t : TA} {pl : Sem Bool} (h : MeX X.prog X.w X.K X.mg X.base k C m ps sp) (hr : Room k X.A) (tk : Takes X W) (ho : PE X o ta) (ha : PA X (e :: es) t)
    (hs : starEach (e :: es) X.env = (false, eval e X.env) :: starEach es X.env := by rfl) (hp : (backTo pos (starEach es X.env)).any (·.1) = false := by rfl)
    (hev : eval ((o.Attribute m apos).Call (e :: es) [] pos) X.env = (do
      let ov ← eval o X.env
      standAt apos.atName
      let y ← holding [ov] (getMethod ov m pl)
      match y with
        | (f, first) => callWith pos f first (backTo pos (starEach (e :: es) X.env)) (backToKw pos (keywordEach [] X.env))) := by rfl) :
    PE X ((o.Attribute m apos).Call (e :: es) [] pos) (tMethS C m sp (WE W) ta t) := by
  obtain ⟨f, fd, ⟨c, M⟩, F, hb⟩ := h
  constructor
  intro pins s σ H Q I q0
  refine PySem.W.methodCall_KW (pl := pl) (thn (ho.run pins s σ H _ I q0) fun u s1 h1 => ?_) hev
  obtain ⟨x, H1, I1, rx, a, dx, fs, ex, ea, lk, q⟩ := h1
  subst ex
  cases rx
  refine getmeth_ok I1 ea c M lk (PySem.W.callWith_K (h₀ := X.base) I.ok.mod.kin M.kp (thn (ha.run pos pins s1 σ H1 _ I1 q) fun us s2 h2 => ?_) hs hp)
  obtain ⟨vs, H2, I2, r, q2⟩ := h2
  exact ⟨I2.kIn, run_fnS (us := .ref a :: us) (vs := .ref a :: vs) F hr hb (passAt tk σ) I2 (.cons rfl r) q2⟩
end
section
variable {K : PySem.W.Frag} {σ : L2.St} {H : Hp} {Q : VK} {ta : TE}
theorem rd_methS {C : Addr} {m : Str} {sp : Sp} {E : L2.St → XK} {t : TA} (q : ta σ H fun x H1 => ∃ (a dx : Addr) (fs : List (Str × V)), x = V.ref a ∧ H1 a = some (HO.ins C dx fs) ∧ fs.lookup m = none ∧ t σ H1 fun vs H2 => sp (.ref a :: vs) H2 Q (E σ)) : tMethS C m sp E ta t σ H Q := q
end
/-! ### an own class: made, its fields, its methods -/
section
variable {P : Program} {w : World} {K : PySem.W.Frag} {mg : Str → Option Value} {base : Heap}
def MkO (P : Program) (w : World) (K : PySem.W.Frag) (mg : Str → Option Value) (base : Heap) (k : Nat) (x : Str) (C : Addr) (ps : List Str) (sp : Sp) : Prop :=
  ∃ (f : Addr) (fd : FuncData), Mk K C f ∧ FnOk P w K mg base CX0 k f fd ps sp ∧ mg x = some (.ref C) ∧ Binds K fd ps []
def MeO (P : Program) (w : World) (K : PySem.W.Frag) (mg : Str → Option Value) (base : Heap) (k : Nat) (C : Addr) (m : Str) (ps : List Str) (sp : Sp) : Prop :=
  ∃ (f : Addr) (fd : FuncData), Cls K C ∧ Meth K C m f ∧ FnOk P w K mg base CX0 k f fd ps sp ∧ Binds K fd ps []
variable {X : Cx}
theorem pe_makeO {k : Nat} {C : Addr} {ps : List Str} {sp : Sp} {x : Str} {p pos : Pos} {e : Expr} {es : List Expr} {t : TA} (h : MkO X.prog X.w X.K X.mg X.base k x C ps sp) (hr : Room (k + 1) X.A) (hg : Gl X x) (ha : PA X (e :: es) t)
    (hdb : (x == ("__debug__" : Str)) = false := by decide) (he : starEach (e :: es) X.env = (false, eval e X.env) :: starEach es X.env := by rfl) (hpl : (backTo pos (starEach es X.env)).any (·.1) = false := by rfl) :
    PE X (.Call (.Name x p) (e :: es) [] pos) (tMake C sp [] E0 t) := by
  obtain ⟨f, fd, M, F, hm, hb⟩ := h
  exact pe_make M F hr hg hm hb .nil pass0 ha hdb he hpl
theorem pe_methO0 {k : Nat} {C : Addr} {ps : List Str} {sp : Sp} {m : Str} {pos apos : Pos} {o : Expr} {ta : TE} {pl : Sem Bool} (h : MeO X.prog X.w X.K X.mg X.base k C m ps sp) (hr : Room k X.A) (ho : PE X o ta)
    (hev : eval ((o.Attribute m apos).Call [] [] pos) X.env = (do
      let ov ← eval o X.env
      standAt apos.atName
      let y ← holding [ov] (getMethod ov m pl)
      match y with
        | (f, first) => callWith pos f first (backTo pos (starEach [] X.env)) (backToKw pos (keywordEach [] X.env))) := by rfl) :
    PE X ((o.Attribute m apos).Call [] [] pos) (tMeth C m sp [] E0 ta tNil) := by
  obtain ⟨f, fd, c, M, F, hb⟩ := h
  exact pe_meth0 ho c M F hr hb .nil pass0 hev
theorem pe_methO {k : Nat} {C : Addr} {ps : List Str} {sp : Sp} {m : Str} {pos apos : Pos} {e o : Expr} {es : List Expr} {ta : TE} {t : TA} {pl : Sem Bool} (h : MeO X.prog X.w X.K X.mg X.base k C m ps sp) (hr : Room k X.A) (ho : PE X o ta) (ha : PA X (e :: es) t)
    (he : starEach (e :: es) X.env = (false, eval e X.env) :: starEach es X.env := by rfl) (hpl : (backTo pos (starEach es X.env)).any (·.1) = false := by rfl)
    (hev : eval ((o.Attribute m apos).Call (e :: es) [] pos) X.env = (do
      let ov ← eval o X.env
      standAt apos.atName
      let __x ← holding [ov] (getMethod ov m pl)
      match __x with
        | (f, first) => callWith pos f first (backTo pos (starEach (e :: es) X.env)) (backToKw pos (keywordEach [] X.env))) := by rfl) :
    PE X ((o.Attribute m apos).Call (e :: es) [] pos) (tMeth C m sp [] E0 ta t) := by
  obtain ⟨f, fd, c, M, F, hb⟩ := h
  exact pe_meth ho c M F hr hb .nil pass0 ha he hpl hev
end
section
variable {K : PySem.W.Frag} {σ : L2.St} {H : Hp} {Q : VK} {ta : TE}
theorem rd_fld {f : Str} (q : ta σ H fun x H1 => ∃ a C dx fs v, x = V.ref a ∧ H1 a = some (HO.ins C dx fs) ∧ Cls K C ∧ NoAttr K C f ∧ fs.lookup f = some v ∧ Q v H1) : tFld K ta f σ H Q := q
theorem rd_meth {C : Addr} {m : Str} {sp : Sp} {E : XK} {t : TA} (q : ta σ H fun x H1 => ∃ a dx fs, x = V.ref a ∧ H1 a = some (HO.ins C dx fs) ∧ fs.lookup m = none ∧ t σ H1 fun vs H2 => sp (x :: (vs ++ [])) H2 Q E) : tMeth C m sp [] E ta t σ H Q := q
theorem rd_make {C : Addr} {sp : Sp} {E : XK} {t : TA} (q : t σ H fun vs H1 => ∀ x dx, H1 x = none → H1 dx = none → dx ≠ x → sp (.ref x :: (vs ++ [])) (upd (upd H1 dx (.own x)) x (.ins C dx [])) (fun v H2 => v = .non ∧ Q (.ref x) H2) E) : tMake C sp [] E t σ H Q := q
end

open PySem PySem.Spec PyProof.Rows L2
/-! own classes: made under a try; methods where nothing is raised -/
section
def MkX (P : Program) (w : World) (K : PySem.W.Frag) (mg : Str → Option Value) (base : Heap) (k : Nat) (x : Str) (C : Addr) (ps : List Str) (sp : Sp) : Prop :=
  ∃ (f : Addr) (fd : FuncData), Mk K C f ∧ FnOk P w K mg base (L2.CX P w) k f fd ps sp ∧ mg x = some (.ref C) ∧ Binds K fd ps []
def tMakeS (C : Addr) (sp : Sp) (E : L2.St → XK) (t : TA) : TE := fun σ H Q => t σ H fun vs H1 => ∀ x dx, H1 x = none → H1 dx = none → dx ≠ x →
  sp (.ref x :: vs) (upd (upd H1 dx (.own x)) x (.ins C dx [])) (fun v H2 => v = .non ∧ Q (.ref x) H2) (E σ)
variable {X : Cx} {C : Addr} {k : Nat} {ps : List Str} {sp : Sp} {W : WX}
theorem runs_make {pn : List (Addr × Obj)} {σ : L2.St} {H : Hp} {sh : Shared} {Q : VK} {ws : List Value} {vs : List V} {f : Addr} {fd : FuncData} {E : XK} (M : Mk X.K C f) (F : FnOk X.prog X.w X.K X.mg X.base (L2.CX X.prog X.w) k f fd ps sp) (hr : Room (k + 1) X.A) (hb : Binds X.K fd ps [])
    (hx : PassesAt (L2.CX X.prog X.w) X σ E) (I : Inv X pn σ H sh) (r : Vals vs ws)
    (h : ∀ x dx, H x = none → H dx = none → dx ≠ x → sp (.ref x :: vs) (upd (upd H dx (.own x)) x (.ins C dx [])) (fun v H2 => v = .non ∧ Q (.ref x) H2) E) :
    wpAny (model X.prog X.w) X.A (call (.ref C) ws) (EP X pn σ Q) X.xe sh := by
  have q0 := h _ _ (I.hok.fresh (Nat.le_succ sh.heap.objs.size)) (I.hok.fresh (Nat.le_refl sh.heap.objs.size)) (Nat.ne_of_lt (Nat.lt_succ_self sh.heap.objs.size))
  have J := Inv.made (C := C) I
  have rr : Vals (V.ref (sh.heap.objs.size + 1) :: vs) (Value.ref (sh.heap.objs.size + 1) :: ws) := .cons rfl r
  have len : (Value.ref (sh.heap.objs.size + 1) :: ws ++ []).length = ps.length := by
    rw [List.append_nil, ← rr.length]
    exact F.len _ _ _ _ q0
  have b := hb _ (Value.ref (sh.heap.objs.size + 1) :: ws) J.kIn len
  rw [List.append_nil] at b
  have go := F.run _ X.stack _ _ ⟨Value.ref (sh.heap.objs.size + 1) :: ws, []⟩ _ _ _ E (hr.make C ws []) (J.env0.make C ws []) b rr q0
  refine wpAny_call (make_map (f := f) I.kIn M.makes M.init (beq_iff_eq.mp M.fn) (codeAny_mono go fun r s2 hq => ?_))
  cases r with
  | error e => exact hx pn _ _ e s2 J hq
  | ok fl =>
    cases fl with
    | ret u =>
      obtain ⟨v, H2, J2, rv, ev, q3⟩ := J.after hq
      cases ev
      exact ⟨rv, ⟨V.ref _, H2, J2, rfl, q3⟩⟩
    | next => exact hq.elim
    | brk => exact hq.elim
    | cont => exact hq.elim
theorem pe_makeX {x : Str} {p pos : Pos} {e : Expr} {es : List Expr} {t : TA} (h : MkX X.prog X.w X.K X.mg X.base k x C ps sp) (hr : Room (k + 1) X.A) (hg : Gl X x) (tk : Takes X W) (ha : PA X (e :: es) t)
    (hdb : (x == ("__debug__" : Str)) = false := by decide) (he : starEach (e :: es) X.env = (false, eval e X.env) :: starEach es X.env := by rfl) (hpl : (backTo pos (starEach es X.env)).any (·.1) = false := by rfl) :
    PE X (.Call (.Name x p) (e :: es) [] pos) (tMakeS C sp (WE W) t) := by
  obtain ⟨f, fd, M, F, hm, hb⟩ := h
  constructor
  intro pn sh σ H Q I q
  refine wpAny_Call_Name_kw (ld_glob I hg hm ?_ hdb)
  refine PySem.W.callWith_K (h₀ := X.base) I.ok.mod.kin M.kp (thn (ha.run pos pn sh σ H _ I q) fun us s1 hh => ?_) he hpl
  obtain ⟨vs, H1, I1, r, q1⟩ := hh
  exact ⟨I1.kIn, runs_make M F hr hb (passAt tk σ) I1 r q1⟩
end
section
variable {K : PySem.W.Frag} {σ : L2.St} {H : Hp} {Q : VK}
theorem rd_makeS {C : Addr} {sp : Sp} {E : L2.St → XK} {t : TA} (q : t σ H fun vs H1 => ∀ x dx, H1 x = none → H1 dx = none → dx ≠ x → sp (.ref x :: vs) (upd (upd H1 dx (.own x)) x (.ins C dx [])) (fun v H2 => v = .non ∧ Q (.ref x) H2) (E σ)) : tMakeS C sp E t σ H Q := q
end
section
variable {P : Program} {w : World} {K : PySem.W.Frag} {mg : Str → Option Value} {base : Heap}
theorem fnOk0 {k : Nat} {f : Addr} {fd : FuncData} {ps : List Str} {sp : Sp} (F : FnOk P w K mg base (L2.CX P w) k f fd ps sp) : FnOk P w K mg base CX0 k f fd ps (sp0 sp) := by
  refine ⟨fun vs H Q E h => F.len vs H Q _ h, fun A outer s H args us vs Q E hr e0 hb rv hsp => ?_⟩
  refine codeAny_mono (F.run A outer s H args us vs Q _ hr e0 hb rv hsp) fun r s2 hq => ?_
  cases r with
  | ok fl => cases fl <;> exact hq
  | error e =>
    obtain ⟨_, _, _, _, _, _, _, _, _, _, _, _, z⟩ := hq
    exact z.elim
/-- a method where nothing is raised -/
theorem MeX.me0 {k : Nat} {C : Addr} {m : Str} {ps : List Str} {sp : Sp} (h : MeX P w K mg base k C m ps sp) : MeO P w K mg base k C m ps (sp0 sp) := by
  obtain ⟨f, fd, ⟨c, M⟩, F, hb⟩ := h
  exact ⟨f, fd, c, M, fnOk0 F, hb⟩
end

open PySem PySem.Spec PyProof.Rows L2
/-! match: patterns of lists of texts -/
abbrev TP := V → Hp → (Option (List V) → Hp → Prop) → Prop
abbrev TPs := List V → Hp → (Option (List V) → Hp → Prop) → Prop
abbrev TCs := V → Ends → L2.St → Hp → Prop
def MB (ns : List Str) (r : Option (List (Str × Value))) (G : Option (List V) → Prop) : Prop := match r with
  | none => G none
  | some bs => ∃ vs, bs.map (·.1) = ns ∧ Vals vs (bs.map (·.2)) ∧ G (some vs)
structure PP (X : Cx) (p : Pattern) (ns : List Str) (t : TP) : Prop where
  run : ∀ (pins : List (Addr × Obj)) (s : Shared) (σ : L2.St) (H : Hp) (x : V) (u : Value) (Q : Option (List V) → Hp → Prop), Inv X pins σ H s → RelV x u → t x H Q → wpAny (model X.prog X.w) X.A (matchPattern p X.env u) (fun r s1 => ∃ H1, Inv X pins σ H1 s1 ∧ MB ns r fun o => Q o H1) X.xe s
structure PPs (X : Cx) (ps : List Pattern) (ns : List Str) (t : TPs) : Prop where
  run : ∀ (pins : List (Addr × Obj)) (s : Shared) (σ : L2.St) (H : Hp) (xs : List V) (us : List Value) (Q : Option (List V) → Hp → Prop), Inv X pins σ H s → Vals xs us → t xs H Q → wpAny (model X.prog X.w) X.A (matchEach ps X.env us) (fun r s1 => ∃ H1, Inv X pins σ H1 s1 ∧ MB ns r fun o => Q o H1) X.xe s
section
variable {X : Cx} {pos : Pos} {p : Pattern} {ps : List Pattern} {ns ms : List Str} {tp : TP} {ts : TPs}
def tpStr (K : PySem.W.Frag) (z : Str) : TP := fun x H Q => ∃ a, x = V.str a ∧ Q (if a = z then some [] else none) H
theorem pm_str {z : Str} {k : Nat} {pc : Pos} (K : PySem.W.Frag) (hK : X.K = K) (hu : X.A.units + 64 < cLine) : PP X (.MatchValue (.Constant (.str z) k pc) pos) [] (tpStr K z) := by
  constructor
  intro pn s σ H x u Q I r q
  obtain ⟨a, rfl, q⟩ := q
  refine wpAny_matchPattern_Value (thn ((pe_str (X := X)).run pn s σ H (fun v H1 => v = .str z ∧ H1 = H) I ⟨rfl, rfl⟩) fun v s1 ⟨y, H1, I1, r1, e1, e2⟩ => ?_)
  subst e1 e2
  refine thn (op_eqU K hK hu pn s1 σ H1 _ _ _ _ (fun v H2 => v = .bl (decide (a = z)) ∧ H2 = H1) I1 r r1 (rd_eqStr ⟨rfl, rfl⟩)) fun c s2 ⟨y2, H2, I2, r2, e3, e4⟩ => ?_
  subst e3 e4
  cases r2
  refine wpAny_truthy_bool ?_
  by_cases c : a = z
  · rw [decide_eq_true c]
    rw [if_pos c] at q
    exact ⟨H2, I2, [], rfl, .nil, q⟩
  · rw [decide_eq_false c]
    rw [if_neg c] at q
    exact ⟨H2, I2, q⟩
theorem pm_name {n : Str} : PP X (.MatchAs none (some n) pos) [n] (fun x H Q => Q (some [x]) H) := by
  constructor
  intro pn s σ H x u Q I r q
  exact wpAny_matchPattern_Capture ⟨H, I, [x], rfl, .cons r .nil, q⟩
theorem pm_any : PP X (.MatchAs none none pos) [] (fun x H Q => Q (some []) H) := by
  constructor
  intro pn s σ H x u Q I r q
  exact wpAny_matchPattern_Capture ⟨H, I, [], rfl, .nil, q⟩
theorem pms_nil : PPs X [] [] (fun xs H Q => xs = [] ∧ Q (some []) H) := by
  constructor
  intro pn s σ H xs us Q I r q
  obtain ⟨rfl, q⟩ := q
  cases r
  exact wpAny_matchEach_nil ⟨H, I, [], rfl, .nil, q⟩
def tpCons (tp : TP) (ts : TPs) : TPs := fun xs H Q => ∃ x r, xs = x :: r ∧ tp x H fun o H1 => match o with
  | none => Q none H1
  | some vs => ts r H1 fun o2 H2 => match o2 with
    | none => Q none H2
    | some ws => Q (some (vs ++ ws)) H2
theorem pms_cons (h : PP X p ns tp) (hs : PPs X ps ms ts) (hp : p.isStar = false := by rfl) : PPs X (p :: ps) (ns ++ ms) (tpCons tp ts) := by
  constructor
  intro pn s σ H xs us Q I r q
  obtain ⟨x, xr, rfl, q⟩ := q
  cases r with
  | cons rx rr =>
    refine wpAny_matchEach_cons (thn (h.run pn s σ H x _ _ I rx q) fun o s1 ⟨H1, I1, m⟩ => ?_) hp
    cases o with
    | none => exact ⟨H1, I1, m⟩
    | some bs =>
      obtain ⟨vs, e1, e2, q1⟩ := m
      refine thn (hs.run pn s1 σ H1 xr _ _ I1 rr q1) fun o2 s2 ⟨H2, I2, m2⟩ => ?_
      cases o2 with
      | none => exact ⟨H2, I2, m2⟩
      | some bs2 =>
        obtain ⟨ws, e3, e4, q2⟩ := m2
        exact ⟨H2, I2, vs ++ ws, by rw [List.map_append, e1, e3], by rw [List.map_append]; exact e2.append e4, q2⟩
def tpStar (ts : TPs) : TPs := fun xs H Q => ∃ x r, xs = x :: r ∧ ts r H fun o H1 => match o with
  | none => Q none H1
  | some ws => Q (some (x :: ws)) H1
theorem pms_star {n : Str} {sp : Pos} (hs : PPs X ps ms ts) : PPs X (.MatchStar (some n) sp :: ps) (n :: ms) (tpStar ts) := by
  constructor
  intro pn s σ H xs us Q I r q
  obtain ⟨x, xr, rfl, q⟩ := q
  cases r with
  | cons rx rr =>
    refine PySem.W.kun_each (thn (hs.run pn s σ H xr _ _ I rr q) fun o s1 ⟨H1, I1, m⟩ => ?_)
    cases o with
    | none => exact ⟨H1, I1, m⟩
    | some bs =>
      obtain ⟨vs, e1, e2, q1⟩ := m
      refine ⟨H1, I1, x :: vs, ?_, ?_, q1⟩
      · show n :: bs.map (·.1) = n :: ms
        rw [e1]
      · exact .cons rx e2
def tpSeq (K : PySem.W.Frag) (n : Nat) (ts : TPs) : TP := fun x H Q => ∃ a xs, x = V.ref a ∧ SqL K H a xs ∧ if xs.length = n then ts xs H Q else Q none H
theorem pm_seq (K : PySem.W.Frag) (hK : X.K = K) (hc : X.calm = true) (h : PPs X ps ns ts) (hs : ps.findIdx? (·.isStar) = none := by rfl) (hw : (ps.all fun p => p.isWildcard || (p.isStar && p.names.isEmpty)) = false := by rfl) : PP X (.MatchSequence ps pos) ns (tpSeq K ps.length ts) := by
  subst hK
  constructor
  intro pn s σ H x u Q I r q
  obtain ⟨a, xs, rfl, hx, q⟩ := q
  cases r
  obtain ⟨its, rv, pl, hz⟩ := I.list hx
  have hl := rv.length
  have hL : s.heap.IsList a its.toArray := by
    obtain ⟨o, m, e, c, d, z⟩ := pl
    exact ⟨o, e, c, m, z⟩
  have hsz : its.toArray.size = its.length := by simp
  have hfit : (its.toArray.size : Int) < 2 ^ 63 := by
    have : xs.length < 2 ^ 63 := Nat.lt_of_le_of_lt hz (by decide)
    omega
  refine wpAny_matchPattern_Sequence (wpAny_collectionFlag hL.typeIs flag_seq_list ?_) hs hw
  refine pyLen_list hL hfit ?_
  by_cases hn : xs.length = ps.length
  · rw [if_pos hn] at q
    rw [if_neg (by rw [hsz, ← hl, hn]; simp)]
    have hps : ps.length = its.toArray.size := by omega
    rw [hps]
    refine PySem.W.kun_itemsOf (I.ok.hd hc) hL fun h' hx' => ?_
    have I1 : Inv X pn σ H { s with heap := h', toks := s.toks + 1 + 1 } := I.kept fun b o e => hx' b o (Nat.ne_of_lt (Heap.lt_size e)) e
    exact h.run pn _ σ H xs _ Q I1 (by simpa using rv) q
  · rw [if_neg hn] at q
    rw [if_pos (by
      rw [hsz, ← hl]
      simp only [bne_iff_ne, ne_eq]
      omega)]
    exact ⟨H, I.tok _, q⟩
def tpSeqS (K : PySem.W.Frag) (n i : Nat) (ts : TPs) : TP := fun x H Q => ∃ a xs, x = V.ref a ∧ SqL K H a xs ∧ xs.length ≤ 1000 ∧ if xs.length + 1 < n then Q none H else
  ∀ D, H D = none → ts (xs.take i ++ .ref D :: (xs.drop i).drop (xs.length + 1 - n)) (upd H D (.lst ((xs.drop i).take (xs.length + 1 - n)))) Q
theorem pm_seqS {i : Nat} (K : PySem.W.Frag) (hK : X.K = K) (hc : X.calm = true) (h : PPs X ps ns ts) (hs : ps.findIdx? (·.isStar) = some i := by rfl) (hw : (ps.all fun p => p.isWildcard || (p.isStar && p.names.isEmpty)) = false := by rfl) (hname : (ps[i]?.elim [] (·.names)).isEmpty = false := by rfl) (h1 : ps.length > 1 := by decide) (hi : i < ps.length := by decide) :
    PP X (.MatchSequence ps pos) ns (tpSeqS K ps.length i ts) := by
  subst hK
  constructor
  intro pn s σ H x u Q I r q
  obtain ⟨a, xs, rfl, hx, hxl, q⟩ := q
  cases r
  obtain ⟨its, rv, pl, hz⟩ := I.list hx
  have hl := rv.length
  have hL : s.heap.IsList a its.toArray := by
    obtain ⟨o, m, e, c, d, z⟩ := pl
    exact ⟨o, e, c, m, z⟩
  have hsz : its.toArray.size = its.length := by simp
  have hfit : (its.toArray.size : Int) < 2 ^ 63 := by
    have : xs.length < 2 ^ 63 := Nat.lt_of_le_of_lt hz (by decide)
    omega
  by_cases hn : xs.length + 1 < ps.length
  · rw [if_pos hn] at q
    exact PySem.W.kun_fewL hL hfit hs h1 (by omega) ⟨H, I.tok _, q⟩
  · rw [if_neg hn] at q
    refine PySem.W.kun_seqL hL hfit hs hw hname h1 (by omega) ?_
    have I0 : Inv X pn σ H { s with toks := s.toks + 1 + 1 } := I.tok _
    have hL0 : ({ s with toks := s.toks + 1 + 1 } : Shared).heap.IsList a its.toArray := hL
    generalize ({ s with toks := s.toks + 1 + 1 } : Shared) = s0 at I0 hL0 ⊢
    have hlt : a ≠ s0.heap.objs.size := by
      obtain ⟨o, ho, _⟩ := hL0
      exact Nat.ne_of_lt (Heap.lt_size ho)
    have hd := I0.ok.hd hc
    unfold unpackItems
    refine wpAny_bind ?_
    unfold notIterableAtAll
    refine wpAny_bind (wpAny_specialOf hL0.typeIs PySem.F.slot_list_iter.lookup ?_)
    refine wpAny_pure ?_
    simp only [Bool.false_eq_true, if_false]
    refine wpAny_bind (wpAny_holding (wpAny_pyIter_list hL0 ?_))
    refine wpAny_bind (wpAny_holding (PySem.W.kun_draw hlt i 0 _ _ ⟨_, Heap.get?_push_size _ rfl, rfl, rfl⟩ (hL0.push _) (by omega) fun g1 hit1 hs1 => ?_))
    have hL1 : g1.IsList a its.toArray := (hL0.push _).extBut hs1.extBut hlt
    rw [Nat.zero_add] at hit1
    obtain ⟨oi, hoi, _⟩ := id hit1
    obtain ⟨ol, hol, _⟩ := id hL1
    rw [List.drop_zero]
    have hfl : (its.toArray.toList.take i).length = i := by
      rw [List.length_take, Array.length_toList]
      omega
    rw [if_neg (show ¬ ((its.toArray.toList.take i).length < i) by rw [hfl]; omega)]
    refine wpAny_bind (wpAny_holding (PySem.W.kun_collect (s := { s0 with heap := g1 }) (T := "list_iterator") (.inr (.inr (.inl rfl))) (Walks.list (A := X.A.in1) hd s0.heap.objs.size a hlt its.toArray) (fun j u st => st.1.typeIs) (k := i) (by omega) ⟨hit1, hL1⟩ (Heap.lt_size hoi) (Heap.lt_size hol) (fun g2 tk hk => ?_) (by
      have : its.toArray.size ≤ 1000 := by omega
      exact Nat.le_trans (by omega) (show 1000 ≤ sizeLine by decide))))
    have hrl : (its.toArray.toList.drop i).length = its.toArray.size - i := by rw [List.length_drop, Array.length_toList]
    have hmid : (its.toArray.toList.drop i).length - (ps.length - 1 - i) = xs.length + 1 - ps.length := by
      rw [hrl]
      omega
    show wpAny _ _ (if (its.toArray.toList.drop i).length < ps.length - 1 - i then _ else _) _ _ _
    rw [if_neg (by rw [hrl]; omega)]
    show wpAny _ _ (newList ((its.toArray.toList.drop i).take ((its.toArray.toList.drop i).length - (ps.length - 1 - i))) >>= fun d => pure (its.toArray.toList.take i ++ [d] ++ (its.toArray.toList.drop i).drop ((its.toArray.toList.drop i).length - (ps.length - 1 - i)))) _ _ _
    rw [hmid]
    have he : ∀ b o, s0.heap.get? b = some o → g2.get? b = some o := fun b o e => hk b o (Nat.ne_of_lt (Heap.lt_size e)) (hs1.extBut b o (Nat.ne_of_lt (Heap.lt_size e)) (Heap.get?_push_of_some _ e))
    have I2 : Inv X pn σ H { s0 with heap := g2, toks := tk } := I0.kept he
    have hf : H g2.objs.size = none := I2.hok.fresh (Nat.le_refl _)
    have rm : Vals ((xs.drop i).take (xs.length + 1 - ps.length)) ((its.toArray.toList.drop i).take (xs.length + 1 - ps.length)) := by simpa using (rv.drop i).take (xs.length + 1 - ps.length)
    have rl : Vals ((xs.drop i).drop (xs.length + 1 - ps.length)) ((its.toArray.toList.drop i).drop (xs.length + 1 - ps.length)) := by simpa using (rv.drop i).drop (xs.length + 1 - ps.length)
    have rf : Vals (xs.take i) (its.toArray.toList.take i) := by simpa using rv.take i
    have zl : ((xs.drop i).take (xs.length + 1 - ps.length)).length ≤ sizeLine := Nat.le_trans (List.length_take_le _ _) (Nat.le_trans (show xs.length + 1 - ps.length ≤ 1000 by omega) (by decide))
    refine wpAny_bind (wpAny_newList (s := { s0 with heap := g2, toks := tk }) (wpAny_pure ?_) (by rw [← rm.length]; exact zl))
    have new : ObjOk X.prog X.w (upd H g2.objs.size (.lst ((xs.drop i).take (xs.length + 1 - ps.length)))) (g2.push ({ cls := .type "list", data := .seq ((its.toArray.toList.drop i).take (xs.length + 1 - ps.length)).toArray } : Obj)) g2.objs.size (.lst ((xs.drop i).take (xs.length + 1 - ps.length))) := ⟨zl, _, 0, rm, Heap.get?_push_size _ rfl⟩
    have I3 := I2.laid (t' := tk) (fun b u e => Heap.get?_push_of_some _ e) (Nat.le_refl _) new
    refine h.run pn _ σ _ _ _ Q I3 ?_ (q _ hf)
    have := (rf.append (.cons (show RelV (.ref g2.objs.size) (.ref g2.objs.size) from rfl) rl))
    simpa using this
end
/-! ### the cases -/
def setL : L2.St → List Nat → List V → L2.St
  | σ, i :: is, v :: vs => setL (σ.set i (some v)) is vs
  | σ, _, _ => σ
inductive SlN (X : Cx) : List Str → List Nat → Prop
  | nil : SlN X [] []
  | cons {n : Str} {i : Nat} {ns : List Str} {is : List Nat} (hi : X.N[i]? = some n) (hx : Loc X.env.scope n) (hf : X.fn n = true ∨ X.env.scope.names.lookup n = some .local) (r : SlN X ns is) : SlN X (n :: ns) (i :: is)
structure PC (X : Cx) (cs : List MatchCase) (t : TCs) : Prop where
  run : ∀ (pins : List (Addr × Obj)) (s : Shared) (σ : L2.St) (H : Hp) (x : V) (u : Value) (D : Ends) (first : Bool), Inv X pins σ H s → RelV x u → t x D σ H → wpAny (model X.prog X.w) X.A (matchCases cs X.env u first) (SP X pins D) X.xe s
section
variable {X : Cx} {pos : Pos} {p : Pattern} {ns : List Str} {tp : TP} {is : List Nat} {body : List Stmt} {tb : TS} {rest : List MatchCase} {tr : TCs}
theorem binds_run {M : Model} {A : Around} {E : Value → Shared → Prop} {G : Unit → Shared → Prop} {pn : List (Addr × Obj)} (hN : X.N.Nodup) : ∀ {ns : List Str} {is : List Nat} {vs : List V} {bs : List (Str × Value)} {σ : L2.St} {H : Hp} {s : Shared}, SlN X ns is → bs.map (·.1) = ns → Vals vs (bs.map (·.2)) → Inv X pn σ H s →
    (∀ s', Inv X pn (setL σ is vs) H s' → G () s') → wpAny M A (assignInOrder (bs.map fun (n, _) => bindName X.env n) (bs.map (·.2))) G E s
  | _, _, vs, [], σ, H, s, hs, e, r, I, q => by
    cases r
    subst e
    cases hs
    exact wpAny_assignInOrder_none (q s I)
  | _, _, vs, (n, u) :: bs, σ, H, s, hs, e, r, I, q => by
    cases r with
    | cons r1 r2 =>
      subst e
      cases hs with
      | cons hi hx hf hr =>
        refine wpAny_assignInOrder_more (wpAny_bindName (store_ok I hN hi hx r1 (fun s1 I1 => ?_) hf))
        exact binds_run hN hr rfl r2 I1 q
def tcNil : TCs := fun _ D σ H => D.nx σ H
theorem pc_nil : PC X [] tcNil := ⟨fun pn s σ H x u D first I r q => wpAny_matchCases_nil ⟨σ, H, I, q⟩⟩
def tcCons (tp : TP) (is : List Nat) (tb : TS) (tr : TCs) : TCs := fun x D σ H => tp x H fun o H1 => match o with
  | none => tr x D σ H1
  | some vs => tb D (setL σ is vs) H1
theorem pc_cons (h : PP X p ns tp) (hN : X.N.Nodup) (hs : SlN X ns is) (hb : PSs X body tb) (hr : PC X rest tr) : PC X (⟨p, none, body⟩ :: rest) (tcCons tp is tb tr) := by
  constructor
  intro pn s σ H x u D first I r q
  refine wpAny_matchCases_cons (thn (h.run pn s σ H x u _ I r q) fun o s1 ⟨H1, I1, m⟩ => ?_)
  cases o with
  | none => exact hr.run pn s1 σ H1 x u D false I1 r m
  | some bs =>
    obtain ⟨vs, e1, e2, q1⟩ := m
    exact binds_run hN hs e1 e2 I1 fun s2 I2 => hb.run pn s2 _ H1 D I2 q1
def tMatch (te : TE) (tc : TCs) : TS := fun D σ H => te σ H fun x H1 => tc x D σ H1
theorem ps_match {e : Expr} {cs : List MatchCase} {te : TE} {tc : TCs} (he : PE X e te) (hc : PC X cs tc) : PS X (.Match e cs pos) (tMatch te tc) := by
  constructor
  intro pn s σ H D I q
  exact wpAny_Match (thn (he.run pn s σ H _ I q) fun u s1 ⟨x, H1, I1, r1, q1⟩ => hc.run pn s1 σ H1 x u D true I1 r1 q1)
end
open PySem PySem.Spec PyProof.Rows L2
theorem pe_glF {X : Cx} {x : Str} {f : Addr} {pos : Pos} (hg : Gl X x) (hm : X.mg x = some (.ref f)) (hd : (x == ("__debug__" : Str)) = false := by decide) : PE X (.Name x pos) (tC (.ref f)) := pe_glob hg hm rfl hd
section
variable {K : PySem.W.Frag} {σ : L2.St} {H : Hp} {D : Ends} {te : TE} {tc : TCs}
theorem rd_match (q : te σ H fun x H1 => tc x D σ H1) : tMatch te tc D σ H := q
theorem rd_callA {i : Nat} {S : Addr → Option Sp} {t : TA} {Q : VK} {f : Addr} {sp : Sp} (h1 : σ[i]? = some (some (.ref f))) (h2 : S f = some sp) (q : t σ H fun vs H1 => sp vs H1 Q (fun _ _ _ => False)) : tCallA i S t σ H Q := ⟨f, sp, h1, h2, q⟩
end
open PySem PySem.Spec PyProof.Rows L2
section
variable {K : PySem.W.Frag} {H : Hp} {Q : Option (List V) → Hp → Prop} {ts : TPs} {x : V} {r : List V} {z a : Str}
theorem mt_nm (q : ts r H fun o H1 => match o with | none => Q none H1 | some ws => Q (some (x :: ws)) H1) : tpCons (fun x H Q => Q (some [x]) H) ts (x :: r) H Q := ⟨x, r, rfl, q⟩
theorem mt_eq (q : ts r H fun o H1 => match o with | none => Q none H1 | some ws => Q (some ws) H1) : tpCons (tpStr K z) ts (.str z :: r) H Q := ⟨_, r, rfl, z, rfl, by
  rw [if_pos rfl]
  exact q⟩
theorem mt_no (h : a ≠ z) (q : Q none H) : tpCons (tpStr K z) ts (.str a :: r) H Q := ⟨_, r, rfl, a, rfl, by
  rw [if_neg h]
  exact q⟩
theorem mt_nil (q : Q (some []) H) : (fun (xs : List V) (H : Hp) (Q : Option (List V) → Hp → Prop) => xs = [] ∧ Q (some []) H) [] H Q := ⟨rfl, q⟩
theorem mt_star (q : ts r H fun o H1 => match o with | none => Q none H1 | some ws => Q (some (x :: ws)) H1) : tpStar ts (x :: r) H Q := ⟨x, r, rfl, q⟩
theorem mt_seq {n : Nat} {a : Addr} {xs : List V} (ha : SqL K H a xs) (hn : xs.length = n) (q : ts xs H Q) : tpSeq K n ts (.ref a) H Q := ⟨a, xs, rfl, ha, by
  rw [if_pos hn]
  exact q⟩
theorem mt_off {n : Nat} {a : Addr} {xs : List V} (ha : SqL K H a xs) (hn : ¬ xs.length = n) (q : Q none H) : tpSeq K n ts (.ref a) H Q := ⟨a, xs, rfl, ha, by
  rw [if_neg hn]
  exact q⟩
theorem mt_seqS {n i : Nat} {a : Addr} {xs : List V} (ha : SqL K H a xs) (hl : xs.length ≤ 1000) (hn : ¬ xs.length + 1 < n) (q : ∀ D, H D = none → ts (xs.take i ++ .ref D :: (xs.drop i).drop (xs.length + 1 - n)) (upd H D (.lst ((xs.drop i).take (xs.length + 1 - n)))) Q) : tpSeqS K n i ts (.ref a) H Q := ⟨a, xs, rfl, ha, hl, by
  rw [if_neg hn]
  exact q⟩
theorem mt_few {n i : Nat} {a : Addr} {xs : List V} (ha : SqL K H a xs) (hl : xs.length ≤ 1000) (hn : xs.length + 1 < n) (q : Q none H) : tpSeqS K n i ts (.ref a) H Q := ⟨a, xs, rfl, ha, hl, by
  rw [if_pos hn]
  exact q⟩
theorem mt_case {tp : TP} {is : List Nat} {tb : TS} {tr : TCs} {D : Ends} {σ : L2.St} (q : tp x H fun o H1 => match o with | none => tr x D σ H1 | some vs => tb D (setL σ is vs) H1) : tcCons tp is tb tr x D σ H := q
end
open PySem PySem.Spec PyProof.Rows L2
section
variable {K : PySem.W.Frag} {H : Hp} {Q : Option (List V) → Hp → Prop} {ts : TPs} {x y z : V} {r : List V} {a : Addr}
theorem mt_star1 (ha : H a = some (.lst (x :: r))) (hl : r.length ≤ 900) (q : ∀ D, H D = none → ts [x, .ref D] (upd H D (.lst r)) Q) : tpSeqS K 2 1 ts (.ref a) H Q := by
  refine mt_seqS (SqL.of ha) (by rw [List.length_cons]; omega) (by rw [List.length_cons]; omega) fun D nD => ?_
  have e1 : (x :: r).length + 1 - 2 = r.length := by rw [List.length_cons]; omega
  rw [e1]
  show ts ([x] ++ .ref D :: r.drop r.length) (upd H D (.lst (r.take r.length))) Q
  rw [List.drop_length, List.take_length]
  exact q D nD
theorem mt_star3 (ha : H a = some (.lst (x :: y :: z :: r))) (hl : r.length ≤ 900) (q : ∀ D, H D = none → ts [x, y, z, .ref D] (upd H D (.lst r)) Q) : tpSeqS K 4 3 ts (.ref a) H Q := by
  refine mt_seqS (SqL.of ha) (by simp only [List.length_cons]; omega) (by simp only [List.length_cons]; omega) fun D nD => ?_
  have e1 : (x :: y :: z :: r).length + 1 - 4 = r.length := by simp only [List.length_cons]; omega
  rw [e1]
  show ts ([x, y, z] ++ .ref D :: r.drop r.length) (upd H D (.lst (r.take r.length))) Q
  rw [List.drop_length, List.take_length]
  exact q D nD
end

open PySem PySem.Spec PyProof.Rows L2
open PySem.W (EachIs sort_maps dataLe AllAlike Sortable)
/-! ### rows of deeds drawn -/
theorem mapSet {α β : Type} {f : α → β} (l : List α) (k : Nat) (v : α) : (l.map f).set k (f v) = (l.set k v).map f := by rw [List.map_set]

theorem zn_key {H : Hp} : ∀ {us ys : List V} {rs : List (Str × Int)}, ImAll H ys (rs.map siD) → EachIs (fun v x => ∃ r, Im H x (siD r) ∧ v = .str r.1) us ys → us = (rs.map (·.1)).map V.str := by
  intro us ys rs
  induction rs generalizing us ys with
  | nil =>
    intro h1 h2
    cases h1
    cases h2
    rfl
  | cons r rs ih =>
    intro h1 h2
    cases h1 with
    | cons a b =>
      cases h2 with
      | cons c d =>
        obtain ⟨r', c1, c2⟩ := c
        have e := Im.inj _ _ _ a c1
        injection e with e
        injection e with e _
        injection e with e
        rw [ih b d, c2, List.map_cons, List.map_cons, e]
theorem alike_sl (l : List Sl) : AllAlike (l.map slD) := fun d hd e he => by
  obtain ⟨y, _, rfl⟩ := List.mem_map.mp hd
  obtain ⟨z, _, rfl⟩ := List.mem_map.mp he
  cases y <;> cases z <;> rfl
theorem sortable_sl (l : List Sl) : Sortable (l.map slD) := .inl fun d hd => by
  obtain ⟨y, _, rfl⟩ := List.mem_map.mp hd
  cases y <;> exact ⟨_, _, rfl⟩
theorem depth_sl (l : List Sl) : ∀ d ∈ l.map slD, d.depth ≤ 60 := fun d hd => by
  obtain ⟨y, _, rfl⟩ := List.mem_map.mp hd
  exact Nat.le_trans (dep_sl y) (by decide)
def srtSl (l : List Sl) : List Sl := l.mergeSort fun a b => dataLe false id (slD a) (slD b)
theorem srtSl_eq (l : List Sl) : srtD (l.map slD) = (srtSl l).map slD := (sort_maps slD fun _ _ _ _ => rfl).symm
theorem srtSl_perm (l : List Sl) : (srtSl l).Perm l := List.mergeSort_perm _ _
theorem srtS_one (z : Str) : srtS [z] = [z] := List.mergeSort_singleton _
/-- a deed out of a list of deeds -/
theorem imall_erase {H : Hp} : ∀ {xs : List V} {ds : List PyData} (k : Nat), ImAll H xs ds → ImAll H (xs.eraseIdx k) (ds.eraseIdx k)
  | _, _, _, .nil => by simp only [List.eraseIdx_nil]; exact .nil
  | _, _, 0, .cons _ t => t
  | _, _, k + 1, .cons h t => .cons h (imall_erase k t)
theorem imall_set {H : Hp} : ∀ {xs : List V} {ds : List PyData} (k : Nat) {v : V} {d : PyData}, ImAll H xs ds → Im H v d → ImAll H (xs.set k v) (ds.set k d)
  | _, _, _, _, _, .nil, _ => .nil
  | _, _, 0, _, _, .cons _ t, h => .cons h t
  | _, _, k + 1, _, _, .cons a t, h => .cons a (imall_set k t h)
section
variable {K : PySem.W.Frag} {H : Hp} {Q : VK}
theorem rd_popLs {p : Addr} {ds : List PyData} {i : Int} (h : Ls H p ds) (h0 : 0 ≤ i) (h1 : i < ds.length) (hl : ds.length ≤ 1000) (q : ∀ y xs, H p = some (.lst xs) → Ls (upd H p (.lst (xs.eraseIdx i.toNat))) p (ds.eraseIdx i.toNat) → Q y (upd H p (.lst (xs.eraseIdx i.toNat)))) : rPopAt (.ref p) [.int i] H Q := by
  obtain ⟨xs, e, hx⟩ := h
  have hk : i.toNat < xs.length := by rw [hx.len]; omega
  have hi : seqIndex? i xs.length = some i.toNat := by
    have h2 : ixN xs.length i = some i.toNat := by
      unfold ixN
      rw [if_pos h0, if_pos (by omega)]
    exact (ixN_seq h2).1
  refine ⟨p, xs, i, i.toNat, xs[i.toNat], rfl, rfl, e, Int.le_trans (by decide) h0, Int.lt_of_lt_of_le h1 (by omega), hi, List.getElem?_eq_getElem hk, q _ xs e ⟨_, upd_same, ?_⟩⟩
  have eL : Ext [] [p] H (upd H p (.lst (xs.eraseIdx i.toNat))) := Ext.mut (by simp) e
  exact ImAll.ext eL (lsts_one e) _ _ (imall_erase _ hx)
end
theorem mem_erase {α : Type} {l : List α} {k : Nat} {x : α} (h : x ∈ l.eraseIdx k) : x ∈ l := List.mem_of_mem_eraseIdx h
/-- an item whose content may be of six ids: a move adds a server -/
structure ItmW (s : Sl) (i : Itm) : Prop where
  c : ∃ cs : List Str, i.c = srtS cs ∧ cs.Nodup ∧ (∀ y ∈ cs, idB y = true) ∧ cs.length ≤ 6
  g : ∃ gs : List Str, i.g = srtS gs ∧ gs.Nodup ∧ (∀ y ∈ gs, idB y = true) ∧ gs.length ≤ 3
  li : 1 ≤ i.li ∧ i.li ≤ 1000
  ab : 0 ≤ i.a ∧ i.a ≤ i.b ∧ i.b ≤ 10000
  h : ∀ z, s = .h z → i.g = [] ∧ i.a = 0 ∧ i.b = 10000
theorem ItmOk.w {s : Sl} {i : Itm} (h : ItmOk s i) : ItmW s i := by
  obtain ⟨cs, h1, h2, h3, h4⟩ := h.c
  exact ⟨⟨cs, h1, h2, h3, by omega⟩, h.g, h.li, h.ab, h.h⟩
def DdW (R : Rm) : Dd → Prop
  | .put s i => s ∈ slotsR R ∧ ItmW s i
  | .on x z => idB x = true ∧ z ∈ R.zs.tail.map (·.1)
  | .off x z => idB x = true ∧ z ∈ R.zs.tail.map (·.1)
theorem DdOk.w {R : Rm} {d : Dd} (h : DdOk R d) : DdW R d := by
  cases d with
  | put s i => exact ⟨h.1, h.2.w⟩
  | on x z => exact h
  | off x z => exact h
section
variable (T : List (Addr × Str))
def spRow : Sp := fun vs H Q _ => ∃ (l t pa : Addr) (v u : V) (R : Rm) (ps : List (Str × List Str)) (s : Sta), vs = [.ref t, v, .ref pa, u] ∧ Tape l H t ∧ Im H v (rmD R) ∧ RmIn R ∧ Pools H t pa ps ∧ PsOk R ps ∧ StAt H u s ∧ StaOk R s ∧ s.on.length ≤ 50 ∧
  ∀ (x : V) (ds : List Dd) (H' : Hp), (∀ d ∈ ds, DdW R d) → ds.length ≤ 12 → Im H' x (.tuple (ds.map ddD)) → Ext T [t] H H' → Tape l H' t → Q x H'
def spMove : Sp := fun vs H Q _ => ∃ (l t : Addr) (v u : V) (R : Rm) (s : Sta), vs = [.ref t, v, u] ∧ Tape l H t ∧ Im H v (rmD R) ∧ RmIn R ∧ 1 < R.zs.length ∧ StAt H u s ∧ StaOk R s ∧ s.on.length ≤ 50 ∧
  ∀ (x : V) (ds : List Dd) (H' : Hp), (∀ d ∈ ds, DdW R d) → ds.length ≤ 12 → Im H' x (.tuple (ds.map ddD)) → Ext T [t] H H' → Tape l H' t → Q x H'
end
theorem tail_mem {R : Rm} (h : RmIn R) {z : Str} (hz : z ∈ R.zs.map (·.1)) : z = dotS ∨ z ∈ R.zs.tail.map (·.1) := by
  obtain ⟨lag, rest, e, _⟩ := h.ne
  rw [e] at hz ⊢
  rcases List.mem_cons.mp hz with h | h
  · exact .inl h
  · exact .inr h
theorem kl_mem {R : Rm} {z : Str} (hz : z ∈ R.zs.tail.map (·.1)) : Sl.k z ∈ slotsR R ∧ Sl.l z ∈ slotsR R := by
  obtain ⟨y, hy, rfl⟩ := List.mem_map.mp hz
  unfold slotsR
  exact ⟨List.mem_append_left _ (List.mem_cons_of_mem _ (List.mem_flatMap.mpr ⟨y, hy, by simp⟩)), List.mem_append_left _ (List.mem_cons_of_mem _ (List.mem_flatMap.mpr ⟨y, hy, by simp⟩))⟩
theorem k_mem {R : Rm} (h : RmIn R) {z : Str} (hz : z ∈ R.zs.map (·.1)) : Sl.k z ∈ slotsR R := by
  rcases tail_mem h hz with e | hz
  · rw [e]
    unfold slotsR
    exact List.mem_append_left _ List.mem_cons_self
  · exact (kl_mem hz).1
def slw (s : Sl) : Bool := match s with
  | .k _ => false
  | .l _ => true
  | .h _ => false
  | .s _ _ => true
theorem slw_eq (s : Sl) : ∃ (kw z : Str) (r : List PyData), slD s = .tuple (.str kw :: .str z :: r) ∧ (kw ∈ [Str.ofString "set", Str.ofString "link"] ↔ slw s = true) := by
  cases s with
  | k z => exact ⟨"keys", z, [], rfl, ⟨fun h => absurd h (by decide +kernel), fun h => by cases h⟩⟩
  | l z => exact ⟨"link", z, [], rfl, ⟨fun _ => rfl, fun _ => by decide +kernel⟩⟩
  | h z => exact ⟨"hosts", z, [], rfl, ⟨fun h => absurd h (by decide +kernel), fun h => by cases h⟩⟩
  | s n k => exact ⟨"set", n, [.str k], rfl, ⟨fun _ => rfl, fun _ => by decide +kernel⟩⟩
theorem im_filter {H : Hp} {α : Type} {f : α → PyData} {c : α → Bool} (hf : ∀ a b, f a = f b → a = b) {xs us : List V} {as : List α} (hx : ImAll H xs (as.map f)) (hu : EachIs (fun v x => v = x) us (xs.filter (pIm H f c))) : ImAll H us ((as.filter c).map f) := by
  have h1 : us = xs.filter (pIm H f c) := by
    have key : ∀ {us vs : List V}, EachIs (fun v x => v = x) us vs → us = vs := by
      intro us vs h
      induction h with
      | nil => rfl
      | cons a b ih => rw [a, ih]
    exact key hu
  rw [h1]
  have key : ∀ {xs : List V} {as : List α}, EachIs (fun x a => Im H x (f a)) xs as → ImAll H xs (as.map f) := by
    intro xs as h
    induction h with
    | nil => exact .nil
    | cons a b ih => exact .cons a ih
  exact key (each_filter (c := c) hf hx)
/-! ### a list of one's own that grows -/
section
variable {T : List (Addr × Str)} {H H' : Hp}
theorem Im.z {p : Addr} {v : V} {d : PyData} (h : Im H v d) (e : Ext T [p] H H') (hm : Lsts H [p]) : Im H' v d := Im.ext e hm _ _ h
theorem ImAll.z {p : Addr} {vs : List V} {ds : List PyData} (h : ImAll H vs ds) (e : Ext T [p] H H') (hm : Lsts H [p]) : ImAll H' vs ds := ImAll.ext e hm _ _ h
theorem StAt.z {p : Addr} {v : V} {s : Sta} (h : StAt H v s) (e : Ext T [p] H H') (hm : Lsts H [p]) : StAt H' v s := h.ext e hm
theorem SqP.z {p a : Addr} {xs : List V} (h : SqP H a xs) (e : Ext T [p] H H') (hm : Lsts H [p]) : SqP H' a xs := SqP.ext h e hm
theorem tup.z {p a : Addr} {xs : List V} (h : H a = some (.tup xs)) (e : Ext T [p] H H') (hm : Lsts H [p]) : H' a = some (.tup xs) := SqP.ext h e hm
theorem Ls.z {p a : Addr} {ds : List PyData} (h : Ls H a ds) (e : Ext T [p] H H') (hm : Lsts H [p]) (ha : a ≠ p) : Ls H' a ds := h.ext e (by simpa using ha) hm
theorem lst.z {p a : Addr} {xs : List V} (h : H a = some (.lst xs)) (e : Ext T [p] H H') (ha : a ≠ p) : H' a = some (.lst xs) := e.lst (by simpa using ha) h
theorem CL.z {p a t : Addr} {n : Nat} {cs : List Str} (h : CL H t a n cs) (e : Ext T [p] H H') (ha : a ≠ p) : CL H' t a n cs := ⟨lst.z h.at_ e ha, h.ne, h.nd, h.ok, h.len⟩
end
section
variable {T : List (Addr × Str)} {K : PySem.W.Frag} {Hb H : Hp} {Q : VK} {l t dp : Addr} {ds : List PyData}
theorem push_step {v : V} {d : PyData} (hb : Ext T [t] Hb H) (hn : Nw Hb dp) (hTb : Tape l Hb t) (hT : Tape l H t) (hds : Ls H dp ds) (hv : Im H v d) (hl : ds.length < 1000)
    (q : ∀ H', Ext T [t] Hb H' → Tape l H' t → Ext T [dp] H H' → Lsts H [dp] → Ls H' dp (ds ++ [d]) → Q .non H') : rAppend (.ref dp) [v] H Q :=
  rd_appLs hds hv (Nat.lt_of_lt_of_le hl (by decide)) fun ys hy h => q _ (hb.own hn hy) (hT.own (hTb.ne hn).1 (hTb.ne hn).2) (Ext.mut (by simp) hy) (lsts_one hy) h
theorem pop_step {i : Int} (hb : Ext T [t] Hb H) (hn : Nw Hb dp) (hTb : Tape l Hb t) (hT : Tape l H t) (hds : Ls H dp ds) (h0 : 0 ≤ i) (h1 : i < ds.length) (hl : ds.length ≤ 1000)
    (q : ∀ y H', Ext T [t] Hb H' → Tape l H' t → Ext T [dp] H H' → Lsts H [dp] → Ls H' dp (ds.eraseIdx i.toNat) → Q y H') : rPopAt (.ref dp) [.int i] H Q :=
  rd_popLs hds h0 h1 hl fun y xs e h => q y _ (hb.own hn e) (hT.own (hTb.ne hn).1 (hTb.ne hn).2) (Ext.mut (by simp) e) (lsts_one e) h
theorem set_step {i : Int} {v : V} {d : PyData} {Q : Hp → Prop} (hb : Ext T [t] Hb H) (hn : Nw Hb dp) (hTb : Tape l Hb t) (hT : Tape l H t) (hds : Ls H dp ds) (hv : Im H v d) (h0 : 0 ≤ i) (h1 : i < ds.length)
    (q : ∀ H', Ext T [t] Hb H' → Tape l H' t → Ext T [dp] H H' → Lsts H [dp] → Ls H' dp (ds.set i.toNat d) → Q H') : rSetL (.ref dp) (.int i) v H Q := by
  obtain ⟨xs, e, hx⟩ := hds
  refine rd_set (j := i.toNat) e (by unfold ixN; rw [if_pos h0, if_pos (by rw [hx.len]; exact h1)]) ?_
  have eL : Ext T [dp] H (upd H dp (.lst (xs.set i.toNat v))) := Ext.mut (by simp) e
  exact q _ (hb.own hn e) (hT.own (hTb.ne hn).1 (hTb.ne hn).2) eL (lsts_one e) ⟨_, upd_same, imall_set _ (ImAll.ext eL (lsts_one e) _ _ hx) (Im.ext eL (lsts_one e) _ _ hv)⟩
end

open PySem PySem.Spec PyProof.Rows L2
/-! several except clauses, each with a name -/
abbrev HdT := Value × Nat × (Addr → Value → Option Addr → TS)
def endAs (D : Ends) (i : Nat) : Ends := { nx := fun σ1 H1 => D.nx (σ1.set i none) H1, rt := D.rt, bk := fun σ1 H1 => D.bk (σ1.set i none) H1, ct := fun σ1 H1 => D.ct (σ1.set i none) H1 }
def wsAs (K : PySem.W.Frag) (Wo : WX) (D : Ends) : List HdT → WX
  | [] => Wo
  | (c, i, ts) :: r => fun cls d σ H => ∃ b, PySem.W.exmOne K cls c = some b ∧ (b = true → ∀ a, H a = none → ts a cls d (endAs D i) (σ.set i (some (.ref a))) H) ∧ (b = false → wsAs K Wo D r cls d σ H)
inductive HdsN (X : Cx) : List ExceptHandler → List HdT → Prop
  | nil : HdsN X [] []
  | cons {x n : Str} {c : Value} {i : Nat} {ts : Addr → Value → Option Addr → TS} {b0 : Stmt} {bs : List Stmt} {np hp : Pos} {hds : List ExceptHandler} {l : List HdT} (hc : Names X x c) (hi : X.N[i]? = some n) (hln : X.env.kindOf n = some .local)
      (su : ∀ (a : Addr) (o : Obj) (cls : Value) (d : Option Addr) (pn : List (Addr × Obj)), Zc cls d o → (∃ vs, o.data = .fields vs) → PSs (X.suite a ((a, o) :: pn)) (b0 :: bs) (ts a cls d)) (r : HdsN X hds l) :
      HdsN X (.ExceptHandler (some (.Name x np)) (some n) (b0 :: bs) hp :: hds) ((c, i, ts) :: l)
section
variable {X : Cx} {body : List Stmt} {h0 : ExceptHandler} {hds : List ExceptHandler} {l : List HdT} {pos : Pos} {tb : WX → TS} {Wo : WX}
theorem ps_try_named (hs : X.stack = X.env :: X.outer) (hf : X.env.frame = some X.env.locals) (hN : X.N.Nodup) (tk : Takes X Wo)
    (hb : ∀ (W : WX) (pn : List (Addr × Obj)) (xe : Value → Shared → Prop), Takes (X.tr pn xe) W → PassesOwn (model X.prog X.w) X.A X.env xe → PSs (X.tr pn xe) body (tb W))
    (hh : HdsN X (h0 :: hds) l) : PS X (.Try body (h0 :: hds) [] [] pos) (fun D σ H => tb (wsAs X.K Wo D l) D σ H) := by
  constructor
  intro pq st σ H D I q
  have okk := I.ok
  have frs0 : X.A.frames = some (X.env :: X.outer) := by rw [← hs]; exact okk.frames
  refine wpAny_Try_except ?_
  have hb1 := hb (wsAs X.K Wo D l) (X.pn ++ pq) (fun e t1 => wpAny (model X.prog X.w) X.A (noteFrame e X.env) (fun _ t2 => wpAny (model X.prog X.w) X.A (setFlight e none) (fun _ t3 => wpAny (model X.prog X.w) X.A (handleBy e X.env (h0 :: hds)) (SP X pq D) X.xe t3) X.xe t2) X.xe t1)
  refine wpAny_mono ((hb1 (fun u t4 xx => ?_) PassesOwn.looking).run [] st σ H D (I.toTry _) q) (fun fl t5 hsp => ?_) (fun e t5 he => he)
  · obtain ⟨a, B, sI, pq1, σb, Hb, cls, d, rfl, Jb, nb, up, sky, na, os, ag, ww⟩ := xx
    have JJ : Inv X pq σb Hb sI := Jb.ofTry okk
    have sky2 : Sky B (X.env :: X.outer) a (Zc cls d) X.env.locals t4.heap := by rw [← hs]; exact sky
    show wpAny (model X.prog X.w) X.A (noteFrame (.ref a) X.env) _ _ _
    refine Sky.land Zc.steady frs0 hf sky2 fun hp3 fl3 up3 => ?_
    have J3 : Inv X pq σb Hb { t4 with heap := hp3 } := JJ.landed nb fl3.1 (up.trans up3) os ag
    obtain ⟨o3, vs3, he3, hz3, hd3⟩ := fl3.there
    have noF : ∀ {hq : Heap} {o : Obj} {vs : Array Value}, hq.FunFrames B (X.env :: X.outer) → hq.get? a = some o → o.data = .fields vs → a ∉ frs (X.env :: X.outer) := by
      intro hq o vs ff e dd hm
      obtain ⟨_, o2, e2, hnf⟩ := ff.mem hm
      rw [e] at e2
      cases e2
      exact hnf _ dd
    have n3 := noF fl3.2.2.1 he3 hd3
    have nL : a ≠ X.env.locals := fun z => n3 (List.mem_filterMap.mpr ⟨X.env, List.mem_cons_self, (by rw [hf, z])⟩)
    have nF : a ∉ X.fs := fun hm => by
      obtain ⟨e, he, qq⟩ := List.mem_filterMap.mp hm
      exact n3 (List.mem_filterMap.mpr ⟨e, List.mem_cons_of_mem _ he, qq⟩)
    have S3 := J3.suite he3 hd3 na nL nF
    have go : ∀ {hs2 : List ExceptHandler} {l2 : List HdT}, HdsN X hs2 l2 → wsAs X.K Wo D l2 cls d σb Hb → wpAny (model X.prog X.w) X.A (handleBy (.ref a) X.env hs2) (SP X pq D) X.xe { t4 with heap := hp3 } := by
      intro hs2 l2 hk
      induction hk with
      | nil =>
        intro w2
        refine wpAny_handleBy_nil ?_
        obtain ⟨_, _, _, o5, v5, T5, oT, ts5, he5, hz5, hd5, h15, hr5⟩ := id fl3
        unfold PySem.passOn
        refine wpAny_bind (wpAny_field he5 hd5 h15 ?_)
        rw [if_neg (show ¬ ((Value.ref T5 == Value.none) = true) from by simp)]
        have fin : wpAny (model X.prog X.w) X.A (setFlight (.ref a) X.env.frame) (fun _ t6 => wpAny (model X.prog X.w) X.A (throw (.ref a) : Sem Flow) (SP X pq D) X.xe t6) X.xe { t4 with heap := hp3 } := by
          rw [hf]
          refine HandSPX.setFlight_upZ fl3 fun hp6 hh6 up6 => ?_
          refine wpAny_throw (tk _ _ ?_)
          exact ⟨a, B, sI, pq, σb, Hb, cls, d, rfl, JJ, nb, ((up.trans up3).trans up6), .inr (.inr (by rw [hs]; exact hh6)), na, os, ag, w2⟩
        first
          | exact wpAny_bind (wpAny_pure (wpAny_bind fin))
          | exact wpAny_bind fin
      | @cons x n c i ts b0 bs np hp hds2 l3 hc hi hln su r ih =>
        intro w2
        obtain ⟨b, hb2, hyes, hno⟩ := w2
        refine wpAny_handleBy_cons (codeAny_handlers_test ?_) (by intro qq; cases qq)
        have LT : PySem.W.Looks (model X.prog X.w) hp3 (typeOf (.ref a)) cls := by
          intro A1 Q1 E1 s1 k1 q1
          exact wpAny_typeOf_ref (k1 _ _ he3) (by rw [hz3.1]; exact q1)
        have LM := PySem.W.exm_one (M := model X.prog X.w) J3.kIn LT hb2
        have test : ∀ {Q1 E1 : Value → Shared → Prop}, Q1 c { t4 with heap := hp3 } → wpAny (model X.prog X.w) (X.A.mark (some (.ref a))) (eval (.Name x np) X.env) Q1 E1 { t4 with heap := hp3 } := by
          intro Q1 E1 q1
          obtain ⟨hg, hdbg, hm | ⟨hm, hv, hnn⟩⟩ := hc
          · exact ld_glob (X := X.suite a ((a, o3) :: (X.pn ++ pq))) S3 hg hm q1 hdbg
          · exact ld_blt (X := X.suite a ((a, o3) :: (X.pn ++ pq))) S3 hg hm hv q1 hnn hdbg
        refine test (LM.here ?_)
        cases b with
        | true =>
          refine codeAny_handlers_suite_as ?_
          refine HandSPX.lands_againZ fl3 fun hp4 fl4 up4 => ?_
          have J4 : Inv X pq σb Hb { t4 with heap := hp4 } := JJ.landed nb fl4.1 ((up.trans up3).trans up4) os ag
          obtain ⟨o4, vs4, he4, hz4, hd4⟩ := fl4.there
          have S4 := J4.suite he4 hd4 na nL nF
          refine store_ok (X := X.suite a ((a, o4) :: (X.pn ++ pq))) (v := .ref a) S4 hN hi (.inl hln) rfl (fun t7 S5 => ?_) (.inr hln)
          have fin : ∀ {σ6 : L2.St} {H6 : Hp} {t8 : Shared} {Q1 : Shared → Prop}, Inv (X.suite a ((a, o4) :: (X.pn ++ pq))) [] σ6 H6 t8 → (∀ t9, Inv X pq (σ6.set i none) H6 t9 → Q1 t9) →
              wpAny (model X.prog X.w) X.A (do bindName X.env n .none; unbindBehindTheSuite X.env n hp) (fun _ t9 => Q1 t9) X.xe t8 := fun S6 hq => gone_ok (S6.unsuite okk) hN hi hln hq
          refine wpAny_mono ((su a o4 cls d (X.pn ++ pq) hz4 ⟨_, hd4⟩).run [] t7 _ Hb _ S5 (hyes rfl a na)) (fun f t8 hs8 => ?_) (fun _ _ z => z.elim)
          cases f with
          | next =>
            obtain ⟨_, _, S6, q6⟩ := hs8
            exact fin S6 fun t9 J7 => ⟨_, _, J7, q6⟩
          | brk =>
            obtain ⟨_, _, S6, q6⟩ := hs8
            exact fin S6 fun t9 J7 => ⟨_, _, J7, q6⟩
          | cont =>
            obtain ⟨_, _, S6, q6⟩ := hs8
            exact fin S6 fun t9 J7 => ⟨_, _, J7, q6⟩
          | ret u =>
            obtain ⟨_, _, _, S6, r6, q6⟩ := hs8
            exact fin S6 fun t9 J7 => ⟨_, _, _, J7, r6, q6⟩
        | false => exact ih (hno rfl)
    exact go hh ww
  · cases fl with
    | next =>
      obtain ⟨_, _, Jn, qn⟩ := hsp
      exact wpAny_execs_nil ⟨_, _, Jn.ofTry okk, qn⟩
    | brk =>
      obtain ⟨_, _, Jn, qn⟩ := hsp
      exact ⟨_, _, Jn.ofTry okk, qn⟩
    | cont =>
      obtain ⟨_, _, Jn, qn⟩ := hsp
      exact ⟨_, _, Jn.ofTry okk, qn⟩
    | ret u =>
      obtain ⟨_, _, _, Jn, rn, qn⟩ := hsp
      exact ⟨_, _, _, Jn.ofTry okk, rn, qn⟩
end

open PySem PySem.Spec PyProof.Rows L2
/-! texts of words: numbers, lists of ids, slots, items, events -/
def numS (n : Nat) : Str := Str.ofString (toString ((n : Nat) : Int))
def jn (c : Nat) (ws : List Str) : Str := S (TL.joinL [c] (ws.map sg))
def idsS (cs : List Str) : Str := if cs = [] then "-" else jn 44 cs
theorem sg_jn (c : Nat) (ws : List Str) : sg (jn c ws) = TL.joinL [c] (ws.map sg) := rfl
theorem numS_S (n : Nat) : numS n = S (TL.numL n) := by
  have := sg_num n
  rw [← this, S_sg]
  rfl
theorem numS_num {n : Nat} (h : n < 100000) : numBL (sg (numS n)) = true := by
  rw [show sg (numS n) = TL.numL n from sg_num n]
  exact num_ok h
theorem numS_len {n : Nat} (h : n < 100000) : (numS n).length ≤ 5 := num_len h
/-- what a word may not hold -/
def Fr (c : Nat) (z : Str) : Prop := c ∉ sg z
theorem num_fr {n c : Nat} (h : c < 48 ∨ 57 < c) : Fr c (numS n) := by
  unfold Fr
  rw [show sg (numS n) = TL.numL n from sg_num n]
  exact TL.numL_free h
theorem letters_fr {c : Nat} (h : c ∉ sg lettersS) {z : Str} {m : Int} (hz : wordB z lettersS m = true) : Fr c z := fun hm => by
  unfold wordB at hz
  rw [Bool.and_eq_true, Bool.and_eq_true, List.all_eq_true] at hz
  exact h (of_decide_eq_true (hz.2.2 c hm))
theorem id_fr {c : Nat} (h : c ∉ sg lettersS) {z : Str} (hz : idB z = true) : Fr c z := letters_fr h hz
theorem joinL_mem {s : Nat} : ∀ {ps : List (List Nat)} {c : Nat}, c ∈ TL.joinL [s] ps → c = s ∨ ∃ p ∈ ps, c ∈ p
  | [], _, h => by simp [TL.joinL] at h
  | [p], _, h => .inr ⟨p, by simp, by simpa [TL.joinL] using h⟩
  | p :: q :: r, c, h => by
    have h : c ∈ p ++ ([s] ++ TL.joinL [s] (q :: r)) := h
    rcases List.mem_append.mp h with h | h
    · exact .inr ⟨p, List.mem_cons_self, h⟩
    · rcases List.mem_append.mp h with h | h
      · exact .inl (List.mem_singleton.mp h)
      · rcases joinL_mem (ps := q :: r) h with h | ⟨p', hp, hc⟩
        · exact .inl h
        · exact .inr ⟨p', List.mem_cons_of_mem _ hp, hc⟩
theorem jn_fr {c s : Nat} {ws : List Str} (hs : c ≠ s) (h : ∀ w ∈ ws, Fr c w) : Fr c (jn s ws) := fun hm => by
  rw [sg_jn] at hm
  rcases joinL_mem hm with e | ⟨p, hp, hc⟩
  · exact hs e
  · obtain ⟨w, hw, rfl⟩ := List.mem_map.mp hp
    exact h w hw hc
theorem ids_fr {c : Nat} (h : c ∉ sg lettersS) (hd : c ≠ 45) (hc : c ≠ 44) {cs : List Str} (hcs : ∀ x ∈ cs, idB x = true) : Fr c (idsS cs) := by
  unfold idsS
  split
  · intro hm
    have : sg ("-" : Str) = [45] := by decide +kernel
    rw [this] at hm
    exact hd (List.mem_singleton.mp hm)
  · exact jn_fr hc fun w hw => id_fr h (hcs w hw)
theorem name_fr {c : Nat} (h : c ∉ sg lettersS) (hd : c ≠ 46) {z : Str} (hz : nameB z = true) : Fr c z := fun hm => by
  rcases name_parts hz with e | ⟨_, hp⟩
  · rw [e, show sg dotS = [46] from by decide +kernel] at hm
    exact hd (List.mem_singleton.mp hm)
  · rcases spl_cover (sg z) [] c hm with e | ⟨p, hp', hcp⟩
    · exact hd e
    · rw [← parts_sg] at hp'
      obtain ⟨y, hy, rfl⟩ := List.mem_map.mp hp'
      exact h (label_mem (hp y hy) hcp)
theorem split_jn {s : Nat} {d : Str} (hd : sg d = [s]) (hk : d.cps.all (· < 256) = true) {ws : List Str} (hne : ws ≠ []) (h : ∀ w ∈ ws, Fr s w) : Txt.split (jn s ws) d = ws := by
  have h1 := TL.split_spl (jn s ws) d (by rw [show TL.tl d = [s] from hd]; simp) (TL.kind_ok hk)
  rw [show TL.tl d = [s] from hd, show TL.tl (jn s ws) = TL.joinL [s] (ws.map sg) from rfl, TL.spl_join (by simpa using hne) (fun p hp => by
    obtain ⟨w, hw, rfl⟩ := List.mem_map.mp hp
    exact h w hw)] at h1
  have h2 := congrArg (List.map S) h1
  rw [map_S_sg] at h2
  rw [map_S_sg] at h2
  exact h2
theorem join_jn {s : Nat} {d : Str} (hd : sg d = [s]) (ws : List Str) : Txt.join d ws = jn s ws := sg_inj (by
  rw [sg_jn, ← hd, TL.join_eq]
  exact TL.tl_join d ws)
theorem jn_cons (s : Nat) (w : Str) {ws : List Str} (h : ws ≠ []) : jn s (w :: ws) = w ++ (S [s] ++ jn s ws) := sg_inj (by
  rw [sg_jn, sg_app, sg_app, sg_S, sg_jn]
  cases ws with
  | nil => exact absurd rfl h
  | cons a r => rfl)
theorem jn_one (s : Nat) (w : Str) : jn s [w] = w := sg_inj rfl
theorem jn_app (s : Nat) : ∀ {a b : List Str}, a ≠ [] → b ≠ [] → jn s (a ++ b) = jn s a ++ (S [s] ++ jn s b)
  | [], _, h, _ => absurd rfl h
  | [w], b, _, hb => by rw [jn_one]; exact jn_cons s w hb
  | w :: v :: r, b, _, hb => by
    have ih := jn_app s (a := v :: r) (b := b) (by simp) hb
    show jn s (w :: ((v :: r) ++ b)) = _
    rw [jn_cons s w (by simp), ih, jn_cons s w (by simp)]
    exact sg_inj (by simp only [sg_app, List.append_assoc])
theorem jn_len (s : Nat) (ws : List Str) : (jn s ws).length ≤ (ws.map (·.length)).sum + ws.length := by
  rw [← sg_len, sg_jn]
  have h := joinL_len [s] (ws.map sg)
  rw [List.map_map, List.length_map] at h
  have e : ws.map (List.length ∘ sg) = ws.map (·.length) := List.map_congr_left fun w _ => sg_len w
  rw [e] at h
  simpa using h
/-! ### slots, items, events -/
def slW : Sl → List Str
  | .k z => ["keys", z]
  | .l z => ["link", z]
  | .h z => ["hosts", z]
  | .s n k => ["set", n, k]
def SlOk : Sl → Prop
  | .k z => nameB z = true
  | .l z => nameB z = true
  | .h z => nameB z = true
  | .s n k => nameB n = true ∧ idB k = true
/-- an item of a text: its numbers are natural ones -/
structure Itx where
  c : List Str
  li : Nat
  g : List Str
  a : Nat
  b : Nat
def itD2 (i : Itx) : PyData := .tuple [.tuple (i.c.map .str), .int i.li, .tuple (i.g.map .str), .int i.a, .int i.b]
def isH : Sl → Bool
  | .h _ => true
  | _ => false
def itW (s : Sl) (i : Itx) : List Str := if isH s = true then [idsS i.c, "life", numS i.li] else [idsS i.c, "life", numS i.li, "by", idsS i.g, "from", numS i.a, "to", numS i.b]
structure ItOk2 (s : Sl) (i : Itx) : Prop where
  c : ∀ x ∈ i.c, idB x = true
  cl : i.c.length ≤ 6
  g : ∀ x ∈ i.g, idB x = true
  gl : i.g.length ≤ 6
  li : i.li < 100000
  a : i.a < 100000
  b : i.b < 100000
  h : isH s = true → i.g = [] ∧ i.a = 0 ∧ i.b = 10000
inductive Ev where
  | go (m : Nat) | fill (s : Sl) (ps : List Nat) | ask (n k : Str) (ps : List Nat) | drop (s : Sl) | plant (s : Sl) (i : Itx) | lose (z k : Str)
def psD (ps : List Nat) : PyData := .tuple (ps.map fun p => .int ((p : Nat) : Int))
def evD : Ev → PyData
  | .go m => .tuple [.str "go", .int m]
  | .fill s ps => .tuple [.str "fill", slD s, psD ps]
  | .ask n k ps => .tuple [.str "ask", .str n, .str k, psD ps]
  | .drop s => .tuple [.str "drop", slD s]
  | .plant s i => .tuple [.str "plant", slD s, itD2 i]
  | .lose z k => .tuple [.str "lose", .str z, .str k]
def evW : Ev → List Str
  | .go m => ["go", numS m]
  | .fill s ps => "fill" :: (slW s ++ ps.map numS)
  | .ask n k ps => "ask" :: n :: k :: ps.map numS
  | .drop s => "drop" :: slW s
  | .plant s i => "plant" :: (slW s ++ ("=" : Str) :: itW s i)
  | .lose z k => ["lose", z, k]
def PsOk2 (ps : List Nat) : Prop := (∀ p ∈ ps, p < 100000) ∧ ps.length ≤ 6
def EvOk : Ev → Prop
  | .go m => m < 100000
  | .fill s ps => SlOk s ∧ PsOk2 ps
  | .ask n k ps => nameB n = true ∧ idB k = true ∧ PsOk2 ps
  | .drop s => SlOk s
  | .plant s i => SlOk s ∧ ItOk2 s i
  | .lose z k => nameB z = true ∧ idB k = true
theorem slW_fr {s : Sl} (h : SlOk s) {c : Nat} (hc : c = 32 ∨ c = 10) : ∀ w ∈ slW s, Fr c w := by
  have hl : c ∉ sg lettersS := by rcases hc with rfl | rfl <;> decide +kernel
  have h46 : c ≠ 46 := by omega
  have k1 : ∀ z ∈ ([("keys" : Str), "link", "hosts", "set"] : List Str), Fr c z := by
    rcases hc with rfl | rfl <;> (intro z hz; simp only [List.mem_cons, List.not_mem_nil, or_false] at hz; rcases hz with rfl | rfl | rfl | rfl <;> (unfold Fr; decide +kernel))
  intro w hw
  cases s with
  | k z =>
    rcases List.mem_cons.mp hw with rfl | hw
    · exact k1 _ (by simp)
    · rw [List.mem_singleton.mp hw]
      exact name_fr hl h46 h
  | l z =>
    rcases List.mem_cons.mp hw with rfl | hw
    · exact k1 _ (by simp)
    · rw [List.mem_singleton.mp hw]
      exact name_fr hl h46 h
  | h z =>
    rcases List.mem_cons.mp hw with rfl | hw
    · exact k1 _ (by simp)
    · rw [List.mem_singleton.mp hw]
      exact name_fr hl h46 h
  | s n k =>
    rcases List.mem_cons.mp hw with rfl | hw
    · exact k1 _ (by simp)
    · rcases List.mem_cons.mp hw with rfl | hw
      · exact name_fr hl h46 h.1
      · rw [List.mem_singleton.mp hw]
        exact id_fr hl h.2
/-- two words, or a set -/
theorem sl_cases {sl : Sl} (h : SlOk sl) : (∃ wd z : Str, slW sl = [wd, z] ∧ nameB z = true ∧ slD sl = .tuple [.str wd, .str z] ∧ wd ∈ [Str.ofString "keys", Str.ofString "link", Str.ofString "hosts"] ∧ (isH sl = true ↔ wd = Str.ofString "hosts")) ∨ ∃ n k, sl = .s n k := by
  cases sl with
  | k z => exact .inl ⟨"keys", z, rfl, h, rfl, by decide, by show (false = true ↔ Str.ofString "keys" = Str.ofString "hosts"); decide +kernel⟩
  | l z => exact .inl ⟨"link", z, rfl, h, rfl, by decide, by show (false = true ↔ Str.ofString "link" = Str.ofString "hosts"); decide +kernel⟩
  | h z => exact .inl ⟨"hosts", z, rfl, h, rfl, by decide, by show (true = true ↔ Str.ofString "hosts" = Str.ofString "hosts"); decide +kernel⟩
  | s n k => exact .inr ⟨n, k, rfl⟩
theorem word_okS {wd : Str} (h : wd ∈ [Str.ofString "keys", Str.ofString "link", Str.ofString "hosts"]) : PyData.strOk wd = true ∧ wd ≠ Str.ofString "set" := by
  simp only [List.mem_cons, List.not_mem_nil, or_false] at h
  rcases h with rfl | rfl | rfl <;> decide +kernel
/-- a comprehension whose values keep what is said of them while the heap grows -/
theorem lcg_gen (T : List (Addr × Str)) {J : It} {n : Nat} {Gd : Hp → Prop} {Y : Nat → Hp → V → Hp → Prop} {g : TG} {te : TE} {vs : List Nat} {σ : L2.St} {H : Hp} {Q : VK} (w : Walk J n Gd Y) (hG : ∀ H', Ext T [] H H' → Gd H') (hs : n < sizeLine) (R : Nat → Addr → Hp → V → Prop) (hm : ∀ i D H1 H2 y xs, Ext T [D] H1 H2 → H1 D = some (.lst xs) → R i D H1 y → R i D H2 y)
    (step : ∀ i x D H1 H', i < n → Ext T [] H H1 → Nw H D → (∃ ys, H1 D = some (.lst ys)) → Y i H1 x H' → ∀ F : VK, (∀ y H2, R i D H2 y → Ext T [] H1 H2 → F y H2) → g x (wipe σ vs) H' fun σ2 H2 => wipe σ2 vs = wipe σ vs ∧ tYes σ2 H2 fun b H3 => if b = true then te σ2 H3 F else True)
    (q : ∀ D ys H2, Nw H D → Ext T [] H H2 → H2 D = some (.lst ys) → ys.length = n → (∀ i y, ys[i]? = some y → R i D H2 y) → Q (.ref D) H2) : LcG J g tYes te vs σ H Q := fun D hD => by
  refine lc_it w (fun i H2 => Ext T [] H H2 ∧ ∃ ys, H2 D = some (.lst ys) ∧ ys.length = i ∧ ∀ j y, ys[j]? = some y → R j D H2 y) ⟨.new hD, [], upd_same, rfl, fun j y h => by simp at h⟩ (fun i H2 _ h => hG _ h.1) (fun i x H1 H' hi h y => ?_) (fun H1 h => ?_)
  · obtain ⟨e1, ys, hy, hl, hr⟩ := h
    have h4 := step i x D H1 H' hi e1 (.of hD) ⟨ys, hy⟩ y (fun v H4 => ∃ acc, H4 D = some (.lst acc) ∧ acc.length < sizeLine ∧ (Ext T [] H (upd H4 D (.lst (acc ++ [v]))) ∧ ∃ ys, (upd H4 D (.lst (acc ++ [v]))) D = some (.lst ys) ∧ ys.length = i + 1 ∧ ∀ j y, ys[j]? = some y → R j D (upd H4 D (.lst (acc ++ [v]))) y)) fun v H2 hv e2 => ?_
    · exact h4
    · have hD2 := lst.x hy e2
      have eo : Ext T [D] H2 (upd H2 D (.lst (ys ++ [v]))) := Ext.mut (by simp) hD2
      refine ⟨ys, hD2, by omega, (e1.trans e2).own (.of hD) hD2, ys ++ [v], upd_same, by rw [List.length_append, hl]; rfl, fun j u hu => ?_⟩
      by_cases hj : j < ys.length
      · rw [List.getElem?_append_left hj] at hu
        exact hm j D H2 _ u ys eo hD2 (hm j D H1 H2 u ys (e2.wide (by simp)) hy (hr j u hu))
      · have hj2 := (List.getElem?_eq_some_iff.mp hu).1
        rw [List.length_append] at hj2
        have hj3 : j = ys.length := by
          have : [v].length = 1 := rfl
          omega
        subst hj3
        rw [List.getElem?_append_right (Nat.le_refl _), Nat.sub_self] at hu
        cases Option.some.inj (show some v = some u from hu)
        rw [hl]
        exact hm i D H2 _ v ys eo hD2 hv
  · obtain ⟨e1, ys, hy, hl, hr⟩ := h
    exact q D ys H1 (.of hD) e1 hy hl hr

open PySem PySem.Spec PyProof.Rows L2
/-! a list comprehension whose element may raise -/
def cpost (M : Model) (A : Around) (E : Value → Shared → Prop) (Q : Value → Shared → Prop) (acc : Value) (C : Addr) (fr : Option Addr) (r : Result) (t : Shared) : Prop :=
  match r with
  | .ok _ => ∃ m, t.heap.Ns C m ∧ ∀ g, Heap.SameBut C t.heap g → Q acc { t with heap := g }
  | .error x => ∃ m, t.heap.Ns C m ∧ ∀ g, Heap.SameBut C t.heap g → ∀ ce : Env, ce.locals = C → ce.frame = fr → wpAny M A (passOn "comprehension.variables-let-go" x ce : Sem Value) (fun _ _ => False) E { t with heap := g }
theorem comp_free {M : Model} {A : Around} {E : Value → Shared → Prop} {s : Shared} {env : Env} {e : Expr} {scope : Scope} {pos : Pos} {mk fst : Sem Value} {g : Comprehension} {gs : List Comprehension} {cl : List (Str × Addr)} {Q : Value → Shared → Prop}
    (hcl : clausesOf e = g :: gs) (hs : ∀ x, foldedSetIterable g.iter env x = pure x) (hclos : closureFor scope env = pure cl) (hk : scope.kind = .function) (hn : ∀ x ∈ scope.names, x.2 = .local → scope.names.lookup x.1 = some .local)
    (h : wpAny M A fst (fun x t1 => wpAny M A (pyIter x) (fun it t2 => wpAny M A mk (fun acc t3 => wpAny M A (newFunctionEnv scope env.globals cl [] env.qual none .none (some env)) (fun cenv t4 =>
      codeAny M A (.compStart e 0 it acc { cenv with scope := relabel scope env }) (cpost M A E Q acc cenv.locals cenv.frame) t4) E t3) E t2) E t1) E s) :
    wpAny M A (comprehension e scope env pos mk false fst none) Q E s := by
  unfold comprehension
  rw [hclos, hcl]
  refine wpAny_bind (wpAny_mono h (fun x t1 g1 => wpAny_bind (wpAny_standAt (wpAny_bind (wpAny_of_eq (hs x) (wpAny_bind (wpAny_holding (wpAny_mono g1 (fun it t2 g2 => wpAny_standIf (wpAny_bind (wpAny_mono g2 (fun acc t3 g3 => wpAny_bind (wpAny_pure (wpAny_bind (wpAny_mono g3 (fun cenv t4 g4 => ?_) fun _ _ z => z)))) fun _ _ z => z))) fun _ _ z => z))))))) fun _ _ z => z)
  dsimp only
  have hv : ∀ x ∈ (scope.names.filter fun x => (x.2 == .local || x.2 == .cell) && x.1 != (".0" : Str)).reverse, x.2 = .local → Env.kindOf { cenv with scope := relabel scope env } x.1 = some .local :=
    fun x hx hl => lookup_relabel_local (hn x (List.mem_filter.mp (List.mem_reverse.mp hx)).1 hl)
  refine wpAny_holding (wpAny_bind (wpAny_attempt (wpAny_holding (wpAny_run (codeAny_mono g4 fun r t5 hr => ?_)))))
  cases r with
  | ok f =>
    obtain ⟨m, hm, hr⟩ := hr
    exact wpAny_bind (wpAny_holding (wpAny_comp_letGo (cenv := { cenv with scope := relabel scope env }) hk _ t5 m hv hm fun h' m' _ hs' => wpAny_pure (hr h' hs')))
  | error x =>
    obtain ⟨m, hm, hr⟩ := hr
    exact wpAny_bind (wpAny_holding (wpAny_comp_letGo (cenv := { cenv with scope := relabel scope env }) hk _ t5 m hv hm fun h' m' _ hs' => wpAny_mono (hr h' hs' _ rfl rfl) (fun _ _ z => z.elim) fun _ _ z => z))
open PySem PySem.Spec PyProof.Rows L2
theorem note_same {e : Value} {c d : Env} (h : c.frame = d.frame) : noteFrame e c = noteFrame e d := by
  unfold noteFrame PySem.frameOf
  rw [h]
section
variable {M : Model} {A : Around} {E : Value → Shared → Prop} {s : Shared} {Z : Obj → Prop} {B : Heap} {env : Env} {outer : List Env} {L a : Addr}
/-- noted by a frame that is another than the one that the trace names -/
theorem look_else {fl : Value} {Q : Unit → Shared → Prop} (hZ : HandSPX.Steady Z) (h1 : A.frames = some (env :: outer)) (h2 : env.frame = some L) (kb : B.StaysIn s.heap) (hn : B.get? a = none) (hl : s.heap.FunFrames B (env :: outer)) (ht : HandSPX.TracedZ s.heap B a Z fl) (hfl : (fl == rawInt L) = false)
    (hQ : ∀ g, HandSPX.HeldZ B (env :: outer) a Z L g → s.heap.UpToSlots g → Q () { s with heap := g }) : wpAny M A (noteFrame (.ref a) env) Q E s := by
  obtain ⟨oe, vs, T, oT, ts, he, hz, hd, hv, hnT, hTe, hT, hdT, h3⟩ := ht
  unfold noteFrame
  simp only [h2]
  refine wpAny_bind (wpAny_field he hd hv ?_)
  rw [if_pos (show (Value.ref T != Value.none) = true from by simp)]
  refine wpAny_bind (wpAny_field hT hdT h3 ?_)
  rw [if_neg (by rw [hfl]; decide)]
  refine wpAny_bind (wpAny_setField hT hdT (Array.getElem?_eq_some_iff.mp h3).1 ?_)
  have other : ∀ b, b ≠ T → (s.heap.update T (Obj.mapFields (·.setIfInBounds 3 Value.none))).get? b = s.heap.get? b := fun b z => Heap.get?_update_other _ _ (Ne.symm z)
  have nrec : ∀ b o, s.heap.get? b = some o → (∀ vs, o.data ≠ .fields vs) → b ≠ T := fun b o hb hnf q => by
    rw [q, hT] at hb
    injection hb with hb
    subst hb
    exact hnf ts hdT
  refine HandSPX.wpAny_entryZ hZ h1 (hl.of_keeps fun b o hb hnf => ⟨o, (other b (nrec b o hb hnf)).trans hb, rfl⟩) h2 ((other a (Ne.symm hTe)).trans he) (fun b o z => (other b fun q => by rw [q, hnT] at z; cases z).trans (kb b o z)) hn hd (Array.getElem?_eq_some_iff.mp hv).1 hz fun g hN => ?_
  obtain ⟨x1, x2, x3, x4⟩ := hN
  exact hQ g ⟨x1, hn, x2, x3⟩ fun b o hb hnf => x4 b o ((other b (nrec b o hb hnf)).trans hb) hnf
theorem raw_ne {m n : Nat} (h : m ≠ n) : (rawInt (m : Int) == rawInt (n : Int)) = false := by
  rw [beq_eq_false_iff_ne]
  intro z
  unfold rawInt at z
  injection z with z1
  exact h (by exact_mod_cast z1)
theorem Sky.noted {C : Addr} {Q : Unit → Shared → Prop} (hZ : HandSPX.Steady Z) (h1 : A.frames = some (env :: outer)) (h2 : env.frame = some L) (hC : C ≠ L) (x : Sky B (env :: outer) a Z C s.heap)
    (hQ : ∀ g, HandSPX.HeldZ B (env :: outer) a Z L g → s.heap.UpToSlots g → Q () { s with heap := g }) : wpAny M A (noteFrame (.ref a) env) Q E s := by
  rcases x with ⟨hB, hn, hl, oe, vs, he, hz, hd, hv⟩ | fl | ⟨q1, q2, q3, q4⟩
  · exact HandSPX.look_newZ hZ h1 hl h2 he hB hn hd hv hz hQ
  · exact HandSPX.looks_onZ hZ h1 h2 fl hQ
  · exact look_else hZ h1 h2 q1 q2 q3 q4 (raw_ne hC) hQ
theorem look_elseN {fl : Value} {Q : Unit → Shared → Prop} (hZ : PXN.Steady1 Z) (h1 : A.frames = some (env :: outer)) (h2 : env.frame = some L) (kb : B.StaysIn s.heap) (hn : B.get? a = none) (hl : s.heap.FunFrames B (env :: outer)) (ht : HandSPX.TracedZ s.heap B a Z fl) (hfl : (fl == rawInt L) = false)
    (hQ : ∀ g, HandSPX.HeldZ B (env :: outer) a Z L g → s.heap.UpToSlots g → Q () { s with heap := g }) : wpAny M A (noteFrame (.ref a) env) Q E s := by
  obtain ⟨oe, vs, T, oT, ts, he, hz, hd, hv, hnT, hTe, hT, hdT, h3⟩ := ht
  unfold noteFrame
  simp only [h2]
  refine wpAny_bind (wpAny_field he hd hv ?_)
  rw [if_pos (show (Value.ref T != Value.none) = true from by simp)]
  refine wpAny_bind (wpAny_field hT hdT h3 ?_)
  rw [if_neg (by rw [hfl]; decide)]
  refine wpAny_bind (wpAny_setField hT hdT (Array.getElem?_eq_some_iff.mp h3).1 ?_)
  have other : ∀ b, b ≠ T → (s.heap.update T (Obj.mapFields (·.setIfInBounds 3 Value.none))).get? b = s.heap.get? b := fun b z => Heap.get?_update_other _ _ (Ne.symm z)
  have nrec : ∀ b o, s.heap.get? b = some o → (∀ vs, o.data ≠ .fields vs) → b ≠ T := fun b o hb hnf q => by
    rw [q, hT] at hb
    injection hb with hb
    subst hb
    exact hnf ts hdT
  refine PXN.wpAny_entryZ hZ h1 (hl.of_keeps fun b o hb hnf => ⟨o, (other b (nrec b o hb hnf)).trans hb, rfl⟩) h2 ((other a (Ne.symm hTe)).trans he) (fun b o z => (other b fun q => by rw [q, hnT] at z; cases z).trans (kb b o z)) hn hd (Array.getElem?_eq_some_iff.mp hv).1 hz fun g hN => ?_
  obtain ⟨x1, x2, x3, x4⟩ := hN
  exact hQ g ⟨x1, hn, x2, x3⟩ fun b o hb hnf => x4 b o ((other b (nrec b o hb hnf)).trans hb) hnf
theorem Sky.notedN {C : Addr} {Q : Unit → Shared → Prop} (hZ : PXN.Steady1 Z) (h1 : A.frames = some (env :: outer)) (h2 : env.frame = some L) (hC : C ≠ L) (x : Sky B (env :: outer) a Z C s.heap)
    (hQ : ∀ g, HandSPX.HeldZ B (env :: outer) a Z L g → s.heap.UpToSlots g → Q () { s with heap := g }) : wpAny M A (noteFrame (.ref a) env) Q E s := by
  rcases x with ⟨hB, hn, hl, oe, vs, he, hz, hd, hv⟩ | fl | ⟨q1, q2, q3, q4⟩
  · exact PXN.look_newZ hZ h1 hl h2 he hB hn hd hv hz hQ
  · exact PXN.looks_onZ hZ h1 h2 fl hQ
  · exact look_elseN hZ h1 h2 q1 q2 q3 q4 (raw_ne hC) hQ
theorem funs_but {B' h h' : Heap} {C : Addr} : ∀ {l : List Env}, h.FunFrames B l → (∀ b, B.get? b = none → B'.get? b = none) → (∀ b o, b ≠ C → h.get? b = some o → h'.get? b = some o) → C ∉ frs l → h'.FunFrames B' l
  | [], _, _, _, _ => trivial
  | e :: l, x, hb, hk, hC => by
    obtain ⟨k, ⟨L, o, hf, hn, ho, hd⟩, r⟩ := x
    refine ⟨k, ⟨L, o, hf, hb L hn, hk L o (fun z => hC ?_) ho, hd⟩, funs_but r hb hk fun z => hC ?_⟩
    · rw [← z]
      exact List.mem_filterMap.mpr ⟨e, List.mem_cons_self, hf⟩
    · obtain ⟨e', he, q⟩ := List.mem_filterMap.mp z
      exact List.mem_filterMap.mpr ⟨e', List.mem_cons_of_mem _ he, q⟩
end
abbrev _root_.L2.Cx.blkX (X : Cx) (s : Shared) (H : Hp) (scope : Scope) (ce : Env) (fp : List Addr) (xe : Value → Shared → Prop) : Cx := (X.blk s H scope ce fp).tr [] xe
/-- what leaves the block's element, in the air of the def -/
theorem air_comp {X : Cx} {W : WX} {pins : List (Addr × Obj)} {σ : L2.St} {H3 : Hp} {s3 : Shared} {scope : Scope} {ce : Env} {fp : List Addr} {Qf : Value → Shared → Prop} {acc : Value} (tk : Takes X W) (hs : X.stack = X.env :: X.outer) (hf : X.env.frame = some X.env.locals) (I3 : Inv X pins σ H3 s3)
    (hce : ce.frame = X.env.frame) (hcL : ce.locals = s3.heap.objs.size) (f3 : ∀ b ∈ fp, FpOk X pins H3 b) :
    Takes (X.blkX s3 H3 scope ce fp (fun u s' => notedBy (model X.prog X.w) X.A ce (fun e t => cpost (model X.prog X.w) X.A X.xe Qf acc s3.heap.objs.size ce.frame (.error e) t) u s')) (fun cls d _ H' => W cls d σ H') := by
  intro u s' x
  obtain ⟨a, B, sI, pins', σ', H', cls, d, rfl, J, nb, up, sky, na, os, ag, w⟩ := x
  have hfr : X.A.frames = some (X.env :: X.outer) := by rw [← hs]; exact I3.ok.frames
  have I7 : Inv X pins σ H' sI := I3.call' (ch := fp) J.os J.base J.hok J.bare fun b hb => ⟨(f3 b hb).2.2.2.1, (f3 b hb).2.1, (f3 b hb).2.2.2.2.1, (f3 b hb).2.2.2.2.2⟩
  have nC : H' s3.heap.objs.size = none := by
    have z : H' ce.locals = none := J.free
    rw [hcL] at z
    exact z
  obtain ⟨f0, f1, f2, f3', f4, f5⟩ := I3.fpOk (Nat.le_refl _) nC
  obtain ⟨m, hn, _⟩ := J.loc
  have hn : sI.heap.Ns s3.heap.objs.size m := by
    have z : sI.heap.Ns ce.locals m := hn
    rw [hcL] at z
    exact z
  generalize hC : s3.heap.objs.size = C at hn f0 f1 f2 f3' f4 f5 nC ⊢
  have sky : Sky B (X.env :: X.outer) a (Zc cls d) C s'.heap := by
    have z : Sky B X.stack a (Zc cls d) ce.locals s'.heap := sky
    rw [hs, hcL, hC] at z
    exact z
  have nb : ∀ b o, sI.heap.get? b = some o → b ∉ frs X.stack → B.get? b = some o := nb
  have hCf : C ∉ frs X.stack := fun z => by
    rcases List.mem_cons.mp (I7.stkSub C z) with z | z
    · exact f1 z
    · exact f2 z
  show wpAny _ _ (noteFrame (.ref a) ce) _ _ _
  rw [note_same hce]
  refine Sky.noted Zc.steady hfr hf f1 sky fun h1 hh up1 => ?_
  have hn1 : h1.Ns C m := (up.trans up1).ns hn
  refine ⟨m, hn1, fun g sb c' e1 e2 => ?_⟩
  obtain ⟨oC, es, ep, hoC, hdC, _⟩ := hn1
  obtain ⟨x1, x2, x3, oe, vs, T, oT, ts, he, hz, hd, hv, hnT, hTe, hT, hdT, h3⟩ := hh
  have aC : a ≠ C := fun z => by
    rw [z, hoC] at he
    cases he
    rw [hdC] at hd
    cases hd
  have TC : T ≠ C := fun z => by
    rw [z, hoC] at hT
    cases hT
    rw [hdC] at hdT
    cases hdT
  have kg : ∀ b o, b ≠ C → h1.get? b = some o → g.get? b = some o := fun b o hb e => (sb.2 b hb).trans e
  obtain ⟨B', b1, b2⟩ := restrict B fun b => decide (b ≠ C)
  obtain ⟨G, g1, g2⟩ := restrict sI.heap fun b => decide (b ≠ C)
  have bB : ∀ b o, B'.get? b = some o → B.get? b = some o ∧ b ≠ C := fun b o e => by
    by_cases hb : b = C
    · rw [b2 b (by simp [hb])] at e
      cases e
    · rw [b1 b (decide_eq_true hb)] at e
      exact ⟨e, hb⟩
  have nB : ∀ b, B.get? b = none → B'.get? b = none := fun b e => by
    cases q : B'.get? b with
    | none => rfl
    | some o =>
      rw [(bB b o q).1] at e
      cases e
  have gG : ∀ b o, G.get? b = some o → sI.heap.get? b = some o ∧ b ≠ C := fun b o e => by
    by_cases hb : b = C
    · rw [g2 b (by simp [hb])] at e
      cases e
    · rw [g1 b (decide_eq_true hb)] at e
      exact ⟨e, hb⟩
  have hh2 : HandSPX.HeldZ B' (X.env :: X.outer) a (Zc cls d) X.env.locals g := by
    refine ⟨fun b o e => kg b o (bB b o e).2 (x1 b o (bB b o e).1), nB a x2, funs_but x3 nB kg (by rw [← hs]; exact hCf), oe, vs, T, oT, ts, kg _ _ aC he, hz, hd, hv, nB T hnT, hTe, kg _ _ TC hT, hdT, h3⟩
  have I8 : Inv X pins σ H' { sI with heap := G } := I7.turned (t' := sI.toks) (fun b o hb e => (g1 b (decide_eq_true hb)).trans e) f0 f1 f3' f4 f5
  unfold PySem.passOn
  refine wpAny_bind (wpAny_field (kg _ _ aC he) hd hv ?_)
  rw [if_neg (show ¬ ((Value.ref T == Value.none) = true) from by simp)]
  have fin : wpAny (model X.prog X.w) X.A (setFlight (.ref a) c'.frame) (fun _ t => wpAny (model X.prog X.w) X.A (throw (.ref a) : Sem Value) (fun _ _ => False) X.xe t) X.xe { s' with heap := g } := by
    rw [e2, hce, hf]
    refine HandSPX.setFlight_onZ hh2 fun h4 hh4 up4 => wpAny_throw (tk _ _ ?_)
    refine ⟨a, B', { sI with heap := G }, pins, σ, H', cls, d, rfl, I8, fun b o e hb => ?_, fun b o e hnf => ?_, .inr (.inr (by rw [hs]; exact hh4)), na, os, ag, w⟩
    · obtain ⟨e', hb'⟩ := gG b o e
      rw [b1 b (decide_eq_true hb')]
      exact nb b o e' hb
    · obtain ⟨e', hb'⟩ := gG b o e
      obtain ⟨sl, q⟩ := (up.trans up1) b o e' hnf
      exact up4 b _ (kg b _ hb' q) hnf |>.imp fun sl2 z => z
  first
    | exact wpAny_bind (wpAny_pure (wpAny_bind fin))
    | exact wpAny_bind fin
theorem air_compN {X : Cx} {W : WX} {pins : List (Addr × Obj)} {σ : L2.St} {H3 : Hp} {s3 : Shared} {scope : Scope} {ce : Env} {fp : List Addr} {Qf : Value → Shared → Prop} {acc : Value} (tk : L2N.Takes X W) (hs : X.stack = X.env :: X.outer) (hf : X.env.frame = some X.env.locals) (I3 : Inv X pins σ H3 s3)
    (hce : ce.frame = X.env.frame) (hcL : ce.locals = s3.heap.objs.size) (f3 : ∀ b ∈ fp, FpOk X pins H3 b) :
    L2N.Takes (X.blkX s3 H3 scope ce fp (fun u s' => notedBy (model X.prog X.w) X.A ce (fun e t => cpost (model X.prog X.w) X.A X.xe Qf acc s3.heap.objs.size ce.frame (.error e) t) u s')) (fun cls d _ H' => W cls d σ H') := by
  intro u s' x
  obtain ⟨a, B, sI, pins', σ', H', cls, d, rfl, J, nb, up, sky, na, os, ag, w⟩ := x
  have hfr : X.A.frames = some (X.env :: X.outer) := by rw [← hs]; exact I3.ok.frames
  have I7 : Inv X pins σ H' sI := I3.call' (ch := fp) J.os J.base J.hok J.bare fun b hb => ⟨(f3 b hb).2.2.2.1, (f3 b hb).2.1, (f3 b hb).2.2.2.2.1, (f3 b hb).2.2.2.2.2⟩
  have nC : H' s3.heap.objs.size = none := by
    have z : H' ce.locals = none := J.free
    rw [hcL] at z
    exact z
  obtain ⟨f0, f1, f2, f3', f4, f5⟩ := I3.fpOk (Nat.le_refl _) nC
  obtain ⟨m, hn, _⟩ := J.loc
  have hn : sI.heap.Ns s3.heap.objs.size m := by
    have z : sI.heap.Ns ce.locals m := hn
    rw [hcL] at z
    exact z
  generalize hC : s3.heap.objs.size = C at hn f0 f1 f2 f3' f4 f5 nC ⊢
  have sky : Sky B (X.env :: X.outer) a (L2N.Zn cls d) C s'.heap := by
    have z : Sky B X.stack a (L2N.Zn cls d) ce.locals s'.heap := sky
    rw [hs, hcL, hC] at z
    exact z
  have nb : ∀ b o, sI.heap.get? b = some o → b ∉ frs X.stack → B.get? b = some o := nb
  have hCf : C ∉ frs X.stack := fun z => by
    rcases List.mem_cons.mp (I7.stkSub C z) with z | z
    · exact f1 z
    · exact f2 z
  show wpAny _ _ (noteFrame (.ref a) ce) _ _ _
  rw [note_same hce]
  refine Sky.notedN L2N.Zn.steady hfr hf f1 sky fun h1 hh up1 => ?_
  have hn1 : h1.Ns C m := (up.trans up1).ns hn
  refine ⟨m, hn1, fun g sb c' e1 e2 => ?_⟩
  obtain ⟨oC, es, ep, hoC, hdC, _⟩ := hn1
  obtain ⟨x1, x2, x3, oe, vs, T, oT, ts, he, hz, hd, hv, hnT, hTe, hT, hdT, h3⟩ := hh
  have aC : a ≠ C := fun z => by
    rw [z, hoC] at he
    cases he
    rw [hdC] at hd
    cases hd
  have TC : T ≠ C := fun z => by
    rw [z, hoC] at hT
    cases hT
    rw [hdC] at hdT
    cases hdT
  have kg : ∀ b o, b ≠ C → h1.get? b = some o → g.get? b = some o := fun b o hb e => (sb.2 b hb).trans e
  obtain ⟨B', b1, b2⟩ := restrict B fun b => decide (b ≠ C)
  obtain ⟨G, g1, g2⟩ := restrict sI.heap fun b => decide (b ≠ C)
  have bB : ∀ b o, B'.get? b = some o → B.get? b = some o ∧ b ≠ C := fun b o e => by
    by_cases hb : b = C
    · rw [b2 b (by simp [hb])] at e
      cases e
    · rw [b1 b (decide_eq_true hb)] at e
      exact ⟨e, hb⟩
  have nB : ∀ b, B.get? b = none → B'.get? b = none := fun b e => by
    cases q : B'.get? b with
    | none => rfl
    | some o =>
      rw [(bB b o q).1] at e
      cases e
  have gG : ∀ b o, G.get? b = some o → sI.heap.get? b = some o ∧ b ≠ C := fun b o e => by
    by_cases hb : b = C
    · rw [g2 b (by simp [hb])] at e
      cases e
    · rw [g1 b (decide_eq_true hb)] at e
      exact ⟨e, hb⟩
  have hh2 : HandSPX.HeldZ B' (X.env :: X.outer) a (L2N.Zn cls d) X.env.locals g := by
    refine ⟨fun b o e => kg b o (bB b o e).2 (x1 b o (bB b o e).1), nB a x2, funs_but x3 nB kg (by rw [← hs]; exact hCf), oe, vs, T, oT, ts, kg _ _ aC he, hz, hd, hv, nB T hnT, hTe, kg _ _ TC hT, hdT, h3⟩
  have I8 : Inv X pins σ H' { sI with heap := G } := I7.turned (t' := sI.toks) (fun b o hb e => (g1 b (decide_eq_true hb)).trans e) f0 f1 f3' f4 f5
  unfold PySem.passOn
  refine wpAny_bind (wpAny_field (kg _ _ aC he) hd hv ?_)
  rw [if_neg (show ¬ ((Value.ref T == Value.none) = true) from by simp)]
  have fin : wpAny (model X.prog X.w) X.A (setFlight (.ref a) c'.frame) (fun _ t => wpAny (model X.prog X.w) X.A (throw (.ref a) : Sem Value) (fun _ _ => False) X.xe t) X.xe { s' with heap := g } := by
    rw [e2, hce, hf]
    refine HandSPX.setFlight_onZ hh2 fun h4 hh4 up4 => wpAny_throw (tk _ _ ?_)
    refine ⟨a, B', { sI with heap := G }, pins, σ, H', cls, d, rfl, I8, fun b o e hb => ?_, fun b o e hnf => ?_, .inr (.inr (by rw [hs]; exact hh4)), na, os, ag, w⟩
    · obtain ⟨e', hb'⟩ := gG b o e
      rw [b1 b (decide_eq_true hb')]
      exact nb b o e' hb
    · obtain ⟨e', hb'⟩ := gG b o e
      obtain ⟨sl, q⟩ := (up.trans up1) b o e' hnf
      exact up4 b _ (kg b _ hb' q) hnf |>.imp fun sl2 z => z
  first
    | exact wpAny_bind (wpAny_pure (wpAny_bind fin))
    | exact wpAny_bind fin
open PySem PySem.Spec PyProof.Rows L2
section
variable {X : Cx}
theorem lc_coreX {Tk : Cx → WX → Prop} {W : WX} {pins : List (Addr × Obj)} {s : Shared} {σ : L2.St} {H : Hp} {Q : VK} {elt tg iter : Expr} {ifs : List Expr} {scope : Scope} {own : List (Str × Nat)} {pos pos2 : Pos} {wi : TI} {g : TG} {tt : TT} {te : WX → TE} {Qf : Value → Shared → Prop}
    (hc : X.calm = true) (air : ∀ {H3 : Hp} {s3 : Shared} {scope : Scope} {ce : Env} {fp : List Addr} {acc : Value}, Inv X pins σ H3 s3 → ce.frame = X.env.frame → ce.locals = s3.heap.objs.size → (∀ b ∈ fp, FpOk X pins H3 b) →
      Tk (X.blkX s3 H3 scope ce fp (fun u s' => notedBy (model X.prog X.w) X.A ce (fun e t => cpost (model X.prog X.w) X.A X.xe Qf acc s3.heap.objs.size ce.frame (.error e) t) u s')) (fun cls d _ H' => W cls d σ H'))
    (hN : X.N.Nodup) (I : Inv X pins σ H s) (hi : PI X tg iter wi) (ok : BlkOk X.N X.env.scope scope own)
    (hg : ∀ (s : Shared) (H : Hp) (C : Addr) (cl : List (Str × Addr)) (fp : List Addr) (xe : Value → Shared → Prop), PG (X.blkX s H scope (compEnvC scope cl C X.env) fp xe) tg g)
    (ht : ∀ (s : Shared) (H : Hp) (C : Addr) (cl : List (Str × Addr)) (fp : List Addr) (xe : Value → Shared → Prop), PTs (X.blkX s H scope (compEnvC scope cl C X.env) fp xe) ifs tt)
    (he : ∀ (s : Shared) (H : Hp) (C : Addr) (cl : List (Str × Addr)) (fp : List Addr) (xe : Value → Shared → Prop) (W' : WX), Tk (X.blkX s H scope (compEnvC scope cl C X.env) fp xe) W' → PE (X.blkX s H scope (compEnvC scope cl C X.env) fp xe) elt (te W'))
    (hs : ∀ x, foldedSetIterable iter X.env x = pure x) (h : tLc wi g tt (te fun cls d _ H' => W cls d σ H') (own.map (·.2)) σ H Q)
    (hR : ∀ D C s' m H', Inv X pins σ H' s' → Q (.ref D) H' → s'.heap.Ns C m → FpOk X pins H' C → ∀ h2, Heap.SameBut C s'.heap h2 → Qf (.ref D) { s' with heap := h2 }) :
    wpAny (model X.prog X.w) X.A (comprehension (.ListComp elt [⟨tg, iter, ifs, 0⟩] scope pos) scope X.env pos2 (newList []) false (eval iter X.env) none) Qf X.xe s := by
  have hfree : ∀ y ∈ scope.names, y.2 = .free → ∃ c, X.env.cells.lookup y.1 = some c := fun y hy e => (ok.free y hy e).elim (fun k => I.ok.has _ (.inl k)) (fun k => I.ok.has _ (.inr k))
  refine comp_free rfl hs (closure_ok hfree) ok.kind (fun y hy e => by rw [ok.uniq y hy, e]) (thn (hi.run pins s σ H _ I h) fun xv s1 hx => thn hx fun itv s2 h2 => ?_)
  obtain ⟨it, fp, tn, J, H2, e, I2, U, st2, f2, q⟩ := h2
  subst e
  refine wpAny_newObj_type (newEnv_comp ?_) (by show 0 ≤ sizeLine; decide)
  generalize hD : s2.heap.objs.size = D
  have hDn : H2 D = none := I2.hok.fresh (Nat.le_of_eq hD)
  obtain ⟨Wm, ⟨m0, w0⟩, turn⟩ := q D hDn
  generalize hs3 : ({ s2 with heap := s2.heap.push { cls := .type "list", data := .seq ([] : List Value).toArray } } : Shared) = s3
  have I3 : Inv X pins σ (upd H2 D (.lst [])) s3 := by
    rw [← hs3]
    refine I2.laid (t' := s2.toks) (fun b o z => Heap.get?_push_of_some _ z) (Nat.le_of_eq hD) ⟨Nat.zero_le _, [], 0, .nil, ?_⟩
    rw [← hD]
    exact Heap.get?_push_size _ rfl
  have hh3 : s3.heap = s2.heap.push { cls := .type "list", data := .seq ([] : List Value).toArray } := by rw [← hs3]
  have sz : ∀ b ∈ fp, b < s2.heap.objs.size := fun b hb => by
    obtain ⟨o, z, _⟩ := U.obj _ _ st2 b hb
    exact Heap.lt_size z
  have f3 : ∀ b ∈ fp, FpOk X pins (upd H2 D (.lst [])) b ∧ b < s3.heap.objs.size := fun b hb => by
    have lt := sz b hb
    refine ⟨⟨?_, (f2 b hb).2⟩, by rw [hh3, Heap.size_push]; exact Nat.lt_succ_of_lt lt⟩
    rw [upd_ne (by rw [← hD]; exact Nat.ne_of_lt lt)]
    exact (f2 b hb).1
  have st3 : tn 0 s3.heap := U.keep _ _ _ st2 fun b _ o z => by rw [hh3]; exact Heap.get?_push_of_some _ z
  have I4 := block_start I3 ok hN f3
  have pg := hg s3 (upd H2 D (.lst [])) s3.heap.objs.size (cellsFrom (s3.heap.objs.size + 1) scope.names (cloFrom X.env.cells scope.names [])) fp
  have pt := ht s3 (upd H2 D (.lst [])) s3.heap.objs.size (cellsFrom (s3.heap.objs.size + 1) scope.names (cloFrom X.env.cells scope.names [])) fp
  have pe := he s3 (upd H2 D (.lst [])) s3.heap.objs.size (cellsFrom (s3.heap.objs.size + 1) scope.names (cloFrom X.env.cells scope.names [])) fp
  show codeAny _ _ (.compStart (.ListComp elt [⟨tg, iter, ifs, 0⟩] scope pos) 0 (.ref it) (.ref D) (compEnvC scope (cellsFrom (s3.heap.objs.size + 1) scope.names (cloFrom X.env.cells scope.names [])) s3.heap.objs.size X.env)) (cpost (model X.prog X.w) X.A X.xe Qf (.ref D) s3.heap.objs.size X.env.frame) { s3 with heap := pushCells (s3.heap.push { cls := .type "dict", data := .dict #[] }) scope.names }
  have nfp : ∀ b ∈ fp, (upd H2 D (.lst [])) b = none := fun b hb => (f3 b hb).1.1
  have cF0 : (compEnvC scope (cellsFrom (s3.heap.objs.size + 1) scope.names (cloFrom X.env.cells scope.names [])) s3.heap.objs.size X.env).frame = X.env.frame := rfl
  have cL0 : (compEnvC scope (cellsFrom (s3.heap.objs.size + 1) scope.names (cloFrom X.env.cells scope.names [])) s3.heap.objs.size X.env).locals = s3.heap.objs.size := rfl
  generalize compEnvC scope (cellsFrom (s3.heap.objs.size + 1) scope.names (cloFrom X.env.cells scope.names [])) s3.heap.objs.size X.env = ce at I4 pg pt pe cF0 cL0 ⊢
  generalize hH3 : upd H2 D (.lst []) = H3 at I3 I4 pg pt pe w0 nfp f3
  generalize hs4 : ({ s3 with heap := pushCells (s3.heap.push { cls := .type "dict", data := .dict #[] }) scope.names } : Shared) = s4 at I4 ⊢
  have st4 : tn 0 s4.heap := U.keep _ _ _ st3 fun b _ o z => by rw [← hs4]; exact pushCells_keeps _ _ _ _ (Heap.get?_push_of_some _ z)
  rw [← cF0]
  have TK := air (acc := .ref D) (scope := scope) I3 cF0 cL0 fun b hb => (f3 b hb).1
  generalize hxe : (fun (u : Value) (s' : Shared) => notedBy (model X.prog X.w) X.A ce (fun e t => cpost (model X.prog X.w) X.A X.xe Qf (.ref D) s3.heap.objs.size ce.frame (.error e) t) u s') = xe at TK
  have hE : ∀ (e : Value) (t : Shared), xe e t → notedBy (model X.prog X.w) X.A ce (fun e t => cpost (model X.prog X.w) X.A X.xe Qf (.ref D) s3.heap.objs.size ce.frame (.error e) t) e t := fun e t z => by
    rw [← hxe] at z
    exact z
  have I4 : Inv (X.blkX s3 H3 scope ce fp xe) [] (wipe σ (own.map (·.2))) H3 s4 := I4.toTry xe
  have pg := pg xe
  have pt := pt xe
  have pe := pe xe _ TK
  have stat : ∀ {σ1 : L2.St} {H1 : Hp} {t : Shared}, Inv (X.blkX s3 H3 scope ce fp xe) [] σ1 H1 t → (∀ b ∈ fp, H1 b = none) → ∀ b ∈ fp, FpOk (X.blkX s3 H3 scope ce fp xe) [] H1 b := fun {σ1 H1 t} I' hn b hb =>
    ⟨hn b hb, (I'.ok.exf b hb).1, I'.ok.exfs b hb, .inl hb, fun x c z => (I'.ok.exf b hb).2 x c z, fun p hp => absurd (show p ∈ ([] : List (Addr × Obj)) ++ [] from hp) (by simp)⟩
  have loop : codeAny (model X.prog X.w) X.A (.compLoop (.ListComp elt [⟨tg, iter, ifs, 0⟩] scope pos) 0 (.ref it) (.ref D) ce) (cpost (model X.prog X.w) X.A X.xe Qf (.ref D) s3.heap.objs.size ce.frame) s4 := by
    refine compLoop_any (fun n t => ∃ i H1, Inv (X.blkX s3 H3 scope ce fp xe) [] (wipe σ (own.map (·.2))) H1 t ∧ tn i t.heap ∧ (∀ b ∈ fp, H1 b = none) ∧ Wm i n H1) ?_ m0 ⟨0, H3, I4, st4, nfp, w0⟩
    rintro n s5 ⟨i, H5, I5, st5, n5, w5⟩
    rcases turn i n H5 w5 with ⟨stop, qq⟩ | ⟨go, Nx, hNx, step⟩
    · have td := U.done (X.blkX s3 H3 scope ce fp xe) rfl rfl rfl hc i [] s5 _ H5 (fun _ _ => False) I5 (stat I5 n5) st5 stop
      refine thnF td fun r s6 ⟨hr, I6⟩ => ?_
      subst hr
      have I7 : Inv X pins σ H5 s6 := I3.call' (ch := fp) I6.os I6.base I6.hok I6.bare fun b hb => ⟨(f3 b hb).1.2.2.2.1, (f3 b hb).1.2.1, (f3 b hb).1.2.2.2.2.1, (f3 b hb).1.2.2.2.2.2⟩
      have nC : H5 s3.heap.objs.size = none := by
        have z : H5 ce.locals = none := I6.free
        rw [cL0] at z
        exact z
      obtain ⟨m, hn, _⟩ := I6.loc
      have hn : s6.heap.Ns ce.locals m := hn
      rw [cL0] at hn
      exact ⟨m, hn, fun h2 sb => hR D s3.heap.objs.size s6 m H5 I7 qq hn (I3.fpOk (Nat.le_refl _) nC) h2 sb⟩
    · have ti := U.item (X.blkX s3 H3 scope ce fp xe) rfl rfl rfl hc i [] s5 _ H5 (fun _ _ => False) I5 (stat I5 n5) st5 go
      refine thnF ti fun r s6 ⟨u, hr, h6⟩ => ?_
      subst hr
      refine thnF h6 fun _ s7 ⟨x, H7, I7, r7, y7, st7, n7⟩ => ?_
      have I7p := I7.pinned (stat I7 n7) (U.obj _ _ st7)
      refine wpAny_mono (pg.run _ s7 _ H7 x u _ I7p r7 (step x H7 y7)) (fun _ s8 ⟨σ8, H8, I8, hw8, q8⟩ => ?_) hE
      refine wpAny_mono (pt.run _ s8 σ8 H8 _ I8 q8) (fun b s9 ⟨H9, I9, q9⟩ => ?_) hE
      have fin : ∀ {t : Shared} {H1 : Hp}, Inv (X.blkX s3 H3 scope ce fp xe) ([] ++ pinsAt fp s7.heap) σ8 H1 t → Nx H1 → ∃ m, m < n ∧ ∃ i H1, Inv (X.blkX s3 H3 scope ce fp xe) [] (wipe σ (own.map (·.2))) H1 t ∧ tn i t.heap ∧ (∀ b ∈ fp, H1 b = none) ∧ Wm i m H1 := fun {t H1} I' nx => by
        obtain ⟨m1, hm, w1⟩ := hNx H1 nx
        have pin1 : ∀ b ∈ fp, ∀ o, s7.heap.get? b = some o → t.heap.get? b = some o ∧ H1 b = none := fun b hb o z =>
          let y := I'.pin (b, o) (List.mem_append_right _ (List.mem_append_right _ (mem_pinsAt hb z)))
          ⟨y.1, y.2.1⟩
        have hl : (wipe σ (own.map (·.2))).length = σ8.length := by rw [← hw8, wipe_length]
        refine ⟨m1, hm, i + 1, H1, (I'.unpinned (pins := [])).weak hl (fun j v z => ?_), U.keep _ _ _ st7 fun b hb o z => (pin1 b hb o z).1, fun b hb => ?_, w1⟩
        · rw [← hw8] at z
          exact (wipe_some z).1
        · obtain ⟨o, z, _⟩ := U.obj _ _ st7 b hb
          exact (pin1 b hb o z).2
      cases b with
      | false =>
        simp only [Bool.false_eq_true, if_false] at q9 ⊢
        exact fin I9 q9
      | true =>
        simp only [if_true] at q9 ⊢
        refine wpAny_mono (pe.run _ s9 σ8 H9 _ I9 q9) (fun z s10 ⟨yv, H10, I10, r10, acc, hD10, hz10, nx⟩ => ?_) hE
        exact app_ok (X := X.blkX s3 H3 scope ce fp xe) I10 hD10 hz10 r10 fun s11 I11 => fin I11 nx
  exact codeAny_compStart_list loop (U.self X.A 0 _ _ _ st4 loop)
def tLcX (W : WX) (wi : TI) (g : TG) (tt : TT) (te : WX → TE) (vs : List Nat) : TE := fun σ H Q => tLc wi g tt (te fun cls d _ H' => W cls d σ H') vs σ H Q
/-- as a value -/
theorem pe_lcX {W : WX} {elt tg iter : Expr} {ifs : List Expr} {scope : Scope} {own : List (Str × Nat)} {pos : Pos} {wi : TI} {g : TG} {tt : TT} {te : WX → TE} (hc : X.calm = true) (hs0 : X.stack = X.env :: X.outer) (hf0 : X.env.frame = some X.env.locals) (tk : Takes X W) (hN : X.N.Nodup) (hi : PI X tg iter wi) (ok : BlkOk X.N X.env.scope scope own)
    (hg : ∀ (s : Shared) (H : Hp) (C : Addr) (cl : List (Str × Addr)) (fp : List Addr) (xe : Value → Shared → Prop), PG (X.blkX s H scope (compEnvC scope cl C X.env) fp xe) tg g)
    (ht : ∀ (s : Shared) (H : Hp) (C : Addr) (cl : List (Str × Addr)) (fp : List Addr) (xe : Value → Shared → Prop), PTs (X.blkX s H scope (compEnvC scope cl C X.env) fp xe) ifs tt)
    (he : ∀ (s : Shared) (H : Hp) (C : Addr) (cl : List (Str × Addr)) (fp : List Addr) (xe : Value → Shared → Prop) (W' : WX), Takes (X.blkX s H scope (compEnvC scope cl C X.env) fp xe) W' → PE (X.blkX s H scope (compEnvC scope cl C X.env) fp xe) elt (te W'))
    (hs : ∀ x, foldedSetIterable iter X.env x = pure x := by intro _; rfl) : PE X (.ListComp elt [⟨tg, iter, ifs, 0⟩] scope pos) (tLcX W wi g tt te (own.map (·.2))) := by
  refine ⟨fun pins s σ H Q I h => ?_⟩
  rw [eval_ListComp]
  refine lc_coreX (Tk := Takes) (W := W) hc (fun I3 e1 e2 f3 => air_comp tk hs0 hf0 I3 e1 e2 f3) hN I hi ok hg ht he hs h fun D C s' m H' I' q hn f h2 sb => ?_
  obtain ⟨f0, f1, f2, f3, f4, f5⟩ := f
  exact ⟨.ref D, H', I'.turned (t' := s'.toks) (fun b o hb e => (sb.2 b hb).trans e) f0 f1 f3 f4 f5, rfl, q⟩
theorem pe_lcN {W : WX} {elt tg iter : Expr} {ifs : List Expr} {scope : Scope} {own : List (Str × Nat)} {pos : Pos} {wi : TI} {g : TG} {tt : TT} {te : WX → TE} (hc : X.calm = true) (hs0 : X.stack = X.env :: X.outer) (hf0 : X.env.frame = some X.env.locals) (tk : L2N.Takes X W) (hN : X.N.Nodup) (hi : PI X tg iter wi) (ok : BlkOk X.N X.env.scope scope own)
    (hg : ∀ (s : Shared) (H : Hp) (C : Addr) (cl : List (Str × Addr)) (fp : List Addr) (xe : Value → Shared → Prop), PG (X.blkX s H scope (compEnvC scope cl C X.env) fp xe) tg g)
    (ht : ∀ (s : Shared) (H : Hp) (C : Addr) (cl : List (Str × Addr)) (fp : List Addr) (xe : Value → Shared → Prop), PTs (X.blkX s H scope (compEnvC scope cl C X.env) fp xe) ifs tt)
    (he : ∀ (s : Shared) (H : Hp) (C : Addr) (cl : List (Str × Addr)) (fp : List Addr) (xe : Value → Shared → Prop) (W' : WX), L2N.Takes (X.blkX s H scope (compEnvC scope cl C X.env) fp xe) W' → PE (X.blkX s H scope (compEnvC scope cl C X.env) fp xe) elt (te W'))
    (hs : ∀ x, foldedSetIterable iter X.env x = pure x := by intro _; rfl) : PE X (.ListComp elt [⟨tg, iter, ifs, 0⟩] scope pos) (tLcX W wi g tt te (own.map (·.2))) := by
  refine ⟨fun pins s σ H Q I h => ?_⟩
  rw [eval_ListComp]
  refine lc_coreX (Tk := L2N.Takes) (W := W) hc (fun I3 e1 e2 f3 => air_compN tk hs0 hf0 I3 e1 e2 f3) hN I hi ok hg ht he hs h fun D C s' m H' I' q hn f h2 sb => ?_
  obtain ⟨f0, f1, f2, f3, f4, f5⟩ := f
  exact ⟨.ref D, H', I'.turned (t' := s'.toks) (fun b o hb e => (sb.2 b hb).trans e) f0 f1 f3 f4 f5, rfl, q⟩
end

/-! defs that raise an exception of a class without own __init__; a suite that raises another from None -/
section
open PySem PySem.W PySem.Calls PyProof.Rows PySem.HandSPX
/-- as OwnMade, with the record's other fields -/
structure OwnMade6 (h h' : Heap) (e C d : Addr) (fld : Str) (v : Value) : Prop where
  keep : ∀ b o, h.get? b = some o → h'.get? b = some o
  new : h.objs.size ≤ e
  obj : ∃ oe t1, h'.get? e = some oe ∧ oe.cls = .ref C ∧ oe.dict = some d ∧ oe.data = .fields #[.ref t1, .none, .none, .none, .bool false, .none]
  dbig : h.objs.size ≤ d
  dne : d ≠ e
  ns : h'.Ns1 d (fun y => if y = fld then some v else none)
section
variable {prog : Program} {w : World} {A : Around} {E : Value → Shared → Prop} {R : Result → Shared → Prop} {s : Shared} {K : Frag} {mg : Str → Option Value} {nm fld : Str} {C fI : Addr}
theorem sup_made6 (T : SupTxt prog K mg nm fld C fI) {v : Value} (X : K.In s.heap) (hlim : s.heap.NoLimit) (hG : s.heap.Ns mainGlobals mg) (hB : ∃ mb, s.heap.Ns builtinsNs mb ∧ ∀ x : Str, x ≠ "__name__" → mb x = bootBuiltins x) (hroom : A.depth + 1 < recursionLimit) (hs : Showable v) (FO : FldOk fld)
    (hq : ∀ h' tk e d, OwnMade6 s.heap h' e C d fld v → R (.ok (.ret (.ref e))) { s with heap := h', toks := tk }) : codeAny (model prog w) A (.call (.ref C) ⟨[v], []⟩) R s := by
  obtain ⟨nm, q, N, bs, bm, sn, sub, ab, col, dd, k0, k1, k2, k3, k5, hC, hbm⟩ := T.cls
  obtain ⟨hp, g, dr, tk, os⟩ := s
  have k : ∀ b o, hp.get? b = some o → ((hp.push (kdv_tup [v])).push (excO C hp.objs.size)).get? b = some o := fun b o e => Heap.get?_push_of_some _ (Heap.get?_push_of_some _ e)
  have hget : ((hp.push (kdv_tup [v])).push (excO C hp.objs.size)).get? (hp.objs.size + 1) = some (excO C hp.objs.size) := by heap_get
  have hnx : K.lookup (hp.objs.size + 1) = none := by
    cases e : K.lookup (hp.objs.size + 1) with
    | none => rfl
    | some o =>
      have z : hp.get? (hp.objs.size + 1) = some o := X _ _ e
      exact absurd (Nat.lt_of_succ_lt (Heap.lt_size z)) (Nat.lt_irrefl _)
  refine call_own F.excBase_ValueError (fun X => refsVE_contains X bm hbm) (X _ _ hC) (looks_findIn X T.iC) (fun self => bind_fn X self T.tC) (one_size v) ?_
  refine sup_init (s := ⟨(hp.push (kdv_tup [v])).push (excO C hp.objs.size), g, dr, tk, os⟩) T (X.keeps k) (hlim.keeps k) (hG.keeps k) (hB.imp fun mb h => ⟨h.1.keeps k, h.2⟩) hget hnx ?_ hs FO fun h' tk' dx ⟨k', hx, dn, dne, hns⟩ => ?_
  · show A.depth + 1 < recursionLimit
    exact hroom
  · have old : ∀ b o, hp.get? b = some o → h'.get? b = some o := fun b o e => k' b o (Nat.ne_of_lt (Nat.lt_succ_of_lt (Heap.lt_size e))) (k b o e)
    have z : hp.objs.size + 1 + 1 ≤ dx := by
      first
        | (simpa only [Heap.size_push] using dn)
        | exact dn
        | (have q := dn; rw [Heap.size_push, Heap.size_push] at q; exact q)
    obtain ⟨t1, hx⟩ := hx
    exact ⟨rfl, hq h' tk' (hp.objs.size + 1) dx ⟨old, Nat.le_succ _, ⟨_, t1, hx, rfl, rfl, rfl⟩, Nat.le_trans (Nat.le_trans (Nat.le_succ _) (Nat.le_succ _)) z, dne, hns⟩⟩
end
end
section
open PySem PySem.Spec PyProof.Rows L2
section
variable {X : Cx} {C fI : Addr} {nm fld : Str}
theorem pmk5_sup {a : Expr} {ta : TA} {p pos : Pos} {k : Nat} (FO : FldOk fld) (T : SupTxt X.prog X.K X.mg nm fld C fI) (hr : L2H.RoomH k X.A) (ha : PA X [a] ta) (hg : Gl X nm := by rfl) (hdb : (nm == ("__debug__" : Str)) = false := by decide)
    (he : starEach (a :: []) X.env = (false, eval a X.env) :: starEach [] X.env := by rfl) (hpl : (backTo pos (starEach [] X.env)).any (·.1) = false := by rfl) :
    L2H.PMk5 X (.Call (.Name nm p) [a] [] pos) (tMkSup C fld ta) := by
  intro pins s σ H Q I h
  refine wpAny_Call_Name_kw (ld_glob I hg T.gC ?_ hdb)
  refine PySem.W.callWith_K (h₀ := X.base) I.ok.mod.kin T.kC (thn (ha.run pos pins s σ H _ I h) fun us s1 hh => ?_) he hpl
  obtain ⟨vs, H1, I1, r1, v, ev, hsv, q1⟩ := hh
  subst ev
  refine ⟨I1.kIn, ?_⟩
  cases r1 with
  | cons rv rn =>
    rename_i v' us'
    cases rn
    show wpAny _ _ (call (.ref C) [v']) _ _ _
    have hlim := I1.nolimit
    have hG := I1.mod.glob.keeps I1.bk
    have hB : ∃ mb, s1.heap.Ns builtinsNs mb ∧ ∀ x : Str, x ≠ "__name__" → mb x = bootBuiltins x := I1.mod.blt.imp fun mb h => ⟨h.1.keeps I1.bk, h.2⟩
    obtain ⟨hp, g, dr, tk, os⟩ := s1
    refine wpAny_call (sup_made6 T I1.kIn hlim hG hB (by have := hr.dp; omega) (showV_of hsv rv) FO fun h' tk' e d M => ?_)
    obtain ⟨oe, t1, hoe, hc, hd, hdat⟩ := M.obj
    have hns := M.ns
    obtain ⟨G', g1, g2⟩ := restrict h' fun b => decide (b ≠ e)
    have gk : ∀ b, b ≠ e → G'.get? b = h'.get? b := fun b hb => g1 b (decide_eq_true hb)
    have ge : G'.get? e = none := g2 e (by simp)
    have old : ∀ b o, hp.get? b = some o → G'.get? b = some o := fun b o q => (gk b (Nat.ne_of_lt (Nat.lt_of_lt_of_le (Heap.lt_size q) M.new))).trans (M.keep b o q)
    have ob : ObjOk X.prog X.w (upd H1 d (.xd [(fld, v)])) G' d (.xd [(fld, v)]) :=
      ⟨_, hns.at (fun o q => (gk d M.dne).trans q), fun f => relO_fld rv fld f⟩
    have J : Inv X pins σ (upd H1 d (.xd [(fld, v)])) ⟨G', g, dr, tk', os⟩ := I1.laid (t' := tk') old M.dbig ob
    refine ⟨⟨e, oe, _, ⟨G', g, dr, tk', os⟩, _, .ref C, some d, rfl, J, fun b o q => ?_, ge, hoe, ⟨hc, hd, fun vs z => ?_⟩, hdat, rfl, ?_, rfl, I1.bare, raises_own T.exC T.tyC, q1 d (I1.hok.fresh M.dbig)⟩, fun a oe' vs z1 z2 z3 => ?_⟩
    · by_cases hb : b = e
      · have q' : G'.get? b = some o := q
        rw [hb, ge] at q'; cases q'
      · exact (gk b hb).symm.trans q
    · rw [hdat] at z
      cases z
      rfl
    · rw [upd_ne (Ne.symm M.dne)]
      exact I1.hok.fresh M.new
    · cases z1
      have z2 : h'.get? e = some oe' := z2
      rw [hoe] at z2
      cases z2
      rw [hdat] at z3
      cases z3
      show (4 : Nat) < 6
      decide
end
theorem roomH_mk {k : Nat} {A : Around} (r : Room k A) (h : Option Value) : L2H.RoomH k (A.mark h) := ⟨r.dp, r.un⟩
/-- a class of exceptions without own __init__ -/
structure PlainX (K : PySem.W.Frag) (mg : Str → Option Value) (nm : Str) (C : Addr) : Prop where
  g : mg nm = some (.ref C)
  x : PySem.W.excIn K C [.type "ValueError", .type "Exception", .type "BaseException", .type "object"] "ValueError.__new__" = true
  k : PySem.W.keepIn K (.ref C) = true
  b : PySem.W.subIn K (.ref C) (.type "BaseException") = some true
  t : PySem.W.typeIn K (.ref C) = some (.type "type")
  e : PySem.W.exmOne K (.ref C) (.ref C) = some true
theorem ps_raiseN {X : Cx} {W : WX} {nm m : Str} {C : Addr} {j : Nat} {p p2 pos pos2 : Pos} (hc : X.calm = true) (N : PlainX X.K X.mg nm C) (tk : L2N.Takes X W) (hg : Gl X nm := by rfl) (hdb : (nm == ("__debug__" : Str)) = false := by decide) :
    PS X (.Raise (some (.Call (.Name nm p) [.Constant (.str m) j p2] [] pos)) none pos2) (fun _ σ H => W (.ref C) none σ H) := L2N.ps_raise hc tk (L2N.pmk_own PySem.F.excBase_ValueError N.x N.g N.k (raises_own N.b N.t) hg hdb)
/-! ### defs that raise such -/
def OkN (P : Program) (w : World) (K : PySem.W.Frag) (mg : Str → Option Value) (base : Heap) (k : Nat) (x : Str) (ps : List Str) (sp : Sp) : Prop :=
  ∃ (f : Addr) (fd : FuncData), FnOk P w K mg base (L2N.CX P w) k f fd ps sp ∧ mg x = some (.ref f) ∧ PySem.W.keepIn K (.ref f) = true ∧ Binds K fd ps []
section
variable {P : Program} {w : World} {K : PySem.W.Frag} {mg : Str → Option Value} {base : Heap}
theorem Def.okN {x : Str} {st : Stmt} {N ps : List Str} {k : Nat} {sp : Sp} (D : Def K mg x st ps) (S : FnScope N ps (defScope st)) (len : ∀ vs H Q E, sp vs H Q E → vs.length = ps.length)
    (hbody : ∀ (cdv : Value) (f : Addr) (A : Around) (outer : List Env) (s : Shared) (H : Hp) (vs : List V) (Q : VK) (E : XK), Room k (A.deeper (envOfC x (defScope st) s.heap.objs.size f cdv)) → sp vs H Q E →
      ∃ t, PSs (cxOf (L2N.CX P w) P w K mg base N x (defScope st) f cdv A outer s H E) (defBody st) t ∧ t { nx := fun _ H' => Q .non H', rt := Q } (start N vs) H) : OkN P w K mg base (k + 1) x ps sp := by
  obtain ⟨f, fd, F, hm, hb⟩ := D
  obtain ⟨oc, od, kV, doc, pm, an, cdv, ct, osl, rfl, lk, hcd⟩ := F.ex
  exact ⟨f, _, fn_of lk hcd S len fun A outer s H vs Q E hr hsp => hbody cdv f A outer s H vs Q E hr hsp, hm, F.kp, hb⟩
theorem OkN.mono {j k : Nat} {x : Str} {ps : List Str} {sp : Sp} (h : OkN P w K mg base j x ps sp) (hk : j ≤ k) : OkN P w K mg base k x ps sp := by
  obtain ⟨f, fd, F, r⟩ := h
  exact ⟨f, fd, F.mono hk, r⟩
/-- the promise of a def that is had by its address, errors and all -/
structure HeldE (CX : CXT) (P : Program) (w : World) (K : PySem.W.Frag) (mg : Str → Option Value) (base : Heap) (k : Nat) (f : Addr) (sp : Sp) : Prop where
  ex : ∃ (fd : FuncData) (ps : List Str), FnOk P w K mg base CX k f fd ps sp ∧ PySem.W.keepIn K (.ref f) = true ∧ Binds K fd ps []
theorem held_oneN {k : Nat} {x : Str} {ps : List Str} {sp : Sp} (h : OkN P w K mg base k x ps sp) : ∃ f, mg x = some (.ref f) ∧ HeldE (L2N.CX P w) P w K mg base k f sp := by
  obtain ⟨f, fd, F, hm, hk, hb⟩ := h
  exact ⟨f, hm, fd, ps, F, hk, hb⟩
theorem held_oneX {k : Nat} {x : Str} {ps : List Str} {sp : Sp} (h : OkX P w K mg base k x ps sp) : ∃ f, mg x = some (.ref f) ∧ HeldE (L2.CX P w) P w K mg base k f sp := by
  obtain ⟨f, fd, F, hm, hk, hb⟩ := h
  exact ⟨f, hm, fd, ps, F, hk, hb⟩
end
section
variable {X : Cx} {k i : Nat} {sp : Sp} {x : Str} {p pos : Pos} {e : Expr} {es : List Expr} {t : TA} {W : WX}
theorem pe_callN {ps : List Str} (h : OkN X.prog X.w X.K X.mg X.base k x ps sp) (hr : Room k X.A) (hg : Gl X x) (tk : L2N.Takes X W) (ha : PA X (e :: es) t)
    (hdb : (x == ("__debug__" : Str)) = false := by decide) (he : starEach (e :: es) X.env = (false, eval e X.env) :: starEach es X.env := by rfl) (hpl : (backTo pos (starEach es X.env)).any (·.1) = false := by rfl) :
    PE X (.Call (.Name x p) (e :: es) [] pos) (tCallS sp (WE W) t) := by
  obtain ⟨f, fd, F, hm, hk, hb⟩ := h
  exact pe_callS F hr hg hm hk hb (fun σ => L2N.passAt tk σ) ha hdb he hpl
/-- the i-th slot holds such a def -/
def tCallE (i : Nat) (S : Addr → Option Sp) (W : WX) (t : TA) : TE := fun σ H Q => ∃ f sp, σ[i]? = some (some (.ref f)) ∧ S f = some sp ∧ t σ H fun vs H1 => sp vs H1 Q (WE W σ)
theorem rd_callE {S : Addr → Option Sp} {σ : L2.St} {H : Hp} {Q : VK} {f : Addr} (h1 : σ[i]? = some (some (.ref f))) (h2 : S f = some sp) (q : t σ H fun vs H1 => sp vs H1 Q (WE W σ)) : tCallE i S W t σ H Q := ⟨f, sp, h1, h2, q⟩
theorem pe_callE {CX : CXT} {S : Addr → Option Sp} (A : ∀ f sp, S f = some sp → HeldE CX X.prog X.w X.K X.mg X.base k f sp) (hr : Room k X.A) (hN : X.N[i]? = some x) (hv : Vis X.env.scope x) (hx : ∀ σ, PassesAt CX X σ (WE W σ)) (ha : PA X (e :: es) t)
    (hdb : (x == ("__debug__" : Str)) = false := by decide) (hcd : (x == ("__classdict__" : Str)) = false := by decide)
    (he : starEach (e :: es) X.env = (false, eval e X.env) :: starEach es X.env := by rfl) (hpl : (backTo pos (starEach es X.env)).any (·.1) = false := by rfl) : PE X (.Call (.Name x p) (e :: es) [] pos) (tCallE i S W t) := by
  refine ⟨fun pins s σ H Q I h => ?_⟩
  obtain ⟨f, sp, h1, h2, h3⟩ := h
  obtain ⟨fd, ps, F, hk, hb⟩ := (A f sp h2).ex
  refine wpAny_Call_Name_kw (thn ((pe_var (pos := p) hN hv hdb hcd).run pins s σ H (fun v H1 => v = .ref f ∧ H1 = H) I ⟨.ref f, h1, rfl, rfl⟩) fun u s1 ⟨v, H1, I1, r1, q1⟩ => ?_)
  obtain ⟨rfl, rfl⟩ := q1
  cases r1
  refine PySem.W.callWith_K (h₀ := X.base) I.ok.mod.kin hk (thn (ha.run pos pins s1 σ _ _ I1 h3) fun us s2 ⟨vs, H2, I2, r, q⟩ => ⟨I2.kIn, ?_⟩) he hpl
  exact run_fnS F hr hb (hx σ) I2 r q
end
theorem rd_lcS {W : WX} {wi : TI} {g : TG} {tt : TT} {te : WX → TE} {vs : List Nat} {σ : L2.St} {H : Hp} {Q : VK} (q : tLc wi g tt (te fun cls d _ H' => W cls d σ H') vs σ H Q) : tLcX W wi g tt te vs σ H Q := q
end

open PySem PySem.Spec PyProof.Rows L2
open PySem.W (EachIs)
def topS (i : Nat) : Stmt := PySem.Challenge.pw_neverdark_k03_first_wrong_line.main.body.getD i (.Pass ⟨0, 0, 0, 0⟩)
abbrev s_is_word : Stmt := topS 11
abbrev N_is_word : List Str := ["text", "letters", "most", "letter"]
theorem sc_is_word : FnScope ["text", "letters", "most", "letter"] ["text", "letters", "most"] (defScope s_is_word) := ⟨rfl, rfl, rfl, by decide +kernel, rfl, by decide +kernel, by decide +kernel⟩
abbrev s_is_number : Stmt := topS 12
abbrev N_is_number : List Str := ["text"]
theorem sc_is_number : FnScope ["text"] ["text"] (defScope s_is_number) := ⟨rfl, rfl, rfl, by decide +kernel, rfl, by decide +kernel, by decide +kernel⟩
abbrev s_is_id : Stmt := topS 13
abbrev N_is_id : List Str := ["text"]
theorem sc_is_id : FnScope ["text"] ["text"] (defScope s_is_id) := ⟨rfl, rfl, rfl, by decide +kernel, rfl, by decide +kernel, by decide +kernel⟩
abbrev s_is_label : Stmt := topS 14
abbrev N_is_label : List Str := ["text"]
theorem sc_is_label : FnScope ["text"] ["text"] (defScope s_is_label) := ⟨rfl, rfl, rfl, by decide +kernel, rfl, by decide +kernel, by decide +kernel⟩
abbrev s_is_name : Stmt := topS 15
abbrev N_is_name : List Str := ["text", "parts", "part"]
theorem sc_is_name : FnScope ["text", "parts", "part"] ["text"] (defScope s_is_name) := ⟨rfl, rfl, rfl, by decide +kernel, rfl, by decide +kernel, by decide +kernel⟩
abbrev s_read_number : Stmt := topS 28
abbrev N_read_number : List Str := ["word"]
theorem sc_read_number : FnScope ["word"] ["word"] (defScope s_read_number) := ⟨rfl, rfl, rfl, by decide +kernel, rfl, by decide +kernel, by decide +kernel⟩
abbrev s_read_id : Stmt := topS 29
abbrev N_read_id : List Str := ["word"]
theorem sc_read_id : FnScope ["word"] ["word"] (defScope s_read_id) := ⟨rfl, rfl, rfl, by decide +kernel, rfl, by decide +kernel, by decide +kernel⟩
abbrev s_read_name : Stmt := topS 30
abbrev N_read_name : List Str := ["word"]
theorem sc_read_name : FnScope ["word"] ["word"] (defScope s_read_name) := ⟨rfl, rfl, rfl, by decide +kernel, rfl, by decide +kernel, by decide +kernel⟩
abbrev s_read_ids : Stmt := topS 31
abbrev N_read_ids : List Str := ["word", "part"]
theorem sc_read_ids : FnScope ["word", "part"] ["word"] (defScope s_read_ids) := ⟨rfl, rfl, rfl, by decide +kernel, rfl, by decide +kernel, by decide +kernel⟩
abbrev s_read_numbers : Stmt := topS 32
abbrev N_read_numbers : List Str := ["words", "word"]
theorem sc_read_numbers : FnScope ["words", "word"] ["words"] (defScope s_read_numbers) := ⟨rfl, rfl, rfl, by decide +kernel, rfl, by decide +kernel, by decide +kernel⟩
abbrev s_read_slot : Stmt := topS 33
abbrev N_read_slot : List Str := ["words"]
theorem sc_read_slot : FnScope ["words"] ["words"] (defScope s_read_slot) := ⟨rfl, rfl, rfl, by decide +kernel, rfl, by decide +kernel, by decide +kernel⟩
abbrev s_split_slot : Stmt := topS 34
abbrev N_split_slot : List Str := ["words", "size"]
theorem sc_split_slot : FnScope ["words", "size"] ["words"] (defScope s_split_slot) := ⟨rfl, rfl, rfl, by decide +kernel, rfl, by decide +kernel, by decide +kernel⟩
abbrev s_read_hosts_item : Stmt := topS 35
abbrev N_read_hosts_item : List Str := ["words", "content", "life"]
theorem sc_read_hosts_item : FnScope ["words", "content", "life"] ["words"] (defScope s_read_hosts_item) := ⟨rfl, rfl, rfl, by decide +kernel, rfl, by decide +kernel, by decide +kernel⟩
abbrev s_read_sealed_item : Stmt := topS 36
abbrev N_read_sealed_item : List Str := ["words", "content", "life", "signers", "first", "last", "kept", "sealed"]
theorem sc_read_sealed_item : FnScope ["words", "content", "life", "signers", "first", "last", "kept", "sealed"] ["words"] (defScope s_read_sealed_item) := ⟨rfl, rfl, rfl, by decide +kernel, rfl, by decide +kernel, by decide +kernel⟩
abbrev s_read_placed : Stmt := topS 37
abbrev N_read_placed : List Str := ["words", "slot", "rest"]
theorem sc_read_placed : FnScope ["words", "slot", "rest"] ["words"] (defScope s_read_placed) := ⟨rfl, rfl, rfl, by decide +kernel, rfl, by decide +kernel, by decide +kernel⟩
abbrev s_read_deed : Stmt := topS 38
abbrev N_read_deed : List Str := ["words", "slot", "item"]
theorem sc_read_deed : FnScope ["words", "slot", "item"] ["words"] (defScope s_read_deed) := ⟨rfl, rfl, rfl, by decide +kernel, rfl, by decide +kernel, by decide +kernel⟩
abbrev s_read_step : Stmt := topS 39
abbrev N_read_step : List Str := ["words", "moment", "deed"]
theorem sc_read_step : FnScope ["words", "moment", "deed"] ["words"] (defScope s_read_step) := ⟨rfl, rfl, rfl, by decide +kernel, rfl, by decide +kernel, by decide +kernel⟩
abbrev s_read_wait : Stmt := topS 40
abbrev N_read_wait : List Str := ["words"]
theorem sc_read_wait : FnScope ["words"] ["words"] (defScope s_read_wait) := ⟨rfl, rfl, rfl, by decide +kernel, rfl, by decide +kernel, by decide +kernel⟩
abbrev s_read_event : Stmt := topS 41
abbrev N_read_event : List Str := ["words", "moment", "rest", "slot", "numbers", "name", "kind", "picks", "item", "zone", "key"]
theorem sc_read_event : FnScope ["words", "moment", "rest", "slot", "numbers", "name", "kind", "picks", "item", "zone", "key"] ["words"] (defScope s_read_event) := ⟨rfl, rfl, rfl, by decide +kernel, rfl, by decide +kernel, by decide +kernel⟩
abbrev s_read_case_line : Stmt := topS 42
abbrev N_read_case_line : List Str := ["words", "zone", "lag", "key", "name", "kind", "server", "least", "most", "deed", "earlier", "later", "moment"]
theorem sc_read_case_line : FnScope ["words", "zone", "lag", "key", "name", "kind", "server", "least", "most", "deed", "earlier", "later", "moment"] ["words"] (defScope s_read_case_line) := ⟨rfl, rfl, rfl, by decide +kernel, rfl, by decide +kernel, by decide +kernel⟩
abbrev s_split_lines : Stmt := topS 43
abbrev N_split_lines : List Str := ["text", "line"]
theorem sc_split_lines : FnScope ["text", "line"] ["text"] (defScope s_split_lines) := ⟨rfl, rfl, rfl, by decide +kernel, rfl, by decide +kernel, by decide +kernel⟩
abbrev s_read_line : Stmt := topS 44
abbrev N_read_line : List Str := ["read", "words", "at"]
theorem sc_read_line : FnScope ["read", "words", "at"] ["read", "words", "at"] (defScope s_read_line) := ⟨rfl, rfl, rfl, by decide +kernel, rfl, by decide +kernel, by decide +kernel⟩
abbrev s_read_lines : Stmt := topS 45
abbrev N_read_lines : List Str := ["read", "text", "rows", "at", "words"]
theorem sc_read_lines : FnScope ["read", "text", "rows", "at", "words"] ["read", "text"] (defScope s_read_lines) := ⟨rfl, rfl, rfl, by decide +kernel, rfl, by decide +kernel, by decide +kernel⟩
abbrev s_read_groups : Stmt := topS 46
abbrev N_read_groups : List Str := ["text", "rows", "groups", "last", "at", "words", "group", "said", "_"]
theorem sc_read_groups : FnScope ["text", "rows", "groups", "last", "at", "words", "group", "said", "_"] ["text"] (defScope s_read_groups) := ⟨rfl, rfl, rfl, by decide +kernel, rfl, by decide +kernel, by decide +kernel⟩
abbrev s_read_case : Stmt := topS 47
abbrev N_read_case : List Str := ["text", "groups", "realm", "state", "deeds", "bounds", "deed", "_", "pair"]
theorem sc_read_case : FnScope ["text", "groups", "realm", "state", "deeds", "bounds", "deed", "_", "pair"] ["text"] (defScope s_read_case) := ⟨rfl, rfl, rfl, by decide +kernel, rfl, by decide +kernel, by decide +kernel⟩
abbrev s_read_plan : Stmt := topS 48
abbrev N_read_plan : List Str := ["text"]
theorem sc_read_plan : FnScope ["text"] ["text"] (defScope s_read_plan) := ⟨rfl, rfl, rfl, by decide +kernel, rfl, by decide +kernel, by decide +kernel⟩
abbrev s_read_table : Stmt := topS 49
abbrev N_read_table : List Str := ["text"]
theorem sc_read_table : FnScope ["text"] ["text"] (defScope s_read_table) := ⟨rfl, rfl, rfl, by decide +kernel, rfl, by decide +kernel, by decide +kernel⟩
abbrev s_read_history : Stmt := topS 50
abbrev N_read_history : List Str := ["text"]
theorem sc_read_history : FnScope ["text"] ["text"] (defScope s_read_history) := ⟨rfl, rfl, rfl, by decide +kernel, rfl, by decide +kernel, by decide +kernel⟩
abbrev s_law_mix : Stmt := topS 52
abbrev N_law_mix : List Str := ["number"]
theorem sc_law_mix : FnScope ["number"] ["number"] (defScope s_law_mix) := ⟨rfl, rfl, rfl, by decide +kernel, rfl, by decide +kernel, by decide +kernel⟩
abbrev s_law_tape : Stmt := topS 53
abbrev N_law_tape : List Str := ["script", "budget"]
theorem sc_law_tape : FnScope ["script", "budget"] ["script", "budget"] (defScope s_law_tape) := ⟨rfl, rfl, rfl, by decide +kernel, rfl, by decide +kernel, by decide +kernel⟩
abbrev s_law_take : Stmt := topS 54
abbrev N_law_take : List Str := ["tape", "many", "cell", "digit"]
theorem sc_law_take : FnScope ["tape", "many", "cell", "digit"] ["tape", "many"] (defScope s_law_take) := ⟨rfl, rfl, rfl, by decide +kernel, rfl, by decide +kernel, by decide +kernel⟩
abbrev s_law_right : Stmt := topS 55
abbrev N_law_right : List Str := ["kind", "item"]
theorem sc_law_right : FnScope ["kind", "item"] ["kind"] (defScope s_law_right) := ⟨rfl, rfl, rfl, by decide +kernel, rfl, by decide +kernel, by decide +kernel⟩
abbrev s_law_groups : Stmt := topS 56
abbrev N_law_groups : List Str := ["item"]
theorem sc_law_groups : FnScope ["item"] [] (defScope s_law_groups) := ⟨rfl, rfl, rfl, by decide +kernel, rfl, by decide +kernel, by decide +kernel⟩
abbrev s_law_spoilt : Stmt := topS 57
abbrev N_law_spoilt : List Str := ["tape", "line", "words", "draw", "bad", "at"]
theorem sc_law_spoilt : FnScope ["tape", "line", "words", "draw", "bad", "at"] ["tape", "line"] (defScope s_law_spoilt) := ⟨rfl, rfl, rfl, by decide +kernel, rfl, by decide +kernel, by decide +kernel⟩
abbrev s_law_told : Stmt := topS 58
abbrev N_law_told : List Str := ["read", "text", "why"]
theorem sc_law_told : FnScope ["read", "text", "why"] ["read", "text"] (defScope s_law_told) := ⟨rfl, rfl, rfl, by decide +kernel, rfl, by decide +kernel, by decide +kernel⟩
abbrev s_law_texts : Stmt := topS 59
abbrev N_law_texts : List Str := ["tape", "kind", "read", "right", "lines", "due", "k", "line"]
theorem sc_law_texts : FnScope ["tape", "kind", "read", "right", "lines", "due", "k", "line"] ["tape", "kind", "read"] (defScope s_law_texts) := ⟨rfl, rfl, rfl, by decide +kernel, rfl, by decide +kernel, by decide +kernel⟩
abbrev s_law_case_lines : Stmt := topS 60
abbrev N_law_case_lines : List Str := ["tape", "groups", "found", "last", "k"]
theorem sc_law_case_lines : FnScope ["tape", "groups", "found", "last", "k"] ["tape"] (defScope s_law_case_lines) := ⟨rfl, rfl, rfl, by decide +kernel, rfl, by decide +kernel, by decide +kernel⟩
abbrev s_law_case : Stmt := topS 61
abbrev N_law_case : List Str := ["tape", "rows", "lines", "due", "last", "group", "line", "wrong", "row"]
theorem sc_law_case : FnScope ["tape", "rows", "lines", "due", "last", "group", "line", "wrong", "row"] ["tape"] (defScope s_law_case) := ⟨rfl, rfl, rfl, by decide +kernel, rfl, by decide +kernel, by decide +kernel⟩
abbrev s_law : Stmt := topS 62
abbrev N_law : List Str := ["script", "tape", "turn"]
theorem sc_law : FnScope ["script", "tape", "turn"] ["script"] (defScope s_law) := ⟨rfl, rfl, rfl, by decide +kernel, rfl, by decide +kernel, by decide +kernel⟩
local macro_rules | `(tactic| walk_at "szl") => `(tactic| first
  | assumption
  | exact Nat.lt_of_le_of_lt (by assumption) (by decide)
  | (refine Nat.lt_of_le_of_lt ?_ (show (100000 : Nat) < sizeLine by decide); (try simp only [List.length_map, List.length_cons, List.length_nil, List.length_append]); omega))
local macro_rules | `(tactic| walk_at "sz") => `(tactic| first
  | assumption
  | exact Nat.le_trans (by assumption) (by decide)
  | (show _ ≤ sizeLine; decide)
  | (refine Nat.le_trans ?_ (show (100000 : Nat) ≤ sizeLine by decide); (try simp only [List.length_map, List.length_cons, List.length_nil, List.length_append]); omega))
local macro_rules | `(tactic| walk_at "hp") => `(tactic| first
  | assumption
  | exact upd_same
  | (refine (upd_ne ?hne).trans ?_; (case hne => first | assumption | exact Ne.symm (by assumption)); walk_at "hp"))
local macro_rules | `(tactic| walk_at "pl") => `(tactic| (refine Nat.le_trans (?plx : _ ≤ 1000) (by decide); (case plx => (try simp only [app_len, dot_len, dotS_len, w_len]); omega)))
local macro_rules | `(tactic| walk_at "rd1") => `(tactic| first
  | with_reducible refine rd_seq ?_
  | with_reducible refine rd_asg ?_
  | with_reducible refine rd_ret ?_
  | with_reducible refine rd_if ?_
  | with_reducible refine rd_drop ?_
  | with_reducible refine rd_next ?_
  | with_reducible refine rd_B ?_
  | with_reducible refine rd_ifE ?_
  | with_reducible refine rd_T ?_
  | with_reducible refine rd_tnot ?_
  | with_reducible refine rd_tand ?_
  | with_reducible refine rd_tor ?_
  | with_reducible refine rd_chain ?_
  | with_reducible refine rd_rng2 ?_
  | with_reducible refine rd_zipA ?_
  | with_reducible refine rd_star ?_
  | with_reducible refine rd_op ?_
  | with_reducible refine rd_un ?_
  | with_reducible refine rd_call ?_
  | with_reducible refine rd_cons ?_
  | with_reducible refine rd_nil ?_
  | with_reducible refine rd_cb ?_
  | with_reducible refine rd_c ?_
  | with_reducible refine rd_not ?_
  | with_reducible refine rd_and ?_
  | with_reducible refine rd_or ?_
  | with_reducible refine rd_sub ?_
  | with_reducible refine rd_lc ?_
  | with_reducible refine rd_iStr ?_
  | with_reducible refine rd_exStr ?_
  | with_reducible refine rd_iSeq ?_
  | with_reducible refine rd_rng ?_
  | with_reducible refine rd_exRef ?_
  | with_reducible refine rd_exInt ?_
  | with_reducible refine rd_exInts ?_
  | ((with_reducible refine' rd_seqL (xs := ?rxs) ?rxh ?_); (case rxh => exact SqL.of (by walk_at "hp")))
  | with_reducible refine rd_tyes ?_
  | with_reducible refine rd_eqStr ?_
  | with_reducible refine rd_neStr ?_
  | with_reducible refine rd_eqInt ?_
  | with_reducible refine rd_neInt ?_
  | with_reducible refine rd_eqBl ?_
  | with_reducible refine rd_rev ?_
  | with_reducible refine rd_exA ?_
  | with_reducible refine rd_fs ?_
  | with_reducible refine rd_jc ?_
  | with_reducible refine rd_jn ?_
  | with_reducible refine rd_fmt ?_
  | with_reducible refine rd_for ?_
  | with_reducible refine rd_bm ?_
  | ((with_reducible refine' rd_tyL (xs := ?rxs) ?rxh ?_); (case rxh => walk_at "hp"))
  | ((with_reducible refine' rd_app (xs := ?rxs) ?rxh ?rxc ?_); (case rxh => walk_at "hp"); (case rxc => walk_at "szl"))
  | ((with_reducible refine rd_fmtS ?rdc ?_); (case rdc => walk_at "sz"))
  | with_reducible refine rd_isBool ?_
  | with_reducible refine rd_sl ?_
  | with_reducible refine rd_noP ?_
  | with_reducible refine rd_part ?_
  | ((with_reducible refine rd_slS ?rdc ?_); (case rdc => walk_at "sz"))
  | with_reducible refine rd_sortLam ?_
  | with_reducible refine iteT ?_
  | with_reducible refine rd_ntt ?_
  | with_reducible refine rd_nff ?_
  | with_reducible refine iteF ?_
  | with_reducible refine rd_m1 ?_
  | (with_reducible refine ⟨⟨_, rfl⟩, ?_⟩)
  | ((with_reducible refine rd_len ?rdc ?_); (case rdc => walk_at "sz"))
  | with_reducible refine rd_gcons ?_
  | ((with_reducible refine rd_plusS ?rdc ?_); (case rdc => walk_at "pl"))
  | with_reducible refine rd_gnil ?_
  | ((with_reducible refine' rd_inWs (zs := ?rxs) ?rxh ?_); (case rxh => walk_at "hp"))
  | ((with_reducible refine' rd_ninWs (zs := ?rxs) ?rxh ?_); (case rxh => walk_at "hp"))
  | with_reducible refine rd_ends ?_
  | with_reducible refine rd_inS ?_
  | with_reducible refine rd_ninS ?_
  | with_reducible refine rd_isStr ?_
  | with_reducible refine rd_lst ?_
  | with_reducible refine rd_tup ?_
  | with_reducible refine rd_name ?_
  | with_reducible refine rd_bl ?_
  | with_reducible refine rd_i0 ?_
  | with_reducible refine rd_uI ?_
  | with_reducible refine rd_plusI ?_
  | with_reducible refine rd_int1 ?_
  | ((with_reducible refine rd_i ?rdc ?_); (case rdc => first | decide | (constructor <;> decide) | (left; constructor <;> decide) | (right; constructor <;> decide) | omega | (left; constructor <;> omega) | (right; constructor <;> omega) | (constructor <;> omega)))
  | ((with_reducible refine' rd_ixL (v := ?rxv) (xs := ?rxs) ?rxh ?rxa ?_); (case rxh => exact SqL.of (by walk_at "hp")); (case rxa => rfl))
  | ((with_reducible refine' rd_lenL (ys := ?rxs) ?rxh ?_); (case rxh => exact SqL.of (by walk_at "hp")))
  | ((with_reducible refine' rd_set (xs := ?rxs) (j := ?rxj) ?rxh ?rxa ?_); (case rxh => walk_at "hp"); (case rxa => rfl))
  | ((with_reducible refine' rd_var (v := ?rdw) ?rdv ?_); (case rdv => rfl)))
local macro_rules | `(tactic| walk_at "rdn1") => `(tactic| first
  | with_reducible refine rd_asg ?_
  | with_reducible refine rd_ret ?_
  | with_reducible refine rd_if ?_
  | with_reducible refine rd_drop ?_
  | with_reducible refine rd_next ?_
  | with_reducible refine rd_B ?_
  | with_reducible refine rd_ifE ?_
  | with_reducible refine rd_T ?_
  | with_reducible refine rd_tnot ?_
  | with_reducible refine rd_tand ?_
  | with_reducible refine rd_tor ?_
  | with_reducible refine rd_chain ?_
  | with_reducible refine rd_rng2 ?_
  | with_reducible refine rd_zipA ?_
  | with_reducible refine rd_star ?_
  | with_reducible refine rd_op ?_
  | with_reducible refine rd_un ?_
  | with_reducible refine rd_call ?_
  | with_reducible refine rd_cons ?_
  | with_reducible refine rd_nil ?_
  | with_reducible refine rd_cb ?_
  | with_reducible refine rd_c ?_
  | with_reducible refine rd_not ?_
  | with_reducible refine rd_and ?_
  | with_reducible refine rd_or ?_
  | with_reducible refine rd_sub ?_
  | with_reducible refine rd_lc ?_
  | with_reducible refine rd_iStr ?_
  | with_reducible refine rd_exStr ?_
  | with_reducible refine rd_iSeq ?_
  | with_reducible refine rd_rng ?_
  | with_reducible refine rd_exRef ?_
  | with_reducible refine rd_exInt ?_
  | with_reducible refine rd_exInts ?_
  | ((with_reducible refine' rd_seqL (xs := ?rxs) ?rxh ?_); (case rxh => exact SqL.of (by walk_at "hp")))
  | with_reducible refine rd_tyes ?_
  | with_reducible refine rd_eqStr ?_
  | with_reducible refine rd_neStr ?_
  | with_reducible refine rd_eqInt ?_
  | with_reducible refine rd_neInt ?_
  | with_reducible refine rd_eqBl ?_
  | with_reducible refine rd_rev ?_
  | with_reducible refine rd_exA ?_
  | with_reducible refine rd_fs ?_
  | with_reducible refine rd_jc ?_
  | with_reducible refine rd_jn ?_
  | with_reducible refine rd_fmt ?_
  | with_reducible refine rd_for ?_
  | with_reducible refine rd_bm ?_
  | ((with_reducible refine' rd_tyL (xs := ?rxs) ?rxh ?_); (case rxh => walk_at "hp"))
  | ((with_reducible refine' rd_app (xs := ?rxs) ?rxh ?rxc ?_); (case rxh => walk_at "hp"); (case rxc => walk_at "szl"))
  | ((with_reducible refine rd_fmtS ?rdc ?_); (case rdc => walk_at "sz"))
  | with_reducible refine rd_isBool ?_
  | with_reducible refine rd_sl ?_
  | with_reducible refine rd_noP ?_
  | with_reducible refine rd_part ?_
  | ((with_reducible refine rd_slS ?rdc ?_); (case rdc => walk_at "sz"))
  | with_reducible refine rd_sortLam ?_
  | with_reducible refine iteT ?_
  | with_reducible refine rd_ntt ?_
  | with_reducible refine rd_nff ?_
  | with_reducible refine iteF ?_
  | with_reducible refine rd_m1 ?_
  | (with_reducible refine ⟨⟨_, rfl⟩, ?_⟩)
  | ((with_reducible refine rd_len ?rdc ?_); (case rdc => walk_at "sz"))
  | with_reducible refine rd_gcons ?_
  | ((with_reducible refine rd_plusS ?rdc ?_); (case rdc => walk_at "pl"))
  | with_reducible refine rd_gnil ?_
  | ((with_reducible refine' rd_inWs (zs := ?rxs) ?rxh ?_); (case rxh => walk_at "hp"))
  | ((with_reducible refine' rd_ninWs (zs := ?rxs) ?rxh ?_); (case rxh => walk_at "hp"))
  | with_reducible refine rd_ends ?_
  | with_reducible refine rd_inS ?_
  | with_reducible refine rd_ninS ?_
  | with_reducible refine rd_isStr ?_
  | with_reducible refine rd_lst ?_
  | with_reducible refine rd_tup ?_
  | with_reducible refine rd_name ?_
  | with_reducible refine rd_bl ?_
  | with_reducible refine rd_i0 ?_
  | with_reducible refine rd_uI ?_
  | with_reducible refine rd_plusI ?_
  | with_reducible refine rd_int1 ?_
  | ((with_reducible refine rd_i ?rdc ?_); (case rdc => first | decide | (constructor <;> decide) | (left; constructor <;> decide) | (right; constructor <;> decide) | omega | (left; constructor <;> omega) | (right; constructor <;> omega) | (constructor <;> omega)))
  | ((with_reducible refine' rd_ixL (v := ?rxv) (xs := ?rxs) ?rxh ?rxa ?_); (case rxh => exact SqL.of (by walk_at "hp")); (case rxa => rfl))
  | ((with_reducible refine' rd_lenL (ys := ?rxs) ?rxh ?_); (case rxh => exact SqL.of (by walk_at "hp")))
  | ((with_reducible refine' rd_set (xs := ?rxs) (j := ?rxj) ?rxh ?rxa ?_); (case rxh => walk_at "hp"); (case rxa => rfl))
  | ((with_reducible refine' rd_var (v := ?rdw) ?rdv ?_); (case rdv => rfl)))
local macro_rules | `(tactic| walk_at "rd") => `(tactic| repeat walk_at "rd1")
local macro_rules | `(tactic| walk_at "ext") => `(tactic| first
  | exact Ext.refl
  | assumption
  | (refine Ext.trans ?_ (Ext.mut (by simp) (by walk_at "hp")); walk_at "ext")
  | (refine Ext.trans ?_ (Ext.new (by assumption)); walk_at "ext"))
local macro_rules | `(tactic| walk_at "rdn") => `(tactic| repeat walk_at "rdn1")
section
variable {T : List (Addr × Str)} {P : Program} {w : World} {K : PySem.W.Frag} {mg : Str → Option Value} {base : Heap}
def bltns : List Str := ["isinstance", "str", "len", "all", "any", "range", "list", "tuple", "int", "max", "min", "enumerate", "sorted"]
theorem ok_law_mix (D : Def K mg "_law_mix" s_law_mix ["number"]) (mb : ∀ x ∈ bltns, mg x = none) : Ok P w K mg base 1 "_law_mix" ["number"] spMix := by
  refine D.ok sc_law_mix (fun vs H Q E h => ?_) (fun cdv f A outer s H vs Q E hr h => ?_)
  · obtain ⟨n, rfl, _⟩ := h
    rfl
  · obtain ⟨n, rfl, q⟩ := h
    refine ⟨_, (pss_cons (ps_set (i := 0) sc_law_mix.nd rfl (.inl rfl) (pe_op op_mod (pe_callTy call_int1U (by rfl) (mb _ (by decide)) (by decide +kernel) (pa_cons (pe_op (op_plus K rfl) (pe_op op_mul (pv 0) pe_int) pe_int) pa_nil)) pe_int))
   (pss_one (ps_ret (pe_op op_mod (pe_callTy call_int1U (by rfl) (mb _ (by decide)) (by decide +kernel) (pa_cons (pe_op (op_plus K rfl) (pe_op op_fdivW (pe_op op_mul (pv 0) (pv 0)) pe_int) (pe_op op_mul (pv 0) pe_int)) pa_nil)) pe_int)))), ?_⟩
    walk_at "rd"
    exact q
theorem ok_law_tape (D : Def K mg "_law_tape" s_law_tape ["script", "budget"]) (mb : ∀ x ∈ bltns, mg x = none) : Ok P w K mg base 1 "_law_tape" ["script", "budget"] (spTape T K) := by
  refine D.ok sc_law_tape (fun vs H Q E h => ?_) (fun cdv f A outer s H vs Q E hr h => ?_)
  · obtain ⟨a, ns, b, rfl, _⟩ := h
    rfl
  · obtain ⟨a, ns, b, rfl, ha, hl, q⟩ := h
    refine ⟨_, (pss_one (ps_ret (pe_lst (pa_cons (pe_callTy (call_listU K rfl) (by rfl) (mb _ (by decide)) (by decide +kernel) (pa_cons (pv 0) pa_nil)) (pa_cons pe_int (pa_cons pe_int (pa_cons pe_int (pa_cons (pv 1) pa_nil)))))))), ?_⟩
    walk_at "rd"
    refine rd_listL ha fun l nl => ?_
    walk_at "rd"
    refine ⟨by show 5 ≤ sizeLine; decide, fun t nt => ?_⟩
    have hlt : l ≠ t := fun z => by
      rw [← z, upd_same] at nt
      cases nt
    have ntH : H t = none := by
      rw [upd_ne (Ne.symm hlt)] at nt
      exact nt
    exact q t l _ (.of ntH) ((Ext.new nl).trans (.new nt)) ⟨ns, 0, 0, 1, b, upd_same, by rw [upd_ne hlt]; exact upd_same, hlt, by decide, by decide⟩
theorem ok_law_take (D : Def K mg "_law_take" s_law_take ["tape", "many"]) (G_law_mix : Ok P w K mg base 1 "_law_mix" ["number"] spMix) (mb : ∀ x ∈ bltns, mg x = none) : Ok P w K mg base 2 "_law_take" ["tape", "many"] (spTake T) := by
  refine D.ok sc_law_take (fun vs H Q E h => ?_) (fun cdv f A outer s H vs Q E hr h => ?_)
  · obtain ⟨l, t, m, rfl, _⟩ := h
    rfl
  · obtain ⟨l, t, m, rfl, hm, hm2, hT, q⟩ := h
    obtain ⟨ns, pos, rest, st, bud, ht, hlh, hlt, hr0, hs0⟩ := hT
    refine ⟨_, (pss_cons (ps_if (pt_cmpR op_lt (pe_ix (ix_U K rfl) (pv 0) pe_int (fun _ _ => rfl)) (pv 1) (nomark _)) (pss_one (ps_if (pt_cmpR op_lt (pe_ix (ix_U K rfl) (pv 0) pe_int (fun _ _ => rfl)) (pe_callB (call_lenU K rfl) (by rfl) (mb _ (by decide)) (by decide +kernel) (pa_cons (pe_ix (ix_U K rfl) (pv 0) pe_int (fun _ _ => rfl)) pa_nil)) (nomark _)) (pss_cons (ps_set (i := 2) sc_law_take.nd rfl (.inl rfl) (pe_ix (ix_U K rfl) (pe_ix (ix_U K rfl) (pv 0) pe_int (fun _ _ => rfl)) (pe_ix (ix_U K rfl) (pv 0) pe_int (fun _ _ => rfl)) (fun _ _ => rfl)))
   (pss_cons (ps_set (i := 2) sc_law_take.nd rfl (.inl rfl) (pe_ifExp (pt_cmpR op_ge (pv 2) pe_int (nomark _)) (pe_op op_mul pe_int (pv 2)) (pe_op op_sub (pe_op op_mul (pe_un un_neg pe_int) (pv 2)) pe_int)))
   (pss_cons (ps_asg (pe_op (op_plus K rfl) (pe_ix (ix_U K rfl) (pv 0) pe_int (fun _ _ => rfl)) pe_int) (pg_sub (pv 0) pe_int set_list))
   (pss_cons (ps_asg (pe_callO G_law_mix (hr.mono (by decide)) (by rfl) (pa_cons (pe_op (op_plus K rfl) (pe_ix (ix_U K rfl) (pv 0) pe_int (fun _ _ => rfl)) (pv 2)) pa_nil)) (pg_sub (pv 0) pe_int set_list))
   (pss_one (ps_asg (pe_ifExp (pt_cmpR op_ge (pv 2) (pe_op op_pow pe_int pe_int) (nomark _)) (pv 2) (pe_callO G_law_mix (hr.mono (by decide)) (by rfl) (pa_cons (pe_callO G_law_mix (hr.mono (by decide)) (by rfl) (pa_cons (pv 2) pa_nil)) pa_nil))) (pg_sub (pv 0) pe_int set_list))))))) (pss_cons (ps_asg (pe_callO G_law_mix (hr.mono (by decide)) (by rfl) (pa_cons (pe_op (op_plus K rfl) (pe_ix (ix_U K rfl) (pv 0) pe_int (fun _ _ => rfl)) pe_int) pa_nil)) (pg_sub (pv 0) pe_int set_list))
   (pss_one (ps_asg (pe_ix (ix_U K rfl) (pv 0) pe_int (fun _ _ => rfl)) (pg_sub (pv 0) pe_int set_list)))))) pss_nil)
   (pss_cons (ps_set (i := 3) sc_law_take.nd rfl (.inl rfl) (pe_op op_mod (pe_callTy call_int1U (by rfl) (mb _ (by decide)) (by decide +kernel) (pa_cons (pe_ix (ix_U K rfl) (pv 0) pe_int (fun _ _ => rfl)) pa_nil)) (pv 1)))
   (pss_cons (ps_asg (pe_op op_fdivW (pe_ix (ix_U K rfl) (pv 0) pe_int (fun _ _ => rfl)) (pv 1)) (pg_sub (pv 0) pe_int set_list))
   (pss_one (ps_ret (pv 3)))))), ?_⟩
    have fin : ∀ (H1 : Hp) (po : Nat) (re sm : Int) (σ' : L2.St), H1 t = some (.lst [.ref l, .int (po : Int), .int re, .int sm, .int bud]) → H1 l = some (.lst (ns.map V.int)) → 0 ≤ re → 0 ≤ sm → Ext T [t] H H1 →
        ∀ d, 0 ≤ d → d < m → Q (.int d) (upd H1 t (.lst [.ref l, .int (po : Int), .int (re / m), .int sm, .int bud])) := fun H1 po re sm σ' e1 e2 h1 h2 ex d h3 h4 =>
      q d _ h3 h4 (ex.trans (.mut (by simp) e1)) ⟨ns, po, re / m, sm, bud, upd_same, by rw [upd_ne hlt]; exact e2, hlt, Int.ediv_nonneg h1 (by omega), h2⟩
    have wm : ∀ i, CDivW i m := fun i => wide_div hm (b := 64) (by omega) (by decide) (by decide)
    have tail : ∀ (H1 : Hp) (po : Nat) (re sm : Int) (xs : List V), xs = [.ref l, .int (po : Int), .int re, .int sm, .int bud] → H1 t = some (.lst xs) → H1 l = some (.lst (ns.map V.int)) → 0 ≤ re → 0 ≤ sm → Ext T [t] H H1 →
        Q (.int (re % m)) (upd H1 t (.lst (xs.set 2 (.int (re / m))))) := fun H1 po re sm xs exs e1 e2 h1 h2 ex => by
      subst exs
      exact fin H1 po re sm [] e1 e2 h1 h2 ex _ (Int.emod_nonneg _ (by omega)) (Int.emod_lt_of_pos _ hm)
    walk_at "rd"
    refine rd_ite (fun h1 => ?_) (fun h1 => ?_)
    · walk_at "rd"
      refine rd_ite (fun h2 => ?_) (fun h2 => ?_)
      · walk_at "rd"
        have hp : pos < ns.length := by
          rw [List.length_map] at h2
          omega
        refine rd_ixL (v := .int ns[pos]) (SqL.of hlh) (atI_nat (by rw [List.getElem?_map, List.getElem?_eq_getElem hp]; rfl)) ?_
        walk_at "rd"
        refine rd_ite (fun h3 => ?_) (fun h3 => ?_)
        · walk_at "rd"
          refine ⟨_, rfl, ?_⟩
          walk_at "rd"
          refine rd_ite (fun h4 => ?_) (fun h4 => ?_)
          · walk_at "rd"
            refine rd_i (wm _) ?_
            walk_at "rd"
            exact tail _ (pos + 1) _ _ _ rfl upd_same (by walk_at "hp") (by omega) (mixI_nn _) (by walk_at "ext")
          · walk_at "rd"
            refine ⟨_, rfl, ?_⟩
            walk_at "rd"
            refine ⟨_, rfl, ?_⟩
            walk_at "rd"
            refine rd_i (wm _) ?_
            walk_at "rd"
            exact tail _ (pos + 1) _ _ _ rfl upd_same (by walk_at "hp") (mixI_nn _) (mixI_nn _) (by walk_at "ext")
        · walk_at "rd"
          refine ⟨_, rfl, ?_⟩
          walk_at "rd"
          refine rd_ite (fun h4 => ?_) (fun h4 => ?_)
          · walk_at "rd"
            refine rd_i (wm _) ?_
            walk_at "rd"
            exact tail _ (pos + 1) _ _ _ rfl upd_same (by walk_at "hp") (by omega) (mixI_nn _) (by walk_at "ext")
          · walk_at "rd"
            refine ⟨_, rfl, ?_⟩
            walk_at "rd"
            refine ⟨_, rfl, ?_⟩
            walk_at "rd"
            refine rd_i (wm _) ?_
            walk_at "rd"
            exact tail _ (pos + 1) _ _ _ rfl upd_same (by walk_at "hp") (mixI_nn _) (mixI_nn _) (by walk_at "ext")
      · walk_at "rd"
        refine ⟨_, rfl, ?_⟩
        walk_at "rd"
        refine rd_i (wm _) ?_
        walk_at "rd"
        exact tail _ pos _ _ _ rfl upd_same (by walk_at "hp") (mixI_nn _) (mixI_nn _) (by walk_at "ext")
    · walk_at "rd"
      refine rd_i (wm _) ?_
      walk_at "rd"
      exact tail H pos rest st _ rfl ht hlh hr0 hs0 .refl
end

open PySem PySem.Spec PyProof.Rows L2
open PySem.W (EachIs)
def digitsS : Str := "0123456789"
structure Cst (mg : Str → Option Value) : Prop where
  c_DIGITS : ∃ t, mg "DIGITS" = some (.str digitsS t)
  c_LETTERS : ∃ t, mg "LETTERS" = some (.str lettersS t)
  c_MAX_DIGITS : ∃ t, mg "MAX_DIGITS" = some (.int 5 t)
  c_MAX_ID : ∃ t, mg "MAX_ID" = some (.int 4 t)
  c_MAX_LABEL : ∃ t, mg "MAX_LABEL" = some (.int 8 t)
  c_MAX_LABELS : ∃ t, mg "MAX_LABELS" = some (.int 4 t)
  c_HOSTS_FIRST : ∃ t, mg "HOSTS_FIRST" = some (.int 0 t)
  c_HOSTS_LAST : ∃ t, mg "HOSTS_LAST" = some (.int 10000 t)
  c_ZONES : ∃ t, mg "ZONES" = some (.int 0 t)
  c_ANCHORS : ∃ t, mg "ANCHORS" = some (.int 1 t)
  c_SETS : ∃ t, mg "SETS" = some (.int 2 t)
  c_ITEMS : ∃ t, mg "ITEMS" = some (.int 3 t)
  c_SERVERS : ∃ t, mg "SERVERS" = some (.int 4 t)
  c_DEEDS : ∃ t, mg "DEEDS" = some (.int 5 t)
  c_PAIRS : ∃ t, mg "PAIRS" = some (.int 6 t)
  c_END : ∃ t, mg "END" = some (.int 7 t)
section
variable {T : List (Addr × Str)} {P : Program} {w : World} {K : PySem.W.Frag} {mg : Str → Option Value} {base : Heap}
local macro_rules | `(tactic| walk_at "tr") => `(tactic| first
  | assumption
  | exact Ext.refl
  | ((with_reducible refine' Im.x (T := T) (H := ?trH) ?tra ?tre); (case tre => assumption); (case tra => walk_at "tr"))
  | ((with_reducible refine' Im.y (T := T) (H := ?trH) ?tra ?tre ?trt); (case tre => assumption); (case trt => walk_at "tr"); (case tra => walk_at "tr"))
  | ((with_reducible refine' ImAll.x (T := T) (H := ?trH) ?tra ?tre); (case tre => assumption); (case tra => walk_at "tr"))
  | ((with_reducible refine' ImAll.y (T := T) (H := ?trH) ?tra ?tre ?trt); (case tre => assumption); (case trt => walk_at "tr"); (case tra => walk_at "tr"))
  | ((with_reducible refine' Ls.x (T := T) (H := ?trH) ?tra ?tre); (case tre => assumption); (case tra => walk_at "tr"))
  | ((with_reducible refine' Ls.y (T := T) (H := ?trH) ?tra ?tre ?trn ?trt); (case tre => assumption); (case trt => walk_at "tr"); (case trn => walk_at "tr"); (case tra => walk_at "tr"))
  | ((with_reducible refine' SqP.x (T := T) (H := ?trH) ?tra ?tre); (case tre => assumption); (case tra => walk_at "tr"))
  | ((with_reducible refine' SqP.y (T := T) (H := ?trH) ?tra ?tre ?trt); (case tre => assumption); (case trt => walk_at "tr"); (case tra => walk_at "tr"))
  | ((with_reducible refine' StAt.x (T := T) (H := ?trH) ?tra ?tre); (case tre => assumption); (case tra => walk_at "tr"))
  | ((with_reducible refine' StAt.y (T := T) (H := ?trH) ?tra ?tre ?trt); (case tre => assumption); (case trt => walk_at "tr"); (case tra => walk_at "tr"))
  | ((with_reducible refine' Pools.ext0 (T := T) (H := ?trH) ?tra ?tre); (case tre => assumption); (case tra => walk_at "tr"))
  | ((with_reducible refine' Pools.ext (T := T) (H := ?trH) ?tra ?tre ?trt); (case tre => assumption); (case trt => walk_at "tr"); (case tra => walk_at "tr"))
  | ((with_reducible refine' CL.x (T := T) (H := ?trH) ?tra ?tre); (case tre => assumption); (case tra => walk_at "tr"))
  | ((with_reducible refine' CL.y (T := T) (H := ?trH) ?tra ?tre); (case tre => assumption); (case tra => walk_at "tr"))
  | ((with_reducible refine' Tape.ext (T := T) (H := ?trH) ?tra ?tre); (case tre => assumption); (case tra => walk_at "tr"))
  | ((with_reducible refine' lst.x (T := T) (H := ?trH) ?tra ?tre); (case tre => assumption); (case tra => walk_at "tr"))
  | ((with_reducible refine' lst.y (T := T) (H := ?trH) ?tra ?tre ?trn); (case tre => assumption); (case trn => walk_at "tr"); (case tra => walk_at "tr"))
  | ((with_reducible refine' tup.x (T := T) (H := ?trH) ?tra ?tre); (case tre => assumption); (case tra => walk_at "tr"))
  | ((with_reducible refine' tup.y (T := T) (H := ?trH) ?tra ?tre ?trt); (case tre => assumption); (case trt => walk_at "tr"); (case tra => walk_at "tr"))
  | ((with_reducible refine' frz.x (T := T) (H := ?trH) ?tra ?tre); (case tre => assumption); (case tra => walk_at "tr"))
  | ((with_reducible refine' frz.y (T := T) (H := ?trH) ?tra ?tre ?trt); (case tre => assumption); (case trt => walk_at "tr"); (case tra => walk_at "tr"))
  | ((with_reducible refine' Im.z (T := T) (H := ?trH) ?tra ?tre ?trt); (case tre => assumption); (case trt => assumption); (case tra => walk_at "tr"))
  | ((with_reducible refine' ImAll.z (T := T) (H := ?trH) ?tra ?tre ?trt); (case tre => assumption); (case trt => assumption); (case tra => walk_at "tr"))
  | ((with_reducible refine' StAt.z (T := T) (H := ?trH) ?tra ?tre ?trt); (case tre => assumption); (case trt => assumption); (case tra => walk_at "tr"))
  | ((with_reducible refine' SqP.z (T := T) (H := ?trH) ?tra ?tre ?trt); (case tre => assumption); (case trt => assumption); (case tra => walk_at "tr"))
  | ((with_reducible refine' tup.z (T := T) (H := ?trH) ?tra ?tre ?trt); (case tre => assumption); (case trt => assumption); (case tra => walk_at "tr"))
  | ((with_reducible refine' Ls.z (T := T) (H := ?trH) ?tra ?tre ?trt ?trn); (case tre => assumption); (case trt => assumption); (case trn => assumption); (case tra => walk_at "tr"))
  | ((with_reducible refine' lst.z (T := T) (H := ?trH) ?tra ?tre ?trn); (case tre => assumption); (case trn => assumption); (case tra => walk_at "tr"))
  | ((with_reducible refine' CL.z (T := T) (H := ?trH) ?tra ?tre ?trn); (case tre => assumption); (case trn => assumption); (case tra => walk_at "tr"))
  | ((with_reducible refine' Tape.ne1 (H := ?trH) ?trt ?trn); (case trn => assumption); (case trt => walk_at "tr"))
  | ((with_reducible refine' Ext.trans (H1 := ?trH) ?tra (Ext.any ?tre)); (case tre => assumption); (case tra => walk_at "tr"))
  | ((with_reducible refine' Ext.trans (H1 := ?trH) ?tra ?tre); (case tre => assumption); (case tra => walk_at "tr"))
  | ((with_reducible refine' Ext.back1 (T := T) (H1 := ?trH) ?tre ?trn ?tra); (case tra => assumption); (case trn => walk_at "tr"); (case tre => walk_at "tr"))
  | ((with_reducible refine' Ext.back0 (T := T) (H1 := ?trH) ?tre ?tra); (case tra => assumption); (case tre => walk_at "tr"))
  | ((with_reducible refine' SqT.of ?tra); (case tra => walk_at "tr"))
  | ((with_reducible refine' SqL.of ?tra); (case tra => walk_at "tr")))
local macro_rules | `(tactic| walk_at "al") => `(tactic| (refine ⟨by first | (show _ ≤ sizeLine; decide) | walk_at "sz", ?_⟩; intro alp aln; generalize alG : upd _ alp _ = alH; obtain ⟨aln2, alx, alh⟩ := al_of (T := T) aln alG; clear alG aln))
local macro_rules | `(tactic| walk_at "al0") => `(tactic| (intro alp aln; generalize alG : upd _ alp _ = alH; obtain ⟨aln2, alx, alh⟩ := al_of (T := T) aln alG; clear alG aln))

theorem ok_is_word (D : Def K mg "is_word" s_is_word ["text", "letters", "most"]) (mb : ∀ x ∈ bltns, mg x = none) : Ok P w K mg base 1 "is_word" ["text", "letters", "most"] (spWord T) := by
  refine D.ok sc_is_word (fun vs H Q E h => ?_) (fun cdv f A outer s H vs Q E hr h => ?_)
  · obtain ⟨z, ls, m, rfl, _⟩ := h
    rfl
  · obtain ⟨z, ls, m, rfl, hz, q⟩ := h
    have hz2 : z.length ≤ sizeLine := Nat.le_trans hz (by decide)
    refine ⟨_, (pss_one (ps_ret (pe_and (pe_callB (call_isiU K rfl) (by rfl) (mb _ (by decide)) (by decide +kernel) (pa_cons (pv 0) (pa_cons (pe_bltn (v := .ty "str") (u := .type "str") (by rfl) (mb _ (by decide)) (by decide +kernel) rfl) pa_nil))) (pe_and (pe_chain op_le op_le pe_int (pe_callB (call_lenU K rfl) (by rfl) (mb _ (by decide)) (by decide +kernel) (pa_cons (pv 0) pa_nil)) (pv 2)) (pe_one (pe_callB (call_allU K rfl rfl) (by rfl) (mb _ (by decide)) (by decide +kernel) (pa_cons (pe_lc (own := [("letter", 3)]) (g := gName 3) (tt := tYes) rfl sc_is_word.nd (pi_str (pv 0)) (blkOk_by (N := N_is_word) (sc := defScope s_is_word) (by decide +kernel)) (fun _ _ _ _ _ => (pg_name (i := 3) sc_is_word.nd rfl (Or.inl rfl))) (fun _ _ _ _ _ => pts_nil) (fun _ _ _ _ _ => (pe_cmpR (op_inW K rfl (Room.units65 hr)) (pv 3) (pv 1) rfl))) pa_nil))))))), ?_⟩
    have q' : ∀ (H' : Hp) {b : Bool}, Ext T [] H H' → wordB z ls m = b → Q (.bl b) H' := fun H' b e h => by
      rw [← h]
      exact q H' e
    unfold wordB at q'
    walk_at "rd"
    refine rd_ite (fun h1 => ?_) (fun h1 => ?_)
    · walk_at "rd"
      refine rd_ite (fun h2 => ?_) (fun h2 => ?_)
      · walk_at "rd"
        refine lcg_str T [] (fun _ => true) (fun v => .bl (match v with | .str x => decide ((sg x).headD 0 ∈ sg ls) | _ => false)) (Nat.lt_of_le_of_lt hz (by decide)) (by simp) (fun x hx H' e R S h1 h2 => ?_) (fun D H2 nw e hD => ?_)
        · obtain ⟨c, hc, rfl⟩ := List.mem_map.mp hx
          walk_at "rd"
          exact .inl (rd_inS (h1 rfl H' .refl))
        · walk_at "rd"
          refine rd_all (bs := (sg z).map fun c => decide (c ∈ sg ls)) (SqL.of (by rw [hD, filtT, chrs, List.map_map, List.map_map]; rfl)) (q' _ e ?_)
          rw [decide_eq_true h1, decide_eq_true h2, List.all_map]
          rfl
      · exact q' H .refl (by rw [decide_eq_false h2, Bool.false_and, Bool.and_false])
    · walk_at "rd"
      exact q' H .refl (by rw [decide_eq_false h1, Bool.false_and])
theorem ok_is_id (D : Def K mg "is_id" s_is_id ["text"]) (M : Cst mg) (G_is_word : Ok P w K mg base 1 "is_word" ["text", "letters", "most"] (spWord T)) : Ok P w K mg base 2 "is_id" ["text"] (spTB T idB) := by
  refine D.ok sc_is_id (fun vs H Q E h => ?_) (fun cdv f A outer s H vs Q E hr h => ?_)
  · obtain ⟨z, rfl, _⟩ := h
    rfl
  · obtain ⟨z, rfl, hz, q⟩ := h
    refine ⟨_, (pss_one (ps_ret (pe_callO G_is_word (hr.mono (by decide)) (by rfl) (pa_cons (pv 0) (pa_cons (pe_glS (by rfl) M.c_LETTERS) (pa_cons (pe_glI (by rfl) M.c_MAX_ID) pa_nil)))))), ?_⟩
    walk_at "rd"
    exact ⟨z, _, _, rfl, hz, q⟩
theorem ok_is_label (D : Def K mg "is_label" s_is_label ["text"]) (M : Cst mg) (G_is_word : Ok P w K mg base 1 "is_word" ["text", "letters", "most"] (spWord T)) : Ok P w K mg base 2 "is_label" ["text"] (spTB T labelB) := by
  refine D.ok sc_is_label (fun vs H Q E h => ?_) (fun cdv f A outer s H vs Q E hr h => ?_)
  · obtain ⟨z, rfl, _⟩ := h
    rfl
  · obtain ⟨z, rfl, hz, q⟩ := h
    refine ⟨_, (pss_one (ps_ret (pe_callO G_is_word (hr.mono (by decide)) (by rfl) (pa_cons (pv 0) (pa_cons (pe_glS (by rfl) M.c_LETTERS) (pa_cons (pe_glI (by rfl) M.c_MAX_LABEL) pa_nil)))))), ?_⟩
    walk_at "rd"
    exact ⟨z, _, _, rfl, hz, q⟩
theorem ok_is_name (D : Def K mg "is_name" s_is_name ["text"]) (mb : ∀ x ∈ bltns, mg x = none) (M : Cst mg) (G_is_label : Ok P w K mg base 2 "is_label" ["text"] (spTB T labelB)) : Ok P w K mg base 3 "is_name" ["text"] (spTB T nameB) := by
  refine D.ok sc_is_name (fun vs H Q E h => ?_) (fun cdv f A outer s H vs Q E hr h => ?_)
  · obtain ⟨z, rfl, _⟩ := h
    rfl
  · obtain ⟨z, rfl, hz, q⟩ := h
    refine ⟨_, (pss_cons (ps_if (pt_not (pt_E (pe_callB (call_isiU K rfl) (by rfl) (mb _ (by decide)) (by decide +kernel) (pa_cons (pv 0) (pa_cons (pe_bltn (v := .ty "str") (u := .type "str") (by rfl) (mb _ (by decide)) (by decide +kernel) rfl) pa_nil))))) (pss_one (ps_ret pe_bl)) pss_nil)
   (pss_cons (ps_if (pt_cmpR (op_eqU K rfl hr.units) (pv 0) pe_str (nomark _)) (pss_one (ps_ret pe_bl)) pss_nil)
   (pss_cons (ps_set (i := 1) sc_is_name.nd rfl (.inl rfl) (pe_m1 PySem.F.slot_str_split PySem.F.type_str_split mt_splitU (pv 0) pe_str))
   (pss_one (ps_ret (pe_and (pe_cmpR op_le (pe_callB (call_lenU K rfl) (by rfl) (mb _ (by decide)) (by decide +kernel) (pa_cons (pv 1) pa_nil)) (pe_glI (by rfl) M.c_MAX_LABELS) (nomark _)) (pe_one (pe_callB (call_allU K rfl rfl) (by rfl) (mb _ (by decide)) (by decide +kernel) (pa_cons (pe_lc (own := [("part", 2)]) (g := gName 2) (tt := tYes) rfl sc_is_name.nd (pi_seq K rfl (pv 1)) (blkOk_by (N := N_is_name) (sc := defScope s_is_name) (by decide +kernel)) (fun _ _ _ _ _ => (pg_name (i := 2) sc_is_name.nd rfl (Or.inl rfl))) (fun _ _ _ _ _ => pts_nil) (fun _ _ _ _ _ => (pe_callO G_is_label (hr.mono (by decide)) (by rfl) (pa_cons (pv 2) pa_nil)))) pa_nil))))))))), ?_⟩
    have q' : ∀ (H' : Hp) {b : Bool}, Ext T [] H H' → nameB z = b → Q (.bl b) H' := fun H' b e h => by
      rw [← h]
      exact q H' e
    unfold nameB at q'
    walk_at "rd"
    refine rd_ite (fun h1 => ?_) (fun h1 => ?_)
    · walk_at "rd"
      exact q' H .refl (by rw [decide_eq_true (show z = dotS from h1), Bool.true_or])
    · walk_at "rd"
      refine rd_split (by decide +kernel) (by walk_at "sz") fun p np => ?_
      have hpl := parts_le z
      have hd0 : decide (z = dotS) = false := decide_eq_false h1
      have hpl2 : ((partsL z).map V.str).length < sizeLine := by
        rw [List.length_map]
        exact Nat.lt_of_le_of_lt (show _ ≤ 1001 by omega) (by decide)
      walk_at "rd"
      refine rd_ite (fun h2 => ?_) (fun h2 => ?_) <;> rw [List.length_map] at h2
      · walk_at "rd"
        refine lcg_list T [] (K := K) (SqL.of upd_same) (fun _ => true) (fun v => .bl (match v with | .str x => labelB x | _ => false)) hpl2 (by simp) (by simp) (fun x hx H' e R S h1 h2 => ?_) (fun D H2 nw e hD => ?_)
        · obtain ⟨y, hy, rfl⟩ := List.mem_map.mp hx
          walk_at "rd"
          exact ⟨y, rfl, Nat.le_trans (parts_mem hy) hz, fun H3 e3 => h1 rfl H3 e3⟩
        · walk_at "rd"
          refine rd_all (bs := (partsL z).map labelB) (SqL.of (by rw [hD, filtT, List.map_map, List.map_map]; rfl)) (q' _ ((Ext.new np).trans e) ?_)
          rw [hd0, decide_eq_true (show ((partsL z).length : Int) ≤ 4 from h2), List.all_map]
          rfl
      · exact q' _ (.new np) (by rw [hd0, decide_eq_false (show ¬ ((partsL z).length : Int) ≤ 4 from h2)]; rfl)
theorem dig_mem (c : Nat) : decide (c ∈ sg digitsS) = digB c := by
  have e : sg digitsS = [48, 49, 50, 51, 52, 53, 54, 55, 56, 57] := by decide +kernel
  rw [e]
  unfold digB
  rw [Bool.eq_iff_iff, decide_eq_true_eq, Bool.and_eq_true, decide_eq_true_eq, decide_eq_true_eq]
  simp only [List.mem_cons, List.not_mem_nil, or_false]
  omega
theorem word_num (z : Str) : wordB z digitsS 5 = (decide (1 ≤ (sg z).length) && (decide ((sg z).length ≤ 5) && (sg z).all digB)) := by
  unfold wordB
  rw [← sg_len z]
  congr 1
  · rw [Bool.eq_iff_iff, decide_eq_true_eq, decide_eq_true_eq]
    omega
  · congr 1
    · rw [Bool.eq_iff_iff, decide_eq_true_eq, decide_eq_true_eq]
      omega
    · congr 1
      funext c
      exact dig_mem c
theorem ok_is_number (D : Def K mg "is_number" s_is_number ["text"]) (mb : ∀ x ∈ bltns, mg x = none) (M : Cst mg) (G_is_word : Ok P w K mg base 1 "is_word" ["text", "letters", "most"] (spWord T)) : Ok P w K mg base 2 "is_number" ["text"] (spTB T fun z => numBL (sg z)) := by
  refine D.ok sc_is_number (fun vs H Q E h => ?_) (fun cdv f A outer s H vs Q E hr h => ?_)
  · obtain ⟨z, rfl, _⟩ := h
    rfl
  · obtain ⟨z, rfl, hz, q⟩ := h
    refine ⟨_, (pss_one (ps_ret (pe_and (pe_callO G_is_word (hr.mono (by decide)) (by rfl) (pa_cons (pv 0) (pa_cons (pe_glS (by rfl) M.c_DIGITS) (pa_cons (pe_glI (by rfl) M.c_MAX_DIGITS) pa_nil)))) (pe_one (pe_or (pe_cmpR (op_eqU K rfl hr.units) (pv 0) pe_str (nomark _)) (pe_one (pe_cmpR (op_neU K rfl hr.units) (pe_ix (ix_U K rfl) (pv 0) pe_int (fun _ _ => rfl)) pe_str (nomark _)))))))), ?_⟩
    walk_at "rd"
    refine ⟨z, digitsS, 5, rfl, hz, fun H1 e1 => ?_⟩
    have q' : ∀ {b : Bool}, numBL (sg z) = b → Q (.bl b) H1 := fun h => by
      rw [← h]
      exact q _ e1
    have eN : numBL (sg z) = (wordB z digitsS 5 && (decide (sg z = [48]) || !decide ((sg z).head? = some 48))) := by
      rw [word_num]
      rfl
    cases hw : wordB z digitsS 5 with
    | false =>
      walk_at "rd"
      exact q' (by rw [eN, hw, Bool.false_and])
    | true =>
      have hw2 := hw
      rw [word_num, Bool.and_eq_true, decide_eq_true_eq] at hw2
      have hz2 : z.length ≤ sizeLine := Nat.le_trans hz (by decide)
      obtain ⟨c, r, hcr⟩ : ∃ c r, sg z = c :: r := by
        cases hs : sg z with
        | nil =>
          rw [hs] at hw2
          exact absurd hw2.1 (by decide)
        | cons c r => exact ⟨c, r, rfl⟩
      have e0 : decide (z = Str.ofString "0") = decide (sg z = [48]) := by
        rw [Bool.eq_iff_iff, decide_eq_true_eq, decide_eq_true_eq]
        exact ⟨fun h => by rw [h]; decide +kernel, fun h => sg_inj (by rw [h]; decide +kernel)⟩
      have e1 : decide ((⟨#[c]⟩ : Str) = Str.ofString "0") = decide ((sg z).head? = some 48) := by
        rw [hcr, Bool.eq_iff_iff, decide_eq_true_eq, decide_eq_true_eq]
        constructor
        · intro h
          have := congrArg sg h
          have h2 : [c] = [48] := this.trans (by decide +kernel)
          rw [(List.cons.inj h2).1]
          rfl
        · intro h
          have h : some c = some 48 := h
          rw [Option.some.inj h]
          exact sg_inj (by decide +kernel)
      walk_at "rd"
      refine rd_ite (fun h1 => ?_) (fun h1 => ?_)
      · refine q' ?_
        rw [eN, hw, ← e0, decide_eq_true h1]
        rfl
      · walk_at "rd"
        refine rd_ixS hz2 (c := c) (by show atI (sg z) ((0 : Nat) : Int) = _; rw [hcr]; exact atI_nat rfl) ?_
        walk_at "rd"
        refine q' ?_
        rw [eN, hw, ← e0, ← e1, decide_eq_false h1]
        rfl
end

open PySem PySem.Spec PyProof.Rows L2
open PySem.W (EachIs)
local macro_rules | `(tactic| walk_at "rd1") => `(tactic| with_reducible refine rd_callS ?_)
local macro_rules | `(tactic| walk_at "rdn1") => `(tactic| with_reducible refine rd_callS ?_)
local macro_rules | `(tactic| walk_at "rd1") => `(tactic| with_reducible refine rd_lcS ?_)
local macro_rules | `(tactic| walk_at "rdn1") => `(tactic| with_reducible refine rd_lcS ?_)
theorem spl_memS (s : Nat) : ∀ (l acc : List Nat) (x : List Nat), x ∈ TL.spl [s] 0 acc l → x.length ≤ acc.length + l.length
  | [], acc, x, h => by
    have h : x ∈ [acc] := h
    rw [List.mem_singleton.mp h]
    omega
  | c :: r, acc, x, h => by
    by_cases hc : c = s
    · subst hc
      have e : TL.spl [c] 0 acc (c :: r) = acc :: TL.spl [c] 0 [] r := by
        rw [TL.spl, if_pos (by show (c == c && true) = true; simp)]
        rfl
      rw [e] at h
      rcases List.mem_cons.mp h with rfl | h
      · omega
      · have := spl_memS c r [] x h
        simp only [List.length_nil, List.length_cons] at this ⊢
        omega
    · have e : TL.spl [s] 0 acc (c :: r) = TL.spl [s] 0 (acc ++ [c]) r := by
        rw [TL.spl, if_neg]
        show ¬ (TL.pre [s] (c :: r) = true)
        unfold TL.pre
        simpa using hc
      rw [e] at h
      have := spl_memS s r _ x h
      simp only [List.length_append, List.length_cons, List.length_nil] at this ⊢
      omega
theorem split_memS {s : Nat} {d : Str} (hd : sg d = [s]) (hk : d.cps.all (· < 256) = true) {z x : Str} (h : x ∈ Txt.split z d) : x.length ≤ z.length := by
  have h1 := TL.split_spl z d (by rw [show TL.tl d = [s] from hd]; simp) (TL.kind_ok hk)
  rw [show TL.tl d = [s] from hd] at h1
  have h2 : sg x ∈ TL.spl [s] 0 [] (sg z) := by
    rw [show sg z = TL.tl z from rfl, ← h1]
    exact List.mem_map_of_mem h
  have h3 := spl_memS s _ _ _ h2
  rw [sg_len, sg_len] at h3
  simpa using h3
def numF (z : Str) : Bool := numBL (sg z)
def idsF (z : Str) : Bool := decide (z = Str.ofString "-") || (Txt.split z (Str.ofString ",")).all idB
section
variable {T : List (Addr × Str)} {P : Program} {w : World} {K : PySem.W.Frag} {mg : Str → Option Value} {base : Heap} {NF : Addr}
local macro_rules | `(tactic| walk_at "tr") => `(tactic| first
  | assumption
  | exact Ext.refl
  | ((with_reducible refine' Im.x (T := T) (H := ?trH) ?tra ?tre); (case tre => assumption); (case tra => walk_at "tr"))
  | ((with_reducible refine' Im.y (T := T) (H := ?trH) ?tra ?tre ?trt); (case tre => assumption); (case trt => walk_at "tr"); (case tra => walk_at "tr"))
  | ((with_reducible refine' ImAll.x (T := T) (H := ?trH) ?tra ?tre); (case tre => assumption); (case tra => walk_at "tr"))
  | ((with_reducible refine' ImAll.y (T := T) (H := ?trH) ?tra ?tre ?trt); (case tre => assumption); (case trt => walk_at "tr"); (case tra => walk_at "tr"))
  | ((with_reducible refine' Ls.x (T := T) (H := ?trH) ?tra ?tre); (case tre => assumption); (case tra => walk_at "tr"))
  | ((with_reducible refine' Ls.y (T := T) (H := ?trH) ?tra ?tre ?trn ?trt); (case tre => assumption); (case trt => walk_at "tr"); (case trn => walk_at "tr"); (case tra => walk_at "tr"))
  | ((with_reducible refine' SqP.x (T := T) (H := ?trH) ?tra ?tre); (case tre => assumption); (case tra => walk_at "tr"))
  | ((with_reducible refine' SqP.y (T := T) (H := ?trH) ?tra ?tre ?trt); (case tre => assumption); (case trt => walk_at "tr"); (case tra => walk_at "tr"))
  | ((with_reducible refine' StAt.x (T := T) (H := ?trH) ?tra ?tre); (case tre => assumption); (case tra => walk_at "tr"))
  | ((with_reducible refine' StAt.y (T := T) (H := ?trH) ?tra ?tre ?trt); (case tre => assumption); (case trt => walk_at "tr"); (case tra => walk_at "tr"))
  | ((with_reducible refine' Pools.ext0 (T := T) (H := ?trH) ?tra ?tre); (case tre => assumption); (case tra => walk_at "tr"))
  | ((with_reducible refine' Pools.ext (T := T) (H := ?trH) ?tra ?tre ?trt); (case tre => assumption); (case trt => walk_at "tr"); (case tra => walk_at "tr"))
  | ((with_reducible refine' CL.x (T := T) (H := ?trH) ?tra ?tre); (case tre => assumption); (case tra => walk_at "tr"))
  | ((with_reducible refine' CL.y (T := T) (H := ?trH) ?tra ?tre); (case tre => assumption); (case tra => walk_at "tr"))
  | ((with_reducible refine' Tape.ext (T := T) (H := ?trH) ?tra ?tre); (case tre => assumption); (case tra => walk_at "tr"))
  | ((with_reducible refine' lst.x (T := T) (H := ?trH) ?tra ?tre); (case tre => assumption); (case tra => walk_at "tr"))
  | ((with_reducible refine' lst.y (T := T) (H := ?trH) ?tra ?tre ?trn); (case tre => assumption); (case trn => walk_at "tr"); (case tra => walk_at "tr"))
  | ((with_reducible refine' tup.x (T := T) (H := ?trH) ?tra ?tre); (case tre => assumption); (case tra => walk_at "tr"))
  | ((with_reducible refine' tup.y (T := T) (H := ?trH) ?tra ?tre ?trt); (case tre => assumption); (case trt => walk_at "tr"); (case tra => walk_at "tr"))
  | ((with_reducible refine' frz.x (T := T) (H := ?trH) ?tra ?tre); (case tre => assumption); (case tra => walk_at "tr"))
  | ((with_reducible refine' frz.y (T := T) (H := ?trH) ?tra ?tre ?trt); (case tre => assumption); (case trt => walk_at "tr"); (case tra => walk_at "tr"))
  | ((with_reducible refine' Im.z (T := T) (H := ?trH) ?tra ?tre ?trt); (case tre => assumption); (case trt => assumption); (case tra => walk_at "tr"))
  | ((with_reducible refine' ImAll.z (T := T) (H := ?trH) ?tra ?tre ?trt); (case tre => assumption); (case trt => assumption); (case tra => walk_at "tr"))
  | ((with_reducible refine' StAt.z (T := T) (H := ?trH) ?tra ?tre ?trt); (case tre => assumption); (case trt => assumption); (case tra => walk_at "tr"))
  | ((with_reducible refine' SqP.z (T := T) (H := ?trH) ?tra ?tre ?trt); (case tre => assumption); (case trt => assumption); (case tra => walk_at "tr"))
  | ((with_reducible refine' tup.z (T := T) (H := ?trH) ?tra ?tre ?trt); (case tre => assumption); (case trt => assumption); (case tra => walk_at "tr"))
  | ((with_reducible refine' Ls.z (T := T) (H := ?trH) ?tra ?tre ?trt ?trn); (case tre => assumption); (case trt => assumption); (case trn => assumption); (case tra => walk_at "tr"))
  | ((with_reducible refine' lst.z (T := T) (H := ?trH) ?tra ?tre ?trn); (case tre => assumption); (case trn => assumption); (case tra => walk_at "tr"))
  | ((with_reducible refine' CL.z (T := T) (H := ?trH) ?tra ?tre ?trn); (case tre => assumption); (case trn => assumption); (case tra => walk_at "tr"))
  | ((with_reducible refine' Tape.ne1 (H := ?trH) ?trt ?trn); (case trn => assumption); (case trt => walk_at "tr"))
  | ((with_reducible refine' Ext.trans (H1 := ?trH) ?tra (Ext.any ?tre)); (case tre => assumption); (case tra => walk_at "tr"))
  | ((with_reducible refine' Ext.trans (H1 := ?trH) ?tra ?tre); (case tre => assumption); (case tra => walk_at "tr"))
  | ((with_reducible refine' Ext.back1 (T := T) (H1 := ?trH) ?tre ?trn ?tra); (case tra => assumption); (case trn => walk_at "tr"); (case tre => walk_at "tr"))
  | ((with_reducible refine' Ext.back0 (T := T) (H1 := ?trH) ?tre ?tra); (case tra => assumption); (case tre => walk_at "tr"))
  | ((with_reducible refine' SqT.of ?tra); (case tra => walk_at "tr"))
  | ((with_reducible refine' SqL.of ?tra); (case tra => walk_at "tr")))

/-- a reader of one word: some value, or no form -/
def spS (T : List (Addr × Str)) (NF : Addr) (f : Str → Bool) : Sp := fun vs H Q E => ∃ z : Str, vs = [.str z] ∧ z.length ≤ 200 ∧ (f z = true → ∀ v H', Ext T [] H H' → Q v H') ∧ (f z = false → ∀ H', Ext T [] H H' → E (.ref NF) none H')
theorem rd_intz {z : Str} {P : Int → Prop} (h : numF z = true) (q : ∀ n, P n) : ∃ (a : Str) (m : Int), [V.str z] = [.str a] ∧ PySem.intText? a = some m ∧ a.length ≤ 640 ∧ P m := by
  have h1 := h
  unfold numF numBL at h1
  rw [Bool.and_eq_true, Bool.and_eq_true, Bool.and_eq_true, decide_eq_true_eq, decide_eq_true_eq] at h1
  obtain ⟨⟨g1, g2, g3⟩, _⟩ := h1
  have e := SX.int_S (a := sg z) g3 (fun e => by rw [e] at g1; exact absurd g1 (by decide)) (by omega)
  have hz : SX.S (sg z) = z := S_sg z
  rw [hz] at e
  exact ⟨z, _, rfl, e, by rw [← sg_len]; omega, q _⟩
theorem ok_read_number (D : Def K mg "read_number" s_read_number ["word"]) (mb : ∀ x ∈ bltns, mg x = none) (X_NoForm : PlainX K mg "NoForm" NF) (G_is_number : Ok P w K mg base 2 "is_number" ["text"] (spTB T fun z => numBL (sg z))) : OkN P w K mg base 3 "read_number" ["word"] (spS T NF numF) := by
  refine D.okN sc_read_number (fun vs H Q E h => ?_) (fun cdv f A outer s H vs Q E hr h => ?_)
  · obtain ⟨n, rfl, _⟩ := h
    rfl
  · obtain ⟨z, rfl, hz, q, qe⟩ := h
    refine ⟨_, (pss_cons (ps_if (pt_not (pt_E (pe_callO G_is_number (hr.mono (by decide)) (by rfl) (pa_cons (pv 0) pa_nil)))) (pss_one (ps_raiseN rfl X_NoForm (L2N.takes_of rfl rfl rfl rfl))) pss_nil)
   (pss_one (ps_ret (pe_callTy call_int_str (by rfl) (mb _ (by decide)) (by decide +kernel) (pa_cons (pv 0) pa_nil))))), ?_⟩
    walk_at "rd"
    refine ⟨z, rfl, by omega, fun H1 e1 => ?_⟩
    cases hb : numF z with
    | true =>
      rw [show (fun z => numBL (sg z)) z = true from hb]
      walk_at "rd"
      refine rd_intz hb fun n => ?_
      walk_at "rd"
      exact q hb _ _ e1
    | false =>
      rw [show (fun z => numBL (sg z)) z = false from hb]
      walk_at "rd"
      exact qe hb _ e1
theorem ok_read_id (D : Def K mg "read_id" s_read_id ["word"]) (mb : ∀ x ∈ bltns, mg x = none) (X_NoForm : PlainX K mg "NoForm" NF) (G_is_id : Ok P w K mg base 2 "is_id" ["text"] (spTB T idB)) : OkN P w K mg base 3 "read_id" ["word"] (spS T NF idB) := by
  refine D.okN sc_read_id (fun vs H Q E h => ?_) (fun cdv f A outer s H vs Q E hr h => ?_)
  · obtain ⟨n, rfl, _⟩ := h
    rfl
  · obtain ⟨z, rfl, hz, q, qe⟩ := h
    refine ⟨_, (pss_cons (ps_if (pt_not (pt_E (pe_callO G_is_id (hr.mono (by decide)) (by rfl) (pa_cons (pv 0) pa_nil)))) (pss_one (ps_raiseN rfl X_NoForm (L2N.takes_of rfl rfl rfl rfl))) pss_nil)
   (pss_one (ps_ret (pv 0)))), ?_⟩
    walk_at "rd"
    refine ⟨z, rfl, by omega, fun H1 e1 => ?_⟩
    cases hb : idB z with
    | true =>
      walk_at "rd"
      exact q hb _ _ e1
    | false =>
      walk_at "rd"
      exact qe hb _ e1
theorem ok_read_name (D : Def K mg "read_name" s_read_name ["word"]) (mb : ∀ x ∈ bltns, mg x = none) (X_NoForm : PlainX K mg "NoForm" NF) (G_is_name : Ok P w K mg base 3 "is_name" ["text"] (spTB T nameB)) : OkN P w K mg base 4 "read_name" ["word"] (spS T NF nameB) := by
  refine D.okN sc_read_name (fun vs H Q E h => ?_) (fun cdv f A outer s H vs Q E hr h => ?_)
  · obtain ⟨n, rfl, _⟩ := h
    rfl
  · obtain ⟨z, rfl, hz, q, qe⟩ := h
    refine ⟨_, (pss_cons (ps_if (pt_not (pt_E (pe_callO G_is_name (hr.mono (by decide)) (by rfl) (pa_cons (pv 0) pa_nil)))) (pss_one (ps_raiseN rfl X_NoForm (L2N.takes_of rfl rfl rfl rfl))) pss_nil)
   (pss_one (ps_ret (pv 0)))), ?_⟩
    walk_at "rd"
    refine ⟨z, rfl, by omega, fun H1 e1 => ?_⟩
    cases hb : nameB z with
    | true =>
      walk_at "rd"
      exact q hb _ _ e1
    | false =>
      walk_at "rd"
      exact qe hb _ e1
theorem ok_read_ids (D : Def K mg "read_ids" s_read_ids ["word"]) (mb : ∀ x ∈ bltns, mg x = none) (G_read_id : OkN P w K mg base 3 "read_id" ["word"] (spS T NF idB)) : OkN P w K mg base 4 "read_ids" ["word"] (spS T NF idsF) := by
  refine D.okN sc_read_ids (fun vs H Q E h => ?_) (fun cdv f A outer s H vs Q E hr h => ?_)
  · obtain ⟨n, rfl, _⟩ := h
    rfl
  · obtain ⟨z, rfl, hz, q, qe⟩ := h
    refine ⟨_, (pss_cons (ps_if (pt_cmpR (op_eqU K rfl hr.units) (pv 0) pe_str (nomark _)) (pss_one (ps_ret (pe_tup pa_nil))) pss_nil)
   (pss_one (ps_ret (pe_callTy (call_tupU K rfl) (by rfl) (mb _ (by decide)) (by decide +kernel) (pa_cons (pe_lcN (own := [("part", 1)]) (g := gName 1) (tt := tYes) rfl rfl rfl (L2N.takes_of rfl rfl rfl rfl) sc_read_ids.nd (pi_seq K rfl (pe_m1 PySem.F.slot_str_split PySem.F.type_str_split mt_splitU (pv 0) pe_str)) (blkOk_by (N := N_read_ids) (sc := defScope s_read_ids) (by decide +kernel)) (fun _ _ _ _ _ _ => (pg_name (i := 1) sc_read_ids.nd rfl (Or.inl rfl))) (fun _ _ _ _ _ _ => pts_nil) (fun _ _ _ _ _ _ _ tk => (pe_callN G_read_id (hr.mono (by decide)) (by rfl) tk (pa_cons (pv 1) pa_nil)))) pa_nil))))), ?_⟩
    by_cases hd : z = Str.ofString "-"
    · walk_at "rd"
      rw [decide_eq_true hd]
      walk_at "rd"
      refine ⟨by walk_at "sz", fun pt npt => ?_⟩
      obtain ⟨npt, e2, hpt⟩ := alT (T := T) npt ([] : List V)
      exact q (by unfold idsF; rw [decide_eq_true hd]; rfl) _ _ e2
    · have hf : idsF z = (Txt.split z (Str.ofString ",")).all idB := by
        unfold idsF
        rw [decide_eq_false hd]
        rfl
      rw [hf] at q qe
      walk_at "rd"
      rw [decide_eq_false hd]
      walk_at "rd"
      refine rd_split (b := Str.ofString ",") (by decide +kernel) (Nat.le_trans (show z.length + 2 ≤ 1002 by omega) (by decide)) fun ps nps => ?_
      have hml : ∀ x ∈ Txt.split z (Str.ofString ","), x.length ≤ 200 := fun x hx => Nat.le_trans (split_memS (s := 44) (by decide +kernel) (by decide +kernel) hx) hz
      have hl : (Txt.split z (Str.ofString ",")).length ≤ 300 := Nat.le_trans (split_le _ _) (by omega)
      generalize Txt.split z (Str.ofString ",") = zs at q qe hml hl ⊢
      obtain ⟨nps, e2, hps⟩ := alL (T := T) nps (zs.map V.str)
      generalize upd H ps _ = H2 at e2 hps ⊢
      walk_at "rd"
      refine lcg_gen T (walk_list (xs := zs.map V.str)) (fun H' e => SqL.of (lst.x hps e)) (Nat.lt_of_le_of_lt (show (zs.map V.str).length ≤ 300 by rw [List.length_map]; exact hl) (by decide)) (fun i D H y => ∀ x, zs[i]? = some x → idB x = true) (fun i D H1 H2 y xs e hD h => h) (fun i x D H3 H4 hi x3 nD hD hx F go => ?_) (fun D ys H3 nD x3 hD hyl hys => ?_)
      · obtain ⟨rfl, hx⟩ := hx
        rw [List.getElem?_map] at hx
        obtain ⟨y, hy, rfl⟩ := Option.map_eq_some_iff.mp hx
        walk_at "rd"
        refine ⟨rfl, ?_⟩
        walk_at "rd"
        refine ⟨y, rfl, hml y (List.mem_of_getElem? hy), fun hb v H5 x5 => ?_, fun hb H5 x5 => ?_⟩
        · refine go _ _ (fun y2 hy2 => ?_) x5
          rw [hy] at hy2
          cases Option.some.inj hy2
          exact hb
        · refine qe ?_ _ (e2.trans (x3.trans x5))
          refine Bool.eq_false_iff.mpr fun h => ?_
          rw [List.all_eq_true.mp h y (List.mem_of_getElem? hy)] at hb
          cases hb
      · walk_at "rd"
        refine rd_tupL (SqL.of hD) fun pt npt => ?_
        obtain ⟨npt, e4, hpt⟩ := alT (T := T) npt ys
        refine q ?_ _ _ (e2.trans (x3.trans e4))
        refine List.all_eq_true.mpr fun x hx => ?_
        obtain ⟨i, hi, rfl⟩ := List.mem_iff_getElem.mp hx
        rw [List.length_map] at hyl
        exact hys i ys[i] (List.getElem?_eq_getElem (by omega)) _ (List.getElem?_eq_getElem hi)
/-- words as a text gives them -/
def WsOk (ws : List Str) : Prop := (∀ x ∈ ws, x.length ≤ 200 ∧ PyData.strOk x = true) ∧ ws.length ≤ 40
def spWs (T : List (Addr × Str)) (NF : Addr) (f : List Str → Bool) : Sp := fun vs H Q E => ∃ (a : Addr) (ws : List Str), vs = [.ref a] ∧ H a = some (.lst (ws.map V.str)) ∧ WsOk ws ∧ (f ws = true → ∀ v H', Ext T [] H H' → Q v H') ∧ (f ws = false → ∀ H', Ext T [] H H' → E (.ref NF) none H')
theorem ok_read_numbers (D : Def K mg "read_numbers" s_read_numbers ["words"]) (mb : ∀ x ∈ bltns, mg x = none) (G_read_number : OkN P w K mg base 3 "read_number" ["word"] (spS T NF numF)) : OkN P w K mg base 4 "read_numbers" ["words"] (spWs T NF fun ws => ws.all numF) := by
  refine D.okN sc_read_numbers (fun vs H Q E h => ?_) (fun cdv f A outer s H vs Q E hr h => ?_)
  · obtain ⟨a, ws, rfl, _⟩ := h
    rfl
  · obtain ⟨a, zs, rfl, ha, ⟨hw, hl⟩, q, qe⟩ := h
    refine ⟨_, (pss_one (ps_ret (pe_callTy (call_tupU K rfl) (by rfl) (mb _ (by decide)) (by decide +kernel) (pa_cons (pe_lcN (own := [("word", 1)]) (g := gName 1) (tt := tYes) rfl rfl rfl (L2N.takes_of rfl rfl rfl rfl) sc_read_numbers.nd (pi_seq K rfl (pv 0)) (blkOk_by (N := N_read_numbers) (sc := defScope s_read_numbers) (by decide +kernel)) (fun _ _ _ _ _ _ => (pg_name (i := 1) sc_read_numbers.nd rfl (Or.inl rfl))) (fun _ _ _ _ _ _ => pts_nil) (fun _ _ _ _ _ _ _ tk => (pe_callN G_read_number (hr.mono (by decide)) (by rfl) tk (pa_cons (pv 1) pa_nil)))) pa_nil)))), ?_⟩
    walk_at "rd"
    refine lcg_gen T (walk_list (xs := zs.map V.str)) (fun H' e => SqL.of (lst.x ha e)) (Nat.lt_of_le_of_lt (show (zs.map V.str).length ≤ 300 by rw [List.length_map]; omega) (by decide)) (fun i D H y => ∀ x, zs[i]? = some x → numF x = true) (fun i D H1 H2 y xs e hD h => h) (fun i x D H3 H4 hi x3 nD hD hx F go => ?_) (fun D ys H3 nD x3 hD hyl hys => ?_)
    · obtain ⟨rfl, hx⟩ := hx
      rw [List.getElem?_map] at hx
      obtain ⟨y, hy, rfl⟩ := Option.map_eq_some_iff.mp hx
      walk_at "rd"
      refine ⟨rfl, ?_⟩
      walk_at "rd"
      refine ⟨y, rfl, (hw y (List.mem_of_getElem? hy)).1, fun hb v H5 x5 => ?_, fun hb H5 x5 => ?_⟩
      · refine go _ _ (fun y2 hy2 => ?_) x5
        rw [hy] at hy2
        cases Option.some.inj hy2
        exact hb
      · refine qe ?_ _ (x3.trans x5)
        refine Bool.eq_false_iff.mpr fun h => ?_
        rw [List.all_eq_true.mp h y (List.mem_of_getElem? hy)] at hb
        cases hb
    · walk_at "rd"
      refine rd_tupL (SqL.of hD) fun pt npt => ?_
      obtain ⟨npt, e4, hpt⟩ := alT (T := T) npt ys
      refine q ?_ _ _ (x3.trans e4)
      refine List.all_eq_true.mpr fun x hx => ?_
      obtain ⟨i, hi, rfl⟩ := List.mem_iff_getElem.mp hx
      rw [List.length_map] at hyl
      exact hys i ys[i] (List.getElem?_eq_getElem (by omega)) _ (List.getElem?_eq_getElem hi)
end

open PySem PySem.Spec PyProof.Rows L2
open PySem.W (EachIs)
section
variable {T : List (Addr × Str)} {P : Program} {w : World} {K : PySem.W.Frag} {mg : Str → Option Value} {base : Heap} {NF : Addr}
local macro_rules | `(tactic| walk_at "tr") => `(tactic| first
  | assumption
  | exact Ext.refl
  | ((with_reducible refine' Im.x (T := T) (H := ?trH) ?tra ?tre); (case tre => assumption); (case tra => walk_at "tr"))
  | ((with_reducible refine' Im.y (T := T) (H := ?trH) ?tra ?tre ?trt); (case tre => assumption); (case trt => walk_at "tr"); (case tra => walk_at "tr"))
  | ((with_reducible refine' ImAll.x (T := T) (H := ?trH) ?tra ?tre); (case tre => assumption); (case tra => walk_at "tr"))
  | ((with_reducible refine' ImAll.y (T := T) (H := ?trH) ?tra ?tre ?trt); (case tre => assumption); (case trt => walk_at "tr"); (case tra => walk_at "tr"))
  | ((with_reducible refine' Ls.x (T := T) (H := ?trH) ?tra ?tre); (case tre => assumption); (case tra => walk_at "tr"))
  | ((with_reducible refine' Ls.y (T := T) (H := ?trH) ?tra ?tre ?trn ?trt); (case tre => assumption); (case trt => walk_at "tr"); (case trn => walk_at "tr"); (case tra => walk_at "tr"))
  | ((with_reducible refine' SqP.x (T := T) (H := ?trH) ?tra ?tre); (case tre => assumption); (case tra => walk_at "tr"))
  | ((with_reducible refine' SqP.y (T := T) (H := ?trH) ?tra ?tre ?trt); (case tre => assumption); (case trt => walk_at "tr"); (case tra => walk_at "tr"))
  | ((with_reducible refine' StAt.x (T := T) (H := ?trH) ?tra ?tre); (case tre => assumption); (case tra => walk_at "tr"))
  | ((with_reducible refine' StAt.y (T := T) (H := ?trH) ?tra ?tre ?trt); (case tre => assumption); (case trt => walk_at "tr"); (case tra => walk_at "tr"))
  | ((with_reducible refine' Pools.ext0 (T := T) (H := ?trH) ?tra ?tre); (case tre => assumption); (case tra => walk_at "tr"))
  | ((with_reducible refine' Pools.ext (T := T) (H := ?trH) ?tra ?tre ?trt); (case tre => assumption); (case trt => walk_at "tr"); (case tra => walk_at "tr"))
  | ((with_reducible refine' CL.x (T := T) (H := ?trH) ?tra ?tre); (case tre => assumption); (case tra => walk_at "tr"))
  | ((with_reducible refine' CL.y (T := T) (H := ?trH) ?tra ?tre); (case tre => assumption); (case tra => walk_at "tr"))
  | ((with_reducible refine' Tape.ext (T := T) (H := ?trH) ?tra ?tre); (case tre => assumption); (case tra => walk_at "tr"))
  | ((with_reducible refine' lst.x (T := T) (H := ?trH) ?tra ?tre); (case tre => assumption); (case tra => walk_at "tr"))
  | ((with_reducible refine' lst.y (T := T) (H := ?trH) ?tra ?tre ?trn); (case tre => assumption); (case trn => walk_at "tr"); (case tra => walk_at "tr"))
  | ((with_reducible refine' tup.x (T := T) (H := ?trH) ?tra ?tre); (case tre => assumption); (case tra => walk_at "tr"))
  | ((with_reducible refine' tup.y (T := T) (H := ?trH) ?tra ?tre ?trt); (case tre => assumption); (case trt => walk_at "tr"); (case tra => walk_at "tr"))
  | ((with_reducible refine' frz.x (T := T) (H := ?trH) ?tra ?tre); (case tre => assumption); (case tra => walk_at "tr"))
  | ((with_reducible refine' frz.y (T := T) (H := ?trH) ?tra ?tre ?trt); (case tre => assumption); (case trt => walk_at "tr"); (case tra => walk_at "tr"))
  | ((with_reducible refine' Im.z (T := T) (H := ?trH) ?tra ?tre ?trt); (case tre => assumption); (case trt => assumption); (case tra => walk_at "tr"))
  | ((with_reducible refine' ImAll.z (T := T) (H := ?trH) ?tra ?tre ?trt); (case tre => assumption); (case trt => assumption); (case tra => walk_at "tr"))
  | ((with_reducible refine' StAt.z (T := T) (H := ?trH) ?tra ?tre ?trt); (case tre => assumption); (case trt => assumption); (case tra => walk_at "tr"))
  | ((with_reducible refine' SqP.z (T := T) (H := ?trH) ?tra ?tre ?trt); (case tre => assumption); (case trt => assumption); (case tra => walk_at "tr"))
  | ((with_reducible refine' tup.z (T := T) (H := ?trH) ?tra ?tre ?trt); (case tre => assumption); (case trt => assumption); (case tra => walk_at "tr"))
  | ((with_reducible refine' Ls.z (T := T) (H := ?trH) ?tra ?tre ?trt ?trn); (case tre => assumption); (case trt => assumption); (case trn => assumption); (case tra => walk_at "tr"))
  | ((with_reducible refine' lst.z (T := T) (H := ?trH) ?tra ?tre ?trn); (case tre => assumption); (case trn => assumption); (case tra => walk_at "tr"))
  | ((with_reducible refine' CL.z (T := T) (H := ?trH) ?tra ?tre ?trn); (case tre => assumption); (case trn => assumption); (case tra => walk_at "tr"))
  | ((with_reducible refine' Tape.ne1 (H := ?trH) ?trt ?trn); (case trn => assumption); (case trt => walk_at "tr"))
  | ((with_reducible refine' Ext.trans (H1 := ?trH) ?tra (Ext.any ?tre)); (case tre => assumption); (case tra => walk_at "tr"))
  | ((with_reducible refine' Ext.trans (H1 := ?trH) ?tra ?tre); (case tre => assumption); (case tra => walk_at "tr"))
  | ((with_reducible refine' Ext.back1 (T := T) (H1 := ?trH) ?tre ?trn ?tra); (case tra => assumption); (case trn => walk_at "tr"); (case tre => walk_at "tr"))
  | ((with_reducible refine' Ext.back0 (T := T) (H1 := ?trH) ?tre ?tra); (case tra => assumption); (case tre => walk_at "tr"))
  | ((with_reducible refine' SqT.of ?tra); (case tra => walk_at "tr"))
  | ((with_reducible refine' SqL.of ?tra); (case tra => walk_at "tr")))

theorem strs_imT {H : Hp} : ∀ {ds : List Str}, (∀ x ∈ ds, PyData.strOk x = true) → ImAll H (ds.map V.str) (ds.map .str)
  | [], _ => .nil
  | x :: r, h => .cons (.str _ (h x List.mem_cons_self)) (strs_imT fun y hy => h y (List.mem_cons_of_mem _ hy))
theorem rd_eqLsG {H : Hp} {Q : VK} {a b : Addr} {ds es : List PyData} (ha : Ls H a ds) (hb : Ls H b es) (hd : PyData.depth (.list ds) ≤ 64) (he : PyData.depth (.list es) ≤ 64) {r : Bool} (hr : ds = es ↔ r = true) (q : Q (.bl r) H) : rEqU K (.ref a) (.ref b) H Q := by
  obtain ⟨xs, h1, h2⟩ := ha
  obtain ⟨ys, h3, h4⟩ := hb
  refine .inr ⟨_, _, Ls.dp ⟨xs, h1, h2⟩, Ls.dp ⟨ys, h3, h4⟩, ?_, ?_, ?_⟩
  · unfold SeqAt.shaped
    rw [show PyData.canLay0 (.list ds) = true from ImAll.lay ds _ h2, decide_eq_true hd]
    rfl
  · unfold SeqAt.shaped
    rw [show PyData.canLay0 (.list es) = true from ImAll.lay es _ h4, decide_eq_true he]
    rfl
  · rw [show PyData.eqv (.list ds) (.list es) = r from bool_of ((ImAll.eqv _ _ _ _ h2 h4).trans hr)]
    exact q
theorem dep_lstr (ls : List Str) : PyData.depth (.list (ls.map PyData.str)) ≤ 64 := by
  show PyData.depthAll (ls.map PyData.str) + 1 ≤ 64
  rw [dep_strs0]
  decide
theorem ls_str {H : Hp} {a : Addr} {zs : List Str} (h : H a = some (.lst (zs.map V.str))) (hz : ∀ z ∈ zs, PyData.strOk z = true) : Ls H a (zs.map .str) := ⟨_, h, strs_imT hz⟩
theorem strs_eq {xs ys : List Str} : xs.map PyData.str = ys.map .str ↔ decide (xs = ys) = true := by
  rw [decide_eq_true_eq]
  refine ⟨fun h => ?_, fun h => by rw [h]⟩
  induction xs generalizing ys with
  | nil =>
    cases ys with
    | nil => rfl
    | cons y r => cases h
  | cons x r ih =>
    cases ys with
    | nil => cases h
    | cons y t =>
      injection h with h1 h2
      rw [PyData.str.inj h1, ih h2]
def slotF : List Str → Bool
  | [a, b] => decide (a ∈ [Str.ofString "keys", Str.ofString "link", Str.ofString "hosts"]) && nameB b
  | [a, b, c] => decide (a = Str.ofString "set") && (nameB b && idB c)
  | _ => false
def spSlot (T : List (Addr × Str)) (NF : Addr) : Sp := fun vs H Q E => ∃ (a : Addr) (ws : List Str), vs = [.ref a] ∧ H a = some (.lst (ws.map V.str)) ∧ WsOk ws ∧
  (slotF ws = true → ∀ p x y r H', ws = x :: y → Ext T [] H H' → H' p = some (.tup (.str x :: r)) → Q (.ref p) H') ∧ (slotF ws = false → ∀ H', Ext T [] H H' → E (.ref NF) none H')
theorem ok_read_slot (D : Def K mg "read_slot" s_read_slot ["words"]) (mb : ∀ x ∈ bltns, mg x = none) (X_NoForm : PlainX K mg "NoForm" NF) (G_read_name : OkN P w K mg base 4 "read_name" ["word"] (spS T NF nameB)) (G_read_id : OkN P w K mg base 3 "read_id" ["word"] (spS T NF idB)) : OkN P w K mg base 5 "read_slot" ["words"] (spSlot T NF) := by
  refine D.okN sc_read_slot (fun vs H Q E h => ?_) (fun cdv f A outer s H vs Q E hr h => ?_)
  · obtain ⟨a, s, rfl, _⟩ := h
    rfl
  · obtain ⟨a, ws, rfl, ha, ⟨hw, hl⟩, q, qe⟩ := h
    refine ⟨_, (pss_cons (ps_if (PW.pt (pw_and (pt_cmpR (op_eqU K rfl hr.units) (pe_callB (call_lenU K rfl) (by rfl) (mb _ (by decide)) (by decide +kernel) (pa_cons (pv 0) pa_nil)) pe_int (nomark _)) (pw_and1 (pt_cmpR (op_inW K rfl (Room.units65 hr)) (pe_ix (ix_U K rfl) (pv 0) pe_int (fun _ _ => rfl)) (pe_tup (pa_cons pe_str (pa_cons pe_str (pa_cons pe_str pa_nil)))) rfl)))) (pss_one (ps_ret (pe_tup (pa_cons (pe_ix (ix_U K rfl) (pv 0) pe_int (fun _ _ => rfl)) (pa_cons (pe_callN G_read_name (hr.mono (by decide)) (by rfl) (L2N.takes_of rfl rfl rfl rfl) (pa_cons (pe_ix (ix_U K rfl) (pv 0) pe_int (fun _ _ => rfl)) pa_nil)) pa_nil))))) pss_nil)
   (pss_cons (ps_if (PW.pt (pw_and (pt_cmpR (op_eqU K rfl hr.units) (pe_callB (call_lenU K rfl) (by rfl) (mb _ (by decide)) (by decide +kernel) (pa_cons (pv 0) pa_nil)) pe_int (nomark _)) (pw_and1 (pt_cmpR (op_eqU K rfl hr.units) (pe_ix (ix_U K rfl) (pv 0) pe_int (fun _ _ => rfl)) pe_str (nomark _))))) (pss_one (ps_ret (pe_tup (pa_cons pe_str (pa_cons (pe_callN G_read_name (hr.mono (by decide)) (by rfl) (L2N.takes_of rfl rfl rfl rfl) (pa_cons (pe_ix (ix_U K rfl) (pv 0) pe_int (fun _ _ => rfl)) pa_nil)) (pa_cons (pe_callN G_read_id (hr.mono (by decide)) (by rfl) (L2N.takes_of rfl rfl rfl rfl) (pa_cons (pe_ix (ix_U K rfl) (pv 0) pe_int (fun _ _ => rfl)) pa_nil)) pa_nil)))))) pss_nil)
   (pss_one (ps_raiseN rfl X_NoForm (L2N.takes_of rfl rfl rfl rfl))))), ?_⟩
    have hml : (ws.map V.str).length ≤ 40 := by rw [List.length_map]; exact hl
    have hml2 : ((ws.map V.str).length : Int) = (ws.length : Int) := by rw [List.length_map]
    by_cases h2 : ws.length = 2
    · obtain ⟨x, y, rfl⟩ : ∃ x y, ws = [x, y] := by
        match ws, h2 with
        | [x, y], _ => exact ⟨x, y, rfl⟩
      have ha : H a = some (.lst [V.str x, V.str y]) := ha
      walk_at "rd"
      refine rd_ite (fun c => ?_) (fun c => absurd (show (([V.str x, V.str y].length : Nat) : Int) = 2 from rfl) c)
      walk_at "rd"
      refine ⟨by walk_at "sz", fun pt npt => ?_⟩
      obtain ⟨npt, x1, hpt⟩ := alT (T := T) npt [V.str (Str.ofString "keys"), .str (Str.ofString "link"), .str (Str.ofString "hosts")]
      have ha := lst.x ha x1
      generalize upd H pt _ = H1 at x1 hpt ha ⊢
      refine rd_inWt (zs := [Str.ofString "keys", Str.ofString "link", Str.ofString "hosts"]) (SqT.of hpt) ?_
      by_cases hwd : x ∈ [Str.ofString "keys", Str.ofString "link", Str.ofString "hosts"]
      · have hf : slotF [x, y] = nameB y := by
          show (decide (x ∈ _) && nameB y) = nameB y
          rw [decide_eq_true hwd]
          rfl
        rw [hf] at q qe
        rw [decide_eq_true hwd]
        walk_at "rd"
        refine ⟨y, rfl, (hw y (by simp)).1, fun hb v H2 x2 => ?_, fun hb H2 x2 => qe hb _ (x1.trans x2)⟩
        walk_at "rd"
        refine ⟨by walk_at "sz", fun pr npr => ?_⟩
        obtain ⟨npr, x3, hpr⟩ := alT (T := T) npr [V.str x, v]
        exact q hb pr x [y] [v] _ rfl (x1.trans (x2.trans x3)) hpr
      · have hf : slotF [x, y] = false := by
          show (decide (x ∈ _) && nameB y) = false
          rw [decide_eq_false hwd]
          rfl
        rw [decide_eq_false hwd]
        walk_at "rd"
        refine rd_ite (fun c => absurd c (by show ¬ ((2 : Nat) : Int) = 3; decide)) (fun c => ?_)
        walk_at "rd"
        exact qe hf _ x1
    · walk_at "rd"
      refine rd_ite (fun c => absurd c (by rw [hml2]; omega)) (fun c => ?_)
      walk_at "rd"
      by_cases h3 : ws.length = 3
      · obtain ⟨x, y, z, rfl⟩ : ∃ x y z, ws = [x, y, z] := by
          match ws, h3 with
          | [x, y, z], _ => exact ⟨x, y, z, rfl⟩
        have ha : H a = some (.lst [V.str x, V.str y, V.str z]) := ha
        refine rd_ite (fun c => ?_) (fun c => absurd (show (([V.str x, V.str y, V.str z].length : Nat) : Int) = 3 from rfl) c)
        walk_at "rd"
        by_cases hwd : x = Str.ofString "set"
        · have hf : slotF [x, y, z] = (nameB y && idB z) := by
            show (decide (x = _) && (nameB y && idB z)) = _
            rw [decide_eq_true hwd]
            rfl
          rw [hf] at q qe
          rw [decide_eq_true hwd]
          walk_at "rd"
          refine ⟨y, rfl, (hw y (by simp)).1, fun hb v H2 x2 => ?_, fun hb H2 x2 => qe (by rw [hb]; rfl) _ x2⟩
          have ha := lst.x ha x2
          walk_at "rd"
          refine ⟨z, rfl, (hw z (by simp)).1, fun hc u H3 x3 => ?_, fun hc H3 x3 => qe (by rw [hb, hc]; rfl) _ (x2.trans x3)⟩
          walk_at "rd"
          refine ⟨by walk_at "sz", fun pr npr => ?_⟩
          obtain ⟨npr, x4, hpr⟩ := alT (T := T) npr [V.str (Str.ofString "set"), v, u]
          exact q (by rw [hb, hc]; rfl) pr x [y, z] [v, u] _ rfl (x2.trans (x3.trans x4)) (by rw [hwd]; exact hpr)
        · have hf : slotF [x, y, z] = false := by
            show (decide (x = _) && (nameB y && idB z)) = _
            rw [decide_eq_false hwd]
            rfl
          rw [decide_eq_false hwd]
          walk_at "rd"
          exact qe hf _ .refl
      · refine rd_ite (fun c => absurd c (by rw [hml2]; omega)) (fun c => ?_)
        walk_at "rd"
        refine qe ?_ _ .refl
        match ws, h2, h3 with
        | [], _, _ => rfl
        | [_], _, _ => rfl
        | [_, _], h, _ => exact absurd rfl h
        | [_, _, _], _, h => exact absurd rfl h
        | _ :: _ :: _ :: _ :: _, _, _ => rfl
def szF (ws : List Str) : Nat := if ws.take 1 = [Str.ofString "set"] then 3 else 2
def spSplit (T : List (Addr × Str)) (NF : Addr) : Sp := fun vs H Q E => ∃ (a : Addr) (ws : List Str), vs = [.ref a] ∧ H a = some (.lst (ws.map V.str)) ∧ WsOk ws ∧
  (slotF (ws.take (szF ws)) = true → ∀ t p q x y r H', ws = x :: y → Ext T [] H H' → H' t = some (.tup [.ref p, .ref q]) → H' p = some (.tup (.str x :: r)) → H' q = some (.lst ((ws.drop (szF ws)).map V.str)) → Q (.ref t) H') ∧ (slotF (ws.take (szF ws)) = false → ∀ H', Ext T [] H H' → E (.ref NF) none H')
theorem wsOk_take {ws : List Str} (h : WsOk ws) (n : Nat) : WsOk (ws.take n) := ⟨fun x hx => h.1 x (List.mem_of_mem_take hx), by rw [List.length_take]; have := h.2; omega⟩
theorem wsOk_drop {ws : List Str} (h : WsOk ws) (n : Nat) : WsOk (ws.drop n) := ⟨fun x hx => h.1 x (List.mem_of_mem_drop hx), by rw [List.length_drop]; have := h.2; omega⟩
theorem ok_split_slot (D : Def K mg "split_slot" s_split_slot ["words"]) (G_read_slot : OkN P w K mg base 5 "read_slot" ["words"] (spSlot T NF)) : OkN P w K mg base 6 "split_slot" ["words"] (spSplit T NF) := by
  refine D.okN sc_split_slot (fun vs H Q E h => ?_) (fun cdv f A outer s H vs Q E hr h => ?_)
  · obtain ⟨a, ws, rfl, _⟩ := h
    rfl
  · obtain ⟨a, ws, rfl, ha, hw, q, qe⟩ := h
    refine ⟨_, (pss_cons (ps_set (i := 1) sc_split_slot.nd rfl (.inl rfl) (pe_ifExp (pt_cmpR (op_eqU K rfl hr.units) (pe_slice (sl_U K rfl) (pv 0) po_none (po_some pe_int)) (pe_lst (pa_cons pe_str pa_nil)) (nomark _)) pe_int pe_int))
   (pss_one (ps_ret (pe_tup (pa_cons (pe_callN G_read_slot (hr.mono (by decide)) (by rfl) (L2N.takes_of rfl rfl rfl rfl) (pa_cons (pe_slice (sl_U K rfl) (pv 0) po_none (po_some (pv 1))) pa_nil)) (pa_cons (pe_slice (sl_U K rfl) (pv 0) (po_some (pv 1)) po_none) pa_nil)))))), ?_⟩
    have hml : (ws.map V.str).length ≤ 40 := by rw [List.length_map]; exact hw.2
    refine rd_cut (fun σ' H' => ∃ n : Nat, σ' = [some (.ref a), some (.int (n : Int))] ∧ Ext T [] H H' ∧ n = szF ws) (fun nx' hnx => ?_) (fun σ' H' h => ?_)
    · walk_at "rd"
      refine rd_slL (SqL.of ha) fun p1 np1 => ?_
      have ec : cutV (ws.map V.str) none (some 1) = (ws.take 1).map V.str := by
        rw [cutV_to _ (by decide), List.map_take]
        rfl
      rw [ec]
      obtain ⟨np1, x1, hp1⟩ := alL (T := T) np1 ((ws.take 1).map V.str)
      generalize upd H p1 _ = H1 at x1 hp1 ⊢
      walk_at "rd"
      refine ⟨by walk_at "sz", fun p2 np2 => ?_⟩
      obtain ⟨np2, x2, hp2⟩ := alL (T := T) np2 [V.str (Str.ofString "set")]
      have hp1 := lst.x hp1 x2
      generalize upd H1 p2 _ = H2 at x2 hp1 hp2 ⊢
      refine rd_eqLsG (ls_str hp1 fun z hz => (hw.1 z (List.mem_of_mem_take hz)).2) (ls_str (zs := [Str.ofString "set"]) hp2 (by intro z hz; rw [List.mem_singleton.mp hz]; decide +kernel)) (dep_lstr _) (dep_lstr [Str.ofString "set"]) strs_eq ?_
      walk_at "rd"
      refine rd_ite (fun c => ?_) (fun c => ?_)
      · walk_at "rd"
        exact hnx _ _ ⟨3, rfl, x1.trans x2, (if_pos c).symm⟩
      · walk_at "rd"
        exact hnx _ _ ⟨2, rfl, x1.trans x2, (if_neg c).symm⟩
    · obtain ⟨n, rfl, x1, hn⟩ := h
      rw [← hn] at q qe
      have hn1 : 0 < n := by
        rw [hn]
        unfold szF
        split <;> decide
      have ha := lst.x ha x1
      walk_at "rd"
      refine rd_slL (SqL.of ha) fun p1 np1 => ?_
      have ec : cutV (ws.map V.str) none (some ((n : Nat) : Int)) = (ws.take n).map V.str := by
        rw [cutV_to _ (by omega), Int.toNat_natCast, List.map_take]
      rw [ec]
      obtain ⟨np1, x2, hp1⟩ := alL (T := T) np1 ((ws.take n).map V.str)
      have ha := lst.x ha x2
      generalize upd H' p1 _ = H1 at x2 hp1 ha ⊢
      walk_at "rd"
      refine ⟨p1, ws.take n, rfl, hp1, wsOk_take hw n, fun hb p x y r H2 ex x3 hp => ?_, fun hb H2 x3 => qe hb _ (x1.trans (x2.trans x3))⟩
      obtain ⟨y2, ey⟩ : ∃ y2, ws = x :: y2 := by
        cases ws with
        | nil => simp at ex
        | cons z r2 =>
          obtain ⟨m, rfl⟩ : ∃ m, n = m + 1 := ⟨n - 1, by omega⟩
          rw [List.take_succ_cons] at ex
          injection ex with e1 e2
          exact ⟨r2, by rw [e1]⟩
      have ha := lst.x ha x3
      walk_at "rd"
      refine rd_slL (SqL.of ha) fun p2 np2 => ?_
      have ec : cutV (ws.map V.str) (some ((n : Nat) : Int)) none = (ws.drop n).map V.str := by
        rw [cutV_strs _ (by omega), Int.toNat_natCast]
      rw [ec]
      obtain ⟨np2, x4, hp2⟩ := alL (T := T) np2 ((ws.drop n).map V.str)
      have hp := tup.x hp x4
      generalize upd H2 p2 _ = H3 at x4 hp2 hp ⊢
      walk_at "rd"
      refine ⟨by walk_at "sz", fun pr npr => ?_⟩
      obtain ⟨npr, x5, hpr⟩ := alT (T := T) npr [V.ref p, .ref p2]
      exact q hb pr p p2 x y2 r _ ey (x1.trans (x2.trans (x3.trans (x4.trans x5)))) hpr (tup.x hp x5) (lst.x hp2 x5)
end

open PySem PySem.Spec PyProof.Rows L2
open PySem.W (EachIs)
section
variable {T : List (Addr × Str)} {P : Program} {w : World} {K : PySem.W.Frag} {mg : Str → Option Value} {base : Heap} {NF : Addr}
local macro_rules | `(tactic| walk_at "tr") => `(tactic| first
  | assumption
  | exact Ext.refl
  | ((with_reducible refine' Im.x (T := T) (H := ?trH) ?tra ?tre); (case tre => assumption); (case tra => walk_at "tr"))
  | ((with_reducible refine' Im.y (T := T) (H := ?trH) ?tra ?tre ?trt); (case tre => assumption); (case trt => walk_at "tr"); (case tra => walk_at "tr"))
  | ((with_reducible refine' ImAll.x (T := T) (H := ?trH) ?tra ?tre); (case tre => assumption); (case tra => walk_at "tr"))
  | ((with_reducible refine' ImAll.y (T := T) (H := ?trH) ?tra ?tre ?trt); (case tre => assumption); (case trt => walk_at "tr"); (case tra => walk_at "tr"))
  | ((with_reducible refine' Ls.x (T := T) (H := ?trH) ?tra ?tre); (case tre => assumption); (case tra => walk_at "tr"))
  | ((with_reducible refine' Ls.y (T := T) (H := ?trH) ?tra ?tre ?trn ?trt); (case tre => assumption); (case trt => walk_at "tr"); (case trn => walk_at "tr"); (case tra => walk_at "tr"))
  | ((with_reducible refine' SqP.x (T := T) (H := ?trH) ?tra ?tre); (case tre => assumption); (case tra => walk_at "tr"))
  | ((with_reducible refine' SqP.y (T := T) (H := ?trH) ?tra ?tre ?trt); (case tre => assumption); (case trt => walk_at "tr"); (case tra => walk_at "tr"))
  | ((with_reducible refine' StAt.x (T := T) (H := ?trH) ?tra ?tre); (case tre => assumption); (case tra => walk_at "tr"))
  | ((with_reducible refine' StAt.y (T := T) (H := ?trH) ?tra ?tre ?trt); (case tre => assumption); (case trt => walk_at "tr"); (case tra => walk_at "tr"))
  | ((with_reducible refine' Pools.ext0 (T := T) (H := ?trH) ?tra ?tre); (case tre => assumption); (case tra => walk_at "tr"))
  | ((with_reducible refine' Pools.ext (T := T) (H := ?trH) ?tra ?tre ?trt); (case tre => assumption); (case trt => walk_at "tr"); (case tra => walk_at "tr"))
  | ((with_reducible refine' CL.x (T := T) (H := ?trH) ?tra ?tre); (case tre => assumption); (case tra => walk_at "tr"))
  | ((with_reducible refine' CL.y (T := T) (H := ?trH) ?tra ?tre); (case tre => assumption); (case tra => walk_at "tr"))
  | ((with_reducible refine' Tape.ext (T := T) (H := ?trH) ?tra ?tre); (case tre => assumption); (case tra => walk_at "tr"))
  | ((with_reducible refine' lst.x (T := T) (H := ?trH) ?tra ?tre); (case tre => assumption); (case tra => walk_at "tr"))
  | ((with_reducible refine' lst.y (T := T) (H := ?trH) ?tra ?tre ?trn); (case tre => assumption); (case trn => walk_at "tr"); (case tra => walk_at "tr"))
  | ((with_reducible refine' tup.x (T := T) (H := ?trH) ?tra ?tre); (case tre => assumption); (case tra => walk_at "tr"))
  | ((with_reducible refine' tup.y (T := T) (H := ?trH) ?tra ?tre ?trt); (case tre => assumption); (case trt => walk_at "tr"); (case tra => walk_at "tr"))
  | ((with_reducible refine' frz.x (T := T) (H := ?trH) ?tra ?tre); (case tre => assumption); (case tra => walk_at "tr"))
  | ((with_reducible refine' frz.y (T := T) (H := ?trH) ?tra ?tre ?trt); (case tre => assumption); (case trt => walk_at "tr"); (case tra => walk_at "tr"))
  | ((with_reducible refine' Im.z (T := T) (H := ?trH) ?tra ?tre ?trt); (case tre => assumption); (case trt => assumption); (case tra => walk_at "tr"))
  | ((with_reducible refine' ImAll.z (T := T) (H := ?trH) ?tra ?tre ?trt); (case tre => assumption); (case trt => assumption); (case tra => walk_at "tr"))
  | ((with_reducible refine' StAt.z (T := T) (H := ?trH) ?tra ?tre ?trt); (case tre => assumption); (case trt => assumption); (case tra => walk_at "tr"))
  | ((with_reducible refine' SqP.z (T := T) (H := ?trH) ?tra ?tre ?trt); (case tre => assumption); (case trt => assumption); (case tra => walk_at "tr"))
  | ((with_reducible refine' tup.z (T := T) (H := ?trH) ?tra ?tre ?trt); (case tre => assumption); (case trt => assumption); (case tra => walk_at "tr"))
  | ((with_reducible refine' Ls.z (T := T) (H := ?trH) ?tra ?tre ?trt ?trn); (case tre => assumption); (case trt => assumption); (case trn => assumption); (case tra => walk_at "tr"))
  | ((with_reducible refine' lst.z (T := T) (H := ?trH) ?tra ?tre ?trn); (case tre => assumption); (case trn => assumption); (case tra => walk_at "tr"))
  | ((with_reducible refine' CL.z (T := T) (H := ?trH) ?tra ?tre ?trn); (case tre => assumption); (case trn => assumption); (case tra => walk_at "tr"))
  | ((with_reducible refine' Tape.ne1 (H := ?trH) ?trt ?trn); (case trn => assumption); (case trt => walk_at "tr"))
  | ((with_reducible refine' Ext.trans (H1 := ?trH) ?tra (Ext.any ?tre)); (case tre => assumption); (case tra => walk_at "tr"))
  | ((with_reducible refine' Ext.trans (H1 := ?trH) ?tra ?tre); (case tre => assumption); (case tra => walk_at "tr"))
  | ((with_reducible refine' Ext.back1 (T := T) (H1 := ?trH) ?tre ?trn ?tra); (case tra => assumption); (case trn => walk_at "tr"); (case tre => walk_at "tr"))
  | ((with_reducible refine' Ext.back0 (T := T) (H1 := ?trH) ?tre ?tra); (case tra => assumption); (case tre => walk_at "tr"))
  | ((with_reducible refine' SqT.of ?tra); (case tra => walk_at "tr"))
  | ((with_reducible refine' SqL.of ?tra); (case tra => walk_at "tr")))

theorem rd_neLsG {H : Hp} {Q : VK} {a b : Addr} {ds es : List PyData} (ha : Ls H a ds) (hb : Ls H b es) (hd : PyData.depth (.list ds) ≤ 64) (he : PyData.depth (.list es) ≤ 64) {r : Bool} (hr : ds = es ↔ r = true) (q : Q (.bl (!r)) H) : rNeU K (.ref a) (.ref b) H Q := by
  obtain ⟨xs, h1, h2⟩ := ha
  obtain ⟨ys, h3, h4⟩ := hb
  refine .inr ⟨_, _, Ls.dp ⟨xs, h1, h2⟩, Ls.dp ⟨ys, h3, h4⟩, ?_, ?_, ?_⟩
  · unfold SeqAt.shaped
    rw [show PyData.canLay0 (.list ds) = true from ImAll.lay ds _ h2, decide_eq_true hd]
    rfl
  · unfold SeqAt.shaped
    rw [show PyData.canLay0 (.list es) = true from ImAll.lay es _ h4, decide_eq_true he]
    rfl
  · rw [show PyData.eqv (.list ds) (.list es) = r from bool_of ((ImAll.eqv _ _ _ _ h2 h4).trans hr)]
    exact q
def hostsF : List Str → Bool
  | [c, l, n] => decide (l = Str.ofString "life") && (idsF c && numF n)
  | _ => false
def sealedF : List Str → Bool
  | [c, l, n, b, g, f, x, t, y] => decide (l = Str.ofString "life") && (decide (b = Str.ofString "by") && (decide (f = Str.ofString "from") && (decide (t = Str.ofString "to") && (idsF c && (numF n && (idsF g && (numF x && numF y)))))))
  | _ => false
theorem hosts_len {ws : List Str} (h : ws.length ≠ 3) : hostsF ws = false := by
  match ws, h with
  | [], _ => rfl
  | [_], _ => rfl
  | [_, _], _ => rfl
  | [_, _, _], h => exact absurd rfl h
  | _ :: _ :: _ :: _ :: _, _ => rfl
theorem sealed_len {ws : List Str} (h : ws.length ≠ 9) : sealedF ws = false := by
  match ws, h with
  | [], _ => rfl
  | [_], _ => rfl
  | [_, _], _ => rfl
  | [_, _, _], _ => rfl
  | [_, _, _, _], _ => rfl
  | [_, _, _, _, _], _ => rfl
  | [_, _, _, _, _, _], _ => rfl
  | [_, _, _, _, _, _, _], _ => rfl
  | [_, _, _, _, _, _, _, _], _ => rfl
  | [_, _, _, _, _, _, _, _, _], h => exact absurd rfl h
  | _ :: _ :: _ :: _ :: _ :: _ :: _ :: _ :: _ :: _ :: _, _ => rfl
theorem ok_read_hosts_item (D : Def K mg "read_hosts_item" s_read_hosts_item ["words"]) (M : Cst mg) (X_NoForm : PlainX K mg "NoForm" NF) (G_read_ids : OkN P w K mg base 4 "read_ids" ["word"] (spS T NF idsF)) (G_read_number : OkN P w K mg base 3 "read_number" ["word"] (spS T NF numF)) : OkN P w K mg base 5 "read_hosts_item" ["words"] (spWs T NF hostsF) := by
  refine D.okN sc_read_hosts_item (fun vs H Q E h => ?_) (fun cdv f A outer s H vs Q E hr h => ?_)
  · obtain ⟨a, ws, rfl, _⟩ := h
    rfl
  · obtain ⟨a, ws, rfl, ha, ⟨hw, hl⟩, q, qe⟩ := h
    refine ⟨_, (pss_one (ps_match (pv 0) (pc_cons (pm_seq K rfl rfl (pms_cons pm_name (pms_cons (pm_str K rfl hr.units) (pms_cons pm_name pms_nil)))) sc_read_hosts_item.nd (.cons (i := 1) rfl (.inl rfl) (by first | exact .inl rfl | exact .inr rfl) (.cons (i := 2) rfl (.inl rfl) (by first | exact .inl rfl | exact .inr rfl) .nil)) (pss_one (ps_ret (pe_tup (pa_cons (pe_callN G_read_ids (hr.mono (by decide)) (by rfl) (L2N.takes_of rfl rfl rfl rfl) (pa_cons (pv 1) pa_nil)) (pa_cons (pe_callN G_read_number (hr.mono (by decide)) (by rfl) (L2N.takes_of rfl rfl rfl rfl) (pa_cons (pv 2) pa_nil)) (pa_cons (pe_tup pa_nil) (pa_cons (pe_glI (by rfl) M.c_HOSTS_FIRST) (pa_cons (pe_glI (by rfl) M.c_HOSTS_LAST) pa_nil))))))))
   (pc_cons pm_any sc_read_hosts_item.nd .nil (pss_one (ps_raiseN rfl X_NoForm (L2N.takes_of rfl rfl rfl rfl)))
   pc_nil)))), ?_⟩
    refine rd_match ?_
    walk_at "rdn"
    refine mt_case ?_
    by_cases h3 : ws.length = 3
    · obtain ⟨c, l, n, rfl⟩ : ∃ x y z, ws = [x, y, z] := by
        match ws, h3 with
        | [x, y, z], _ => exact ⟨x, y, z, rfl⟩
      have ha : H a = some (.lst [V.str c, V.str l, V.str n]) := ha
      by_cases hli : l = Str.ofString "life"
      · have hf : hostsF [c, l, n] = (idsF c && numF n) := by
          show (decide (l = _) && (idsF c && numF n)) = _
          rw [decide_eq_true hli]
          rfl
        rw [hf] at q qe
        subst hli
        refine mt_seq (SqL.of ha) rfl (mt_nm (mt_eq (mt_nm ⟨rfl, ?_⟩)))
        dsimp only [setL]
        walk_at "rd"
        refine ⟨c, rfl, (hw c (by simp)).1, fun hb v1 H1 x1 => ?_, fun hb H1 x1 => qe (by rw [hb]; rfl) _ x1⟩
        walk_at "rd"
        refine ⟨n, rfl, (hw n (by simp)).1, fun hc v2 H2 x2 => ?_, fun hc H2 x2 => qe (by rw [hb, hc]; rfl) _ (x1.trans x2)⟩
        walk_at "rd"
        refine ⟨by walk_at "sz", fun p1 np1 => ?_⟩
        obtain ⟨np1, x3, hp1⟩ := alT (T := T) np1 ([] : List V)
        generalize upd H2 p1 _ = H3 at x3 hp1 ⊢
        walk_at "rd"
        refine ⟨by walk_at "sz", fun p2 np2 => ?_⟩
        obtain ⟨np2, x4, hp2⟩ := alT (T := T) np2 [v1, v2, .ref p1, .int 0, .int 10000]
        exact q (by rw [hb, hc]; rfl) _ _ (x1.trans (x2.trans (x3.trans x4)))
      · have hf : hostsF [c, l, n] = false := by
          show (decide (l = _) && (idsF c && numF n)) = _
          rw [decide_eq_false hli]
          rfl
        refine mt_seq (SqL.of ha) rfl (mt_nm (mt_no hli ?_))
        dsimp only
        refine mt_case ?_
        dsimp only [setL]
        walk_at "rd"
        exact qe hf _ .refl
    · refine mt_off (SqL.of ha) (by rw [List.length_map]; exact h3) ?_
      dsimp only
      refine mt_case ?_
      dsimp only [setL]
      walk_at "rd"
      exact qe (hosts_len h3) _ .refl
theorem ok_read_sealed_item (D : Def K mg "read_sealed_item" s_read_sealed_item ["words"]) (mb : ∀ x ∈ bltns, mg x = none) (X_NoForm : PlainX K mg "NoForm" NF) (G_read_ids : OkN P w K mg base 4 "read_ids" ["word"] (spS T NF idsF)) (G_read_number : OkN P w K mg base 3 "read_number" ["word"] (spS T NF numF)) : OkN P w K mg base 5 "read_sealed_item" ["words"] (spWs T NF sealedF) := by
  refine D.okN sc_read_sealed_item (fun vs H Q E h => ?_) (fun cdv f A outer s H vs Q E hr h => ?_)
  · obtain ⟨a, ws, rfl, _⟩ := h
    rfl
  · obtain ⟨a, ws, rfl, ha, ⟨hw, hl⟩, q, qe⟩ := h
    refine ⟨_, (pss_one (ps_match (pv 0) (pc_cons (pm_seq K rfl rfl (pms_cons pm_name (pms_cons (pm_str K rfl hr.units) (pms_cons pm_name (pms_cons (pm_str K rfl hr.units) (pms_cons pm_name (pms_cons (pm_str K rfl hr.units) (pms_cons pm_name (pms_cons (pm_str K rfl hr.units) (pms_cons pm_name pms_nil)))))))))) sc_read_sealed_item.nd (.cons (i := 1) rfl (.inl rfl) (by first | exact .inl rfl | exact .inr rfl) (.cons (i := 2) rfl (.inl rfl) (by first | exact .inl rfl | exact .inr rfl) (.cons (i := 3) rfl (.inl rfl) (by first | exact .inl rfl | exact .inr rfl) (.cons (i := 4) rfl (.inl rfl) (by first | exact .inl rfl | exact .inr rfl) (.cons (i := 5) rfl (.inl rfl) (by first | exact .inl rfl | exact .inr rfl) .nil))))) (pss_cons (ps_set (i := 6) sc_read_sealed_item.nd rfl (.inl rfl) (pe_tup (pa_cons (pe_callN G_read_ids (hr.mono (by decide)) (by rfl) (L2N.takes_of rfl rfl rfl rfl) (pa_cons (pv 1) pa_nil)) (pa_cons (pe_callN G_read_number (hr.mono (by decide)) (by rfl) (L2N.takes_of rfl rfl rfl rfl) (pa_cons (pv 2) pa_nil)) pa_nil))))
   (pss_cons (ps_set (i := 7) sc_read_sealed_item.nd rfl (.inl rfl) (pe_tup (pa_cons (pe_callN G_read_ids (hr.mono (by decide)) (by rfl) (L2N.takes_of rfl rfl rfl rfl) (pa_cons (pv 3) pa_nil)) (pa_cons (pe_callN G_read_number (hr.mono (by decide)) (by rfl) (L2N.takes_of rfl rfl rfl rfl) (pa_cons (pv 4) pa_nil)) (pa_cons (pe_callN G_read_number (hr.mono (by decide)) (by rfl) (L2N.takes_of rfl rfl rfl rfl) (pa_cons (pv 5) pa_nil)) pa_nil)))))
   (pss_one (ps_ret (pe_op (op_plus K rfl) (pv 6) (pv 7))))))
   (pc_cons pm_any sc_read_sealed_item.nd .nil (pss_one (ps_raiseN rfl X_NoForm (L2N.takes_of rfl rfl rfl rfl)))
   pc_nil)))), ?_⟩
    refine rd_match ?_
    walk_at "rdn"
    refine mt_case ?_
    by_cases h9 : ws.length = 9
    · obtain ⟨c, l, n, b, g, f, x, t, y, rfl⟩ : ∃ a1 a2 a3 a4 a5 a6 a7 a8 a9, ws = [a1, a2, a3, a4, a5, a6, a7, a8, a9] := by
        match ws, h9 with
        | [a1, a2, a3, a4, a5, a6, a7, a8, a9], _ => exact ⟨a1, a2, a3, a4, a5, a6, a7, a8, a9, rfl⟩
      have ha : H a = some (.lst [V.str c, V.str l, V.str n, V.str b, V.str g, V.str f, V.str x, V.str t, V.str y]) := ha
      have hf0 : sealedF [c, l, n, b, g, f, x, t, y] = (decide (l = Str.ofString "life") && (decide (b = Str.ofString "by") && (decide (f = Str.ofString "from") && (decide (t = Str.ofString "to") && (idsF c && (numF n && (idsF g && (numF x && numF y)))))))) := rfl
      rw [hf0] at q qe
      by_cases h1 : l = Str.ofString "life"
      · subst h1
        rw [decide_eq_true rfl, Bool.true_and] at q qe
        by_cases h2 : b = Str.ofString "by"
        · subst h2
          rw [decide_eq_true rfl, Bool.true_and] at q qe
          by_cases h3 : f = Str.ofString "from"
          · subst h3
            rw [decide_eq_true rfl, Bool.true_and] at q qe
            by_cases h4 : t = Str.ofString "to"
            · subst h4
              rw [decide_eq_true rfl, Bool.true_and] at q qe
              refine mt_seq (SqL.of ha) rfl (mt_nm (mt_eq (mt_nm (mt_eq (mt_nm (mt_eq (mt_nm (mt_eq (mt_nm ⟨rfl, ?_⟩)))))))))
              dsimp only [setL]
              walk_at "rdn"
              refine rd_seq ?_
              walk_at "rd"
              refine ⟨c, rfl, (hw c (by simp)).1, fun k1 v1 H1 x1 => ?_, fun k1 H1 x1 => qe (by rw [k1]; rfl) _ x1⟩
              walk_at "rd"
              refine ⟨n, rfl, (hw n (by simp)).1, fun k2 v2 H2 x2 => ?_, fun k2 H2 x2 => qe (by rw [k1, k2]; rfl) _ (x1.trans x2)⟩
              walk_at "rd"
              refine ⟨by walk_at "sz", fun p1 np1 => ?_⟩
              obtain ⟨np1, x3, hp1⟩ := alT (T := T) np1 [v1, v2]
              generalize upd H2 p1 _ = H3 at x3 hp1 ⊢
              have x3 := x1.trans (x2.trans x3)
              walk_at "rdn"
              refine rd_seq ?_
              walk_at "rd"
              refine ⟨g, rfl, (hw g (by simp)).1, fun k3 v3 H4 x4 => ?_, fun k3 H4 x4 => qe (by rw [k1, k2, k3]; rfl) _ (x3.trans x4)⟩
              have hp1 := tup.x hp1 x4
              have x4 := x3.trans x4
              walk_at "rd"
              refine ⟨x, rfl, (hw x (by simp)).1, fun k4 v4 H5 x5 => ?_, fun k4 H5 x5 => qe (by rw [k1, k2, k3, k4]; rfl) _ (x4.trans x5)⟩
              have hp1 := tup.x hp1 x5
              have x5 := x4.trans x5
              walk_at "rd"
              refine ⟨y, rfl, (hw y (by simp)).1, fun k5 v5 H6 x6 => ?_, fun k5 H6 x6 => qe (by rw [k1, k2, k3, k4, k5]; rfl) _ (x5.trans x6)⟩
              have hp1 := tup.x hp1 x6
              have x6 := x5.trans x6
              walk_at "rd"
              refine ⟨by walk_at "sz", fun p2 np2 => ?_⟩
              obtain ⟨np2, x7, hp2⟩ := alT (T := T) np2 [v3, v4, v5]
              have hp1 := tup.x hp1 x7
              generalize upd H6 p2 _ = H7 at x7 hp2 hp1 ⊢
              walk_at "rd"
              refine rd_catT (SqT.of hp1) (SqT.of hp2) (by simp) (by simp) (show (5 : Nat) ≤ sizeLine by decide) fun p3 np3 => ?_
              obtain ⟨np3, x8, hp3⟩ := alT (T := T) np3 ([v1, v2] ++ [v3, v4, v5])
              exact q (by rw [k1, k2, k3, k4, k5]; rfl) _ _ (x6.trans (x7.trans x8))
            · rw [decide_eq_false h4, Bool.false_and] at qe
              refine mt_seq (SqL.of ha) rfl (mt_nm (mt_eq (mt_nm (mt_eq (mt_nm (mt_eq (mt_nm (mt_no h4 ?_))))))))
              dsimp only
              refine mt_case ?_
              dsimp only [setL]
              walk_at "rd"
              exact qe rfl _ .refl
          · rw [decide_eq_false h3, Bool.false_and] at qe
            refine mt_seq (SqL.of ha) rfl (mt_nm (mt_eq (mt_nm (mt_eq (mt_nm (mt_no h3 ?_))))))
            dsimp only
            refine mt_case ?_
            dsimp only [setL]
            walk_at "rd"
            exact qe rfl _ .refl
        · rw [decide_eq_false h2, Bool.false_and] at qe
          refine mt_seq (SqL.of ha) rfl (mt_nm (mt_eq (mt_nm (mt_no h2 ?_))))
          dsimp only
          refine mt_case ?_
          dsimp only [setL]
          walk_at "rd"
          exact qe rfl _ .refl
      · rw [decide_eq_false h1, Bool.false_and] at qe
        refine mt_seq (SqL.of ha) rfl (mt_nm (mt_no h1 ?_))
        dsimp only
        refine mt_case ?_
        dsimp only [setL]
        walk_at "rd"
        exact qe rfl _ .refl
    · refine mt_off (SqL.of ha) (by rw [List.length_map]; exact h9) ?_
      dsimp only
      refine mt_case ?_
      dsimp only [setL]
      walk_at "rd"
      exact qe (sealed_len h9) _ .refl
/-- the slot, then =, then an item -/
def placedF (ws : List Str) : Bool := slotF (ws.take (szF ws)) && (decide ((ws.drop (szF ws)).take 1 = [Str.ofString "="]) && (if ws.head? = some (Str.ofString "hosts") then hostsF ((ws.drop (szF ws)).drop 1) else sealedF ((ws.drop (szF ws)).drop 1)))
def spWsT (T : List (Addr × Str)) (NF : Addr) (f : List Str → Bool) : Sp := fun vs H Q E => ∃ (a : Addr) (ws : List Str), vs = [.ref a] ∧ H a = some (.lst (ws.map V.str)) ∧ WsOk ws ∧ (f ws = true → ∀ p v u H', Ext T [] H H' → H' p = some (.tup [v, u]) → Q (.ref p) H') ∧ (f ws = false → ∀ H', Ext T [] H H' → E (.ref NF) none H')
theorem ok_read_placed (D : Def K mg "read_placed" s_read_placed ["words"]) (mb : ∀ x ∈ bltns, mg x = none) (X_NoForm : PlainX K mg "NoForm" NF) (G_split_slot : OkN P w K mg base 6 "split_slot" ["words"] (spSplit T NF)) (G_read_hosts_item : OkN P w K mg base 5 "read_hosts_item" ["words"] (spWs T NF hostsF)) (G_read_sealed_item : OkN P w K mg base 5 "read_sealed_item" ["words"] (spWs T NF sealedF)) : OkN P w K mg base 7 "read_placed" ["words"] (spWsT T NF placedF) := by
  refine D.okN sc_read_placed (fun vs H Q E h => ?_) (fun cdv f A outer s H vs Q E hr h => ?_)
  · obtain ⟨a, ws, rfl, _⟩ := h
    rfl
  · obtain ⟨a, ws, rfl, ha, hw, q, qe⟩ := h
    refine ⟨_, (pss_cons (ps_asg (pe_callN G_split_slot (hr.mono (by decide)) (by rfl) (L2N.takes_of rfl rfl rfl rfl) (pa_cons (pv 0) pa_nil)) (pg_tupU (n := 2) K rfl rfl (pgs_cons (pg_name (i := 1) sc_read_placed.nd rfl (.inl rfl)) (pgs_cons (pg_name (i := 2) sc_read_placed.nd rfl (.inl rfl)) pgs_nil))))
   (pss_cons (ps_if (pt_cmpR (op_neU K rfl hr.units) (pe_slice (sl_U K rfl) (pv 2) po_none (po_some pe_int)) (pe_lst (pa_cons pe_str pa_nil)) (nomark _)) (pss_one (ps_raiseN rfl X_NoForm (L2N.takes_of rfl rfl rfl rfl))) pss_nil)
   (pss_cons (ps_if (pt_cmpR (op_eqU K rfl hr.units) (pe_ix (ix_U K rfl) (pv 1) pe_int (fun _ _ => rfl)) pe_str (nomark _)) (pss_one (ps_ret (pe_tup (pa_cons (pv 1) (pa_cons (pe_callN G_read_hosts_item (hr.mono (by decide)) (by rfl) (L2N.takes_of rfl rfl rfl rfl) (pa_cons (pe_slice (sl_U K rfl) (pv 2) (po_some pe_int) po_none) pa_nil)) pa_nil))))) pss_nil)
   (pss_one (ps_ret (pe_tup (pa_cons (pv 1) (pa_cons (pe_callN G_read_sealed_item (hr.mono (by decide)) (by rfl) (L2N.takes_of rfl rfl rfl rfl) (pa_cons (pe_slice (sl_U K rfl) (pv 2) (po_some pe_int) po_none) pa_nil)) pa_nil)))))))), ?_⟩
    walk_at "rdn"
    refine rd_seq ?_
    walk_at "rdn"
    refine ⟨a, ws, rfl, ha, hw, fun kb t ps r x y rs H1 ews x1 ht hp hr => ?_, fun kb H1 x1 => qe (by unfold placedF; rw [kb]; rfl) _ x1⟩
    refine rd_gtup (SqT.of ht) rfl (rd_gcons (rd_name (rd_gcons (rd_name (rd_gnil ?_)))))
    have hf : placedF ws = (decide ((ws.drop (szF ws)).take 1 = [Str.ofString "="]) && (if x = Str.ofString "hosts" then hostsF ((ws.drop (szF ws)).drop 1) else sealedF ((ws.drop (szF ws)).drop 1))) := by
      unfold placedF
      rw [kb, Bool.true_and]
      congr 1
      have e : (ws.head? = some (Str.ofString "hosts")) = (x = Str.ofString "hosts") := by
        rw [ews]
        show (some x = some _) = _
        rw [Option.some.injEq]
      simp only [e]
    rw [hf] at q qe
    clear hf
    have hrw := wsOk_drop hw (szF ws)
    generalize ws.drop (szF ws) = rest at q qe hr hrw
    have hrl : (rest.map V.str).length ≤ 40 := by
      rw [List.length_map]
      exact hrw.2
    walk_at "rdn"
    refine rd_cut (fun σ' H' => σ' = [some (.ref a), some (.ref ps), some (.ref r)] ∧ Ext T [] H1 H' ∧ rest.take 1 = [Str.ofString "="]) (fun nx' hnx => ?_) (fun σ' H2 h => ?_)
    · walk_at "rd"
      refine rd_slL (SqL.of hr) fun p1 np1 => ?_
      have ec : cutV (rest.map V.str) none (some 1) = (rest.take 1).map V.str := by
        rw [cutV_to _ (by decide), List.map_take]
        rfl
      rw [ec]
      obtain ⟨np1, x2, hp1⟩ := alL (T := T) np1 ((rest.take 1).map V.str)
      generalize upd H1 p1 _ = H2 at x2 hp1 ⊢
      walk_at "rd"
      refine ⟨by walk_at "sz", fun p2 np2 => ?_⟩
      obtain ⟨np2, x3, hp2⟩ := alL (T := T) np2 [V.str (Str.ofString "=")]
      have hp1 := lst.x hp1 x3
      generalize upd H2 p2 _ = H3 at x3 hp1 hp2 ⊢
      refine rd_neLsG (ls_str hp1 fun z hz => (hrw.1 z (List.mem_of_mem_take hz)).2) (ls_str (zs := [Str.ofString "="]) hp2 (by intro z hz; rw [List.mem_singleton.mp hz]; decide +kernel)) (dep_lstr _) (dep_lstr [Str.ofString "="]) strs_eq ?_
      by_cases c : rest.take 1 = [Str.ofString "="]
      · rw [decide_eq_true c]
        walk_at "rd"
        exact hnx _ _ ⟨rfl, x2.trans x3, c⟩
      · rw [decide_eq_false c]
        walk_at "rd"
        exact qe (by rw [decide_eq_false c]; rfl) _ (x1.trans (x2.trans x3))
    · obtain ⟨rfl, x2, hc⟩ := h
      rw [decide_eq_true hc, Bool.true_and] at q qe
      have hp := tup.x hp x2
      have hr := lst.x hr x2
      have x2 := x1.trans x2
      walk_at "rdn"
      refine rd_cut (fun σ' H' => σ' = [some (.ref a), some (.ref ps), some (.ref r)] ∧ H' = H2 ∧ ¬ x = Str.ofString "hosts") (fun nx' hnx => ?_) (fun σ' H3 h => ?_)
      · walk_at "rd"
        refine rd_ixT (i := 0) (SqT.of hp) (v := .str x) (show atI (V.str x :: rs) ((0 : Nat) : Int) = some (V.str x) from atI_nat rfl) ?_
        walk_at "rd"
        refine rd_ite (fun c => ?_) (fun c => ?_)
        · rw [if_pos c] at q qe
          walk_at "rd"
          refine rd_slL (SqL.of hr) fun p1 np1 => ?_
          have ec : cutV (rest.map V.str) (some 1) none = (rest.drop 1).map V.str := by
            rw [cutV_strs _ (by decide)]
            rfl
          rw [ec]
          obtain ⟨np1, x4, hp1⟩ := alL (T := T) np1 ((rest.drop 1).map V.str)
          generalize upd H2 p1 _ = H4 at x4 hp1 ⊢
          have x4 := x2.trans x4
          walk_at "rd"
          refine ⟨p1, rest.drop 1, rfl, hp1, wsOk_drop hrw 1, fun kc u H5 x5 => ?_, fun kc H5 x5 => qe kc _ (x4.trans x5)⟩
          walk_at "rd"
          refine ⟨by walk_at "sz", fun pq npq => ?_⟩
          obtain ⟨npq, x6, hpq⟩ := alT (T := T) npq [V.ref ps, u]
          exact q kc pq _ _ _ (x4.trans (x5.trans x6)) hpq
        · walk_at "rd"
          exact hnx _ _ ⟨rfl, rfl, c⟩
      · obtain ⟨rfl, rfl, c⟩ := h
        rw [if_neg c] at q qe
        walk_at "rd"
        refine rd_slL (SqL.of hr) fun p1 np1 => ?_
        have ec : cutV (rest.map V.str) (some 1) none = (rest.drop 1).map V.str := by
          rw [cutV_strs _ (by decide)]
          rfl
        rw [ec]
        obtain ⟨np1, x4, hp1⟩ := alL (T := T) np1 ((rest.drop 1).map V.str)
        generalize upd H3 p1 _ = H4 at x4 hp1 ⊢
        have x4 := x2.trans x4
        walk_at "rd"
        refine ⟨p1, rest.drop 1, rfl, hp1, wsOk_drop hrw 1, fun kc u H5 x5 => ?_, fun kc H5 x5 => qe kc _ (x4.trans x5)⟩
        walk_at "rd"
        refine ⟨by walk_at "sz", fun pq npq => ?_⟩
        obtain ⟨npq, x6, hpq⟩ := alT (T := T) npq [V.ref ps, u]
        exact q kc pq _ _ _ (x4.trans (x5.trans x6)) hpq
end

open PySem PySem.Spec PyProof.Rows L2
open PySem.W (EachIs)
section
variable {T : List (Addr × Str)} {P : Program} {w : World} {K : PySem.W.Frag} {mg : Str → Option Value} {base : Heap} {NF : Addr}
local macro_rules | `(tactic| walk_at "tr") => `(tactic| first
  | assumption
  | exact Ext.refl
  | ((with_reducible refine' Im.x (T := T) (H := ?trH) ?tra ?tre); (case tre => assumption); (case tra => walk_at "tr"))
  | ((with_reducible refine' Im.y (T := T) (H := ?trH) ?tra ?tre ?trt); (case tre => assumption); (case trt => walk_at "tr"); (case tra => walk_at "tr"))
  | ((with_reducible refine' ImAll.x (T := T) (H := ?trH) ?tra ?tre); (case tre => assumption); (case tra => walk_at "tr"))
  | ((with_reducible refine' ImAll.y (T := T) (H := ?trH) ?tra ?tre ?trt); (case tre => assumption); (case trt => walk_at "tr"); (case tra => walk_at "tr"))
  | ((with_reducible refine' Ls.x (T := T) (H := ?trH) ?tra ?tre); (case tre => assumption); (case tra => walk_at "tr"))
  | ((with_reducible refine' Ls.y (T := T) (H := ?trH) ?tra ?tre ?trn ?trt); (case tre => assumption); (case trt => walk_at "tr"); (case trn => walk_at "tr"); (case tra => walk_at "tr"))
  | ((with_reducible refine' SqP.x (T := T) (H := ?trH) ?tra ?tre); (case tre => assumption); (case tra => walk_at "tr"))
  | ((with_reducible refine' SqP.y (T := T) (H := ?trH) ?tra ?tre ?trt); (case tre => assumption); (case trt => walk_at "tr"); (case tra => walk_at "tr"))
  | ((with_reducible refine' StAt.x (T := T) (H := ?trH) ?tra ?tre); (case tre => assumption); (case tra => walk_at "tr"))
  | ((with_reducible refine' StAt.y (T := T) (H := ?trH) ?tra ?tre ?trt); (case tre => assumption); (case trt => walk_at "tr"); (case tra => walk_at "tr"))
  | ((with_reducible refine' Pools.ext0 (T := T) (H := ?trH) ?tra ?tre); (case tre => assumption); (case tra => walk_at "tr"))
  | ((with_reducible refine' Pools.ext (T := T) (H := ?trH) ?tra ?tre ?trt); (case tre => assumption); (case trt => walk_at "tr"); (case tra => walk_at "tr"))
  | ((with_reducible refine' CL.x (T := T) (H := ?trH) ?tra ?tre); (case tre => assumption); (case tra => walk_at "tr"))
  | ((with_reducible refine' CL.y (T := T) (H := ?trH) ?tra ?tre); (case tre => assumption); (case tra => walk_at "tr"))
  | ((with_reducible refine' Tape.ext (T := T) (H := ?trH) ?tra ?tre); (case tre => assumption); (case tra => walk_at "tr"))
  | ((with_reducible refine' lst.x (T := T) (H := ?trH) ?tra ?tre); (case tre => assumption); (case tra => walk_at "tr"))
  | ((with_reducible refine' lst.y (T := T) (H := ?trH) ?tra ?tre ?trn); (case tre => assumption); (case trn => walk_at "tr"); (case tra => walk_at "tr"))
  | ((with_reducible refine' tup.x (T := T) (H := ?trH) ?tra ?tre); (case tre => assumption); (case tra => walk_at "tr"))
  | ((with_reducible refine' tup.y (T := T) (H := ?trH) ?tra ?tre ?trt); (case tre => assumption); (case trt => walk_at "tr"); (case tra => walk_at "tr"))
  | ((with_reducible refine' frz.x (T := T) (H := ?trH) ?tra ?tre); (case tre => assumption); (case tra => walk_at "tr"))
  | ((with_reducible refine' frz.y (T := T) (H := ?trH) ?tra ?tre ?trt); (case tre => assumption); (case trt => walk_at "tr"); (case tra => walk_at "tr"))
  | ((with_reducible refine' Im.z (T := T) (H := ?trH) ?tra ?tre ?trt); (case tre => assumption); (case trt => assumption); (case tra => walk_at "tr"))
  | ((with_reducible refine' ImAll.z (T := T) (H := ?trH) ?tra ?tre ?trt); (case tre => assumption); (case trt => assumption); (case tra => walk_at "tr"))
  | ((with_reducible refine' StAt.z (T := T) (H := ?trH) ?tra ?tre ?trt); (case tre => assumption); (case trt => assumption); (case tra => walk_at "tr"))
  | ((with_reducible refine' SqP.z (T := T) (H := ?trH) ?tra ?tre ?trt); (case tre => assumption); (case trt => assumption); (case tra => walk_at "tr"))
  | ((with_reducible refine' tup.z (T := T) (H := ?trH) ?tra ?tre ?trt); (case tre => assumption); (case trt => assumption); (case tra => walk_at "tr"))
  | ((with_reducible refine' Ls.z (T := T) (H := ?trH) ?tra ?tre ?trt ?trn); (case tre => assumption); (case trt => assumption); (case trn => assumption); (case tra => walk_at "tr"))
  | ((with_reducible refine' lst.z (T := T) (H := ?trH) ?tra ?tre ?trn); (case tre => assumption); (case trn => assumption); (case tra => walk_at "tr"))
  | ((with_reducible refine' CL.z (T := T) (H := ?trH) ?tra ?tre ?trn); (case tre => assumption); (case trn => assumption); (case tra => walk_at "tr"))
  | ((with_reducible refine' Tape.ne1 (H := ?trH) ?trt ?trn); (case trn => assumption); (case trt => walk_at "tr"))
  | ((with_reducible refine' Ext.trans (H1 := ?trH) ?tra (Ext.any ?tre)); (case tre => assumption); (case tra => walk_at "tr"))
  | ((with_reducible refine' Ext.trans (H1 := ?trH) ?tra ?tre); (case tre => assumption); (case tra => walk_at "tr"))
  | ((with_reducible refine' Ext.back1 (T := T) (H1 := ?trH) ?tre ?trn ?tra); (case tra => assumption); (case trn => walk_at "tr"); (case tre => walk_at "tr"))
  | ((with_reducible refine' Ext.back0 (T := T) (H1 := ?trH) ?tre ?tra); (case tra => assumption); (case tre => walk_at "tr"))
  | ((with_reducible refine' SqT.of ?tra); (case tra => walk_at "tr"))
  | ((with_reducible refine' SqL.of ?tra); (case tra => walk_at "tr")))

theorem mt_star2 {Q : Option (List V) → Hp → Prop} {H : Hp} {ts : TPs} {x y : V} {r : List V} {a : Addr} (ha : H a = some (.lst (x :: y :: r))) (hl : r.length ≤ 900) (q : ∀ D, H D = none → ts [x, y, .ref D] (upd H D (.lst r)) Q) : tpSeqS K 3 2 ts (.ref a) H Q := by
  refine mt_seqS (SqL.of ha) (by simp only [List.length_cons]; omega) (by simp only [List.length_cons]; omega) fun D nD => ?_
  have e1 : (x :: y :: r).length + 1 - 3 = r.length := by simp only [List.length_cons]; omega
  rw [e1]
  show ts ([x, y] ++ .ref D :: r.drop r.length) (upd H D (.lst (r.take r.length))) Q
  rw [List.drop_length, List.take_length]
  exact q D nD
/-- a case whose first word is another -/
theorem cs_skipS {n i : Nat} {a : Addr} {h z : Str} {r : List V} {ts : TPs} {is : List Nat} {tb : TS} {tr : TCs} {D : Ends} {σ : L2.St} {H : Hp} (hi : 0 < i) (ha : H a = some (.lst (V.str h :: r))) (hl : r.length ≤ 900) (hne : h ≠ z)
    (q : ∀ H1, Ext T [] H H1 → H1 a = some (.lst (V.str h :: r)) → tr (.ref a) D σ H1) : tcCons (tpSeqS K n i (tpCons (tpStr K z) ts)) is tb tr (.ref a) D σ H := by
  refine mt_case ?_
  by_cases hn : (V.str h :: r).length + 1 < n
  · refine mt_few (SqL.of ha) (by rw [List.length_cons]; omega) hn ?_
    exact q H .refl ha
  · refine mt_seqS (SqL.of ha) (by rw [List.length_cons]; omega) hn fun D nD => ?_
    obtain ⟨j, rfl⟩ : ∃ j, i = j + 1 := ⟨i - 1, by omega⟩
    rw [List.take_succ_cons, List.cons_append]
    refine mt_no hne ?_
    obtain ⟨nD, x1, _⟩ := alL (T := T) nD (((V.str h :: r).drop (j + 1)).take ((V.str h :: r).length + 1 - n))
    exact q _ x1 (lst.x ha x1)
theorem cs_skip {n : Nat} {a : Addr} {h z : Str} {r : List V} {ts : TPs} {is : List Nat} {tb : TS} {tr : TCs} {D : Ends} {σ : L2.St} {H : Hp} (ha : H a = some (.lst (V.str h :: r))) (hne : h ≠ z) (q : tr (.ref a) D σ H) : tcCons (tpSeq K n (tpCons (tpStr K z) ts)) is tb tr (.ref a) D σ H := by
  refine mt_case ?_
  by_cases hn : (V.str h :: r).length = n
  · exact mt_seq (SqL.of ha) hn (mt_no hne q)
  · exact mt_off (SqL.of ha) hn q
theorem cs_off {n : Nat} {a : Addr} {xs : List V} {ts : TPs} {is : List Nat} {tb : TS} {tr : TCs} {D : Ends} {σ : L2.St} {H : Hp} (ha : H a = some (.lst xs)) (hn : ¬ xs.length = n) (q : tr (.ref a) D σ H) : tcCons (tpSeq K n ts) is tb tr (.ref a) D σ H := mt_case (mt_off (SqL.of ha) hn q)
theorem cs_few {n i : Nat} {a : Addr} {xs : List V} {ts : TPs} {is : List Nat} {tb : TS} {tr : TCs} {D : Ends} {σ : L2.St} {H : Hp} (ha : H a = some (.lst xs)) (hl : xs.length ≤ 900) (hn : xs.length + 1 < n) (q : tr (.ref a) D σ H) : tcCons (tpSeqS K n i ts) is tb tr (.ref a) D σ H :=
  mt_case (mt_few (SqL.of ha) (by omega) hn q)
def onF : List Str → Bool
  | [a, b, c] => decide (a ∈ [Str.ofString "on", Str.ofString "off"]) && (idB b && nameB c)
  | _ => false
def deedF (ws : List Str) : Bool := if ws.take 1 = [Str.ofString "put"] then placedF (ws.drop 1) else onF ws
theorem ok_read_deed (D : Def K mg "read_deed" s_read_deed ["words"]) (mb : ∀ x ∈ bltns, mg x = none) (X_NoForm : PlainX K mg "NoForm" NF) (G_read_placed : OkN P w K mg base 7 "read_placed" ["words"] (spWsT T NF placedF)) (G_read_id : OkN P w K mg base 3 "read_id" ["word"] (spS T NF idB)) (G_read_name : OkN P w K mg base 4 "read_name" ["word"] (spS T NF nameB)) : OkN P w K mg base 8 "read_deed" ["words"] (spWs T NF deedF) := by
  refine D.okN sc_read_deed (fun vs H Q E h => ?_) (fun cdv f A outer s H vs Q E hr h => ?_)
  · obtain ⟨a, ws, rfl, _⟩ := h
    rfl
  · obtain ⟨a, ws, rfl, ha, hw, q, qe⟩ := h
    refine ⟨_, (pss_cons (ps_if (pt_cmpR (op_eqU K rfl hr.units) (pe_slice (sl_U K rfl) (pv 0) po_none (po_some pe_int)) (pe_lst (pa_cons pe_str pa_nil)) (nomark _)) (pss_cons (ps_asg (pe_callN G_read_placed (hr.mono (by decide)) (by rfl) (L2N.takes_of rfl rfl rfl rfl) (pa_cons (pe_slice (sl_U K rfl) (pv 0) (po_some pe_int) po_none) pa_nil)) (pg_tupU (n := 2) K rfl rfl (pgs_cons (pg_name (i := 1) sc_read_deed.nd rfl (.inl rfl)) (pgs_cons (pg_name (i := 2) sc_read_deed.nd rfl (.inl rfl)) pgs_nil))))
   (pss_one (ps_ret (pe_tup (pa_cons pe_str (pa_cons (pv 1) (pa_cons (pv 2) pa_nil))))))) pss_nil)
   (pss_cons (ps_if (PW.pt (pw_and (pt_cmpR (op_eqU K rfl hr.units) (pe_callB (call_lenU K rfl) (by rfl) (mb _ (by decide)) (by decide +kernel) (pa_cons (pv 0) pa_nil)) pe_int (nomark _)) (pw_and1 (pt_cmpR (op_inW K rfl (Room.units65 hr)) (pe_ix (ix_U K rfl) (pv 0) pe_int (fun _ _ => rfl)) (pe_tup (pa_cons pe_str (pa_cons pe_str pa_nil))) rfl)))) (pss_one (ps_ret (pe_tup (pa_cons (pe_ix (ix_U K rfl) (pv 0) pe_int (fun _ _ => rfl)) (pa_cons (pe_callN G_read_id (hr.mono (by decide)) (by rfl) (L2N.takes_of rfl rfl rfl rfl) (pa_cons (pe_ix (ix_U K rfl) (pv 0) pe_int (fun _ _ => rfl)) pa_nil)) (pa_cons (pe_callN G_read_name (hr.mono (by decide)) (by rfl) (L2N.takes_of rfl rfl rfl rfl) (pa_cons (pe_ix (ix_U K rfl) (pv 0) pe_int (fun _ _ => rfl)) pa_nil)) pa_nil)))))) pss_nil)
   (pss_one (ps_raiseN rfl X_NoForm (L2N.takes_of rfl rfl rfl rfl))))), ?_⟩
    have hml : (ws.map V.str).length ≤ 40 := by rw [List.length_map]; exact hw.2
    have hml2 : ((ws.map V.str).length : Int) = (ws.length : Int) := by rw [List.length_map]
    walk_at "rdn"
    refine rd_cut (fun σ' H' => σ' = [some (.ref a), none, none] ∧ Ext T [] H H' ∧ ¬ ws.take 1 = [Str.ofString "put"]) (fun nx' hnx => ?_) (fun σ' H2 h => ?_)
    · walk_at "rd"
      refine rd_slL (SqL.of ha) fun p1 np1 => ?_
      have ec : cutV (ws.map V.str) none (some 1) = (ws.take 1).map V.str := by
        rw [cutV_to _ (by decide), List.map_take]
        rfl
      rw [ec]
      obtain ⟨np1, x2, hp1⟩ := alL (T := T) np1 ((ws.take 1).map V.str)
      generalize upd H p1 _ = H2 at x2 hp1 ⊢
      walk_at "rd"
      refine ⟨by walk_at "sz", fun p2 np2 => ?_⟩
      obtain ⟨np2, x3, hp2⟩ := alL (T := T) np2 [V.str (Str.ofString "put")]
      have hp1 := lst.x hp1 x3
      have x3 := x2.trans x3
      generalize upd H2 p2 _ = H3 at x3 hp1 hp2 ⊢
      refine rd_eqLsG (ls_str hp1 fun z hz => (hw.1 z (List.mem_of_mem_take hz)).2) (ls_str (zs := [Str.ofString "put"]) hp2 (by intro z hz; rw [List.mem_singleton.mp hz]; decide +kernel)) (dep_lstr _) (dep_lstr [Str.ofString "put"]) strs_eq ?_
      by_cases c : ws.take 1 = [Str.ofString "put"]
      · rw [decide_eq_true c]
        have hf : deedF ws = placedF (ws.drop 1) := if_pos c
        rw [hf] at q qe
        have ha := lst.x ha x3
        walk_at "rdn"
        refine rd_seq ?_
        walk_at "rd"
        refine rd_slL (SqL.of ha) fun p4 np4 => ?_
        have ec : cutV (ws.map V.str) (some 1) none = (ws.drop 1).map V.str := by
          rw [cutV_strs _ (by decide)]
          rfl
        rw [ec]
        obtain ⟨np4, x4, hp4⟩ := alL (T := T) np4 ((ws.drop 1).map V.str)
        have x4 := x3.trans x4
        generalize upd H3 p4 _ = H4 at x4 hp4 ⊢
        walk_at "rdn"
        refine ⟨p4, ws.drop 1, rfl, hp4, wsOk_drop hw 1, fun kb t v u H5 x5 ht => ?_, fun kb H5 x5 => qe kb _ (x4.trans x5)⟩
        refine rd_gtup (SqT.of ht) rfl (rd_gcons (rd_name (rd_gcons (rd_name (rd_gnil ?_)))))
        walk_at "rd"
        refine ⟨by walk_at "sz", fun pr npr => ?_⟩
        obtain ⟨npr, x6, hpr⟩ := alT (T := T) npr [V.str (Str.ofString "put"), v, u]
        exact q kb _ _ (x4.trans (x5.trans x6))
      · rw [decide_eq_false c]
        walk_at "rd"
        exact hnx _ _ ⟨rfl, x3, c⟩
    · obtain ⟨rfl, x2, c⟩ := h
      have hf : deedF ws = onF ws := if_neg c
      rw [hf] at q qe
      have ha := lst.x ha x2
      walk_at "rd"
      by_cases h3 : ws.length = 3
      · obtain ⟨x, y, z, rfl⟩ : ∃ x y z, ws = [x, y, z] := by
          match ws, h3 with
          | [x, y, z], _ => exact ⟨x, y, z, rfl⟩
        have ha : H2 a = some (.lst [V.str x, V.str y, V.str z]) := ha
        refine rd_ite (fun c => ?_) (fun c => absurd (show (([V.str x, V.str y, V.str z].length : Nat) : Int) = 3 from rfl) c)
        walk_at "rd"
        refine ⟨by walk_at "sz", fun pt npt => ?_⟩
        obtain ⟨npt, x3, hpt⟩ := alT (T := T) npt [V.str (Str.ofString "on"), .str (Str.ofString "off")]
        have ha := lst.x ha x3
        have x3 := x2.trans x3
        generalize upd H2 pt _ = H3 at x3 hpt ha ⊢
        refine rd_inWt (zs := [Str.ofString "on", Str.ofString "off"]) (SqT.of hpt) ?_
        by_cases hwd : x ∈ [Str.ofString "on", Str.ofString "off"]
        · have q : (idB y && nameB z) = true → ∀ v H', Ext T [] H H' → Q v H' := fun h => q (by show (decide (x ∈ _) && _) = true; rw [decide_eq_true hwd]; exact h)
          have qe : (idB y && nameB z) = false → ∀ H', Ext T [] H H' → E (.ref NF) none H' := fun h => qe (by show (decide (x ∈ _) && _) = false; rw [decide_eq_true hwd]; exact h)
          rw [decide_eq_true hwd]
          walk_at "rd"
          refine ⟨y, rfl, (hw.1 y (by simp)).1, fun kb v H4 x4 => ?_, fun kb H4 x4 => qe (by rw [kb]; rfl) _ (x3.trans x4)⟩
          have ha := lst.x ha x4
          have x4 := x3.trans x4
          walk_at "rd"
          refine ⟨z, rfl, (hw.1 z (by simp)).1, fun kc u H5 x5 => ?_, fun kc H5 x5 => qe (by rw [kb, kc]; rfl) _ (x4.trans x5)⟩
          walk_at "rd"
          refine ⟨by walk_at "sz", fun pr npr => ?_⟩
          obtain ⟨npr, x6, hpr⟩ := alT (T := T) npr [V.str x, v, u]
          exact q (by rw [kb, kc]; rfl) _ _ (x4.trans (x5.trans x6))
        · rw [decide_eq_false hwd]
          walk_at "rd"
          exact qe (by show (decide (x ∈ _) && _) = false; rw [decide_eq_false hwd]; rfl) _ x3
      · refine rd_ite (fun c => absurd c (by rw [hml2]; omega)) (fun c => ?_)
        walk_at "rd"
        refine qe ?_ _ x2
        match ws, h3 with
        | [], _ => rfl
        | [_], _ => rfl
        | [_, _], _ => rfl
        | [_, _, _], h => exact absurd rfl h
        | _ :: _ :: _ :: _ :: _, _ => rfl
def stepF : List Str → Bool
  | a :: m :: d => decide (a = Str.ofString "at") && (numF m && deedF d)
  | _ => false
/-- a reader of a line's words, of which there is one at least -/
def spLn (T : List (Addr × Str)) (NF : Addr) (f : List Str → Bool) : Sp := fun vs H Q E => ∃ (a : Addr) (h : Str) (t : List Str), vs = [.ref a] ∧ H a = some (.lst (V.str h :: t.map V.str)) ∧ WsOk (h :: t) ∧ (f (h :: t) = true → ∀ v H', Ext T [] H H' → Q v H') ∧ (f (h :: t) = false → ∀ H', Ext T [] H H' → E (.ref NF) none H')
theorem wsOk_tl {h : Str} {t : List Str} (w : WsOk (h :: t)) : WsOk t := ⟨fun x hx => w.1 x (List.mem_cons_of_mem _ hx), by have := w.2; rw [List.length_cons] at this; omega⟩
theorem ok_read_step (D : Def K mg "read_step" s_read_step ["words"]) (mb : ∀ x ∈ bltns, mg x = none) (X_NoForm : PlainX K mg "NoForm" NF) (G_read_number : OkN P w K mg base 3 "read_number" ["word"] (spS T NF numF)) (G_read_deed : OkN P w K mg base 8 "read_deed" ["words"] (spWs T NF deedF)) : OkN P w K mg base 9 "read_step" ["words"] (spLn T NF stepF) := by
  refine D.okN sc_read_step (fun vs H Q E h => ?_) (fun cdv f A outer s H vs Q E hr h => ?_)
  · obtain ⟨a, h, t, rfl, _⟩ := h
    rfl
  · obtain ⟨a, h, t, rfl, ha, hw, q, qe⟩ := h
    refine ⟨_, (pss_one (ps_match (pv 0) (pc_cons (pm_seqS (i := 2) K rfl rfl (pms_cons (pm_str K rfl hr.units) (pms_cons pm_name (pms_star pms_nil)))) sc_read_step.nd (.cons (i := 1) rfl (.inl rfl) (by first | exact .inl rfl | exact .inr rfl) (.cons (i := 2) rfl (.inl rfl) (by first | exact .inl rfl | exact .inr rfl) .nil)) (pss_one (ps_ret (pe_tup (pa_cons (pe_callN G_read_number (hr.mono (by decide)) (by rfl) (L2N.takes_of rfl rfl rfl rfl) (pa_cons (pv 1) pa_nil)) (pa_cons (pe_callN G_read_deed (hr.mono (by decide)) (by rfl) (L2N.takes_of rfl rfl rfl rfl) (pa_cons (pv 2) pa_nil)) pa_nil)))))
   (pc_cons pm_any sc_read_step.nd .nil (pss_one (ps_raiseN rfl X_NoForm (L2N.takes_of rfl rfl rfl rfl)))
   pc_nil)))), ?_⟩
    have hl := hw.2
    rw [List.length_cons] at hl
    have hml : (t.map V.str).length ≤ 39 := by
      rw [List.length_map]
      omega
    refine rd_match ?_
    walk_at "rdn"
    have off : ∀ H1, Ext T [] H H1 → stepF (h :: t) = false → E (.ref NF) none H1 := fun H1 x1 k => qe k H1 x1
    cases t with
    | nil =>
      refine cs_few ha (by show 1 ≤ 900; decide) (by show 1 + 1 < 3; decide) ?_
      refine mt_case ?_
      dsimp only [setL]
      walk_at "rd"
      exact off _ .refl rfl
    | cons m d =>
      have ha : H a = some (.lst (V.str h :: .str m :: d.map V.str)) := ha
      have hdl : (d.map V.str).length ≤ 39 := by
        rw [List.length_map]
        rw [List.length_cons] at hl
        omega
      by_cases hat : h = Str.ofString "at"
      · have hf : stepF (h :: m :: d) = (numF m && deedF d) := by
          show (decide (h = _) && (numF m && deedF d)) = _
          rw [decide_eq_true hat]
          rfl
        rw [hf] at q qe
        subst hat
        refine mt_case ?_
        refine mt_star2 ha (by omega) fun D1 nD1 => mt_eq (mt_nm ⟨_, _, rfl, rfl, ?_⟩)
        dsimp only [setL]
        obtain ⟨nD1, x1, hD1⟩ := alL (T := T) nD1 (d.map V.str)
        generalize upd H D1 _ = H1 at x1 hD1 ⊢
        walk_at "rd"
        refine ⟨m, rfl, (hw.1 m (by simp)).1, fun kb v H2 x2 => ?_, fun kb H2 x2 => qe (by rw [kb]; rfl) _ (x1.trans x2)⟩
        have hD1 := lst.x hD1 x2
        have x2 := x1.trans x2
        walk_at "rd"
        refine ⟨D1, d, rfl, hD1, wsOk_tl (wsOk_tl hw), fun kc u H3 x3 => ?_, fun kc H3 x3 => qe (by rw [kb, kc]; rfl) _ (x2.trans x3)⟩
        walk_at "rd"
        refine ⟨by walk_at "sz", fun pr npr => ?_⟩
        obtain ⟨npr, x4, hpr⟩ := alT (T := T) npr [v, u]
        exact q (by rw [kb, kc]; rfl) _ _ (x2.trans (x3.trans x4))
      · refine cs_skipS (T := T) (by decide) ha (by rw [List.length_cons]; omega) hat fun H1 x1 _ => ?_
        refine mt_case ?_
        dsimp only [setL]
        walk_at "rd"
        refine off _ x1 ?_
        show (decide (h = _) && (numF m && deedF d)) = _
        rw [decide_eq_false hat]
        rfl
def waitF : List Str → Bool
  | [a, b, c, d] => decide (a = Str.ofString "wait") && [b, c, d].all numF
  | _ => false
theorem ok_read_wait (D : Def K mg "read_wait" s_read_wait ["words"]) (mb : ∀ x ∈ bltns, mg x = none) (X_NoForm : PlainX K mg "NoForm" NF) (G_read_numbers : OkN P w K mg base 4 "read_numbers" ["words"] (spWs T NF fun ws => ws.all numF)) : OkN P w K mg base 5 "read_wait" ["words"] (spLn T NF waitF) := by
  refine D.okN sc_read_wait (fun vs H Q E h => ?_) (fun cdv f A outer s H vs Q E hr h => ?_)
  · obtain ⟨a, h, t, rfl, _⟩ := h
    rfl
  · obtain ⟨a, h, t, rfl, ha, hw, q, qe⟩ := h
    refine ⟨_, (pss_cons (ps_if (PW.pt (pw_or (pt_cmpR (op_neU K rfl hr.units) (pe_callB (call_lenU K rfl) (by rfl) (mb _ (by decide)) (by decide +kernel) (pa_cons (pv 0) pa_nil)) pe_int (nomark _)) (pw_or1 (pt_cmpR (op_neU K rfl hr.units) (pe_ix (ix_U K rfl) (pv 0) pe_int (fun _ _ => rfl)) pe_str (nomark _))))) (pss_one (ps_raiseN rfl X_NoForm (L2N.takes_of rfl rfl rfl rfl))) pss_nil)
   (pss_one (ps_ret (pe_callN G_read_numbers (hr.mono (by decide)) (by rfl) (L2N.takes_of rfl rfl rfl rfl) (pa_cons (pe_slice (sl_U K rfl) (pv 0) (po_some pe_int) po_none) pa_nil))))), ?_⟩
    have hl := hw.2
    rw [List.length_cons] at hl
    have hml : (V.str h :: t.map V.str).length ≤ 40 := by
      rw [List.length_cons, List.length_map]
      omega
    have hml2 : ((V.str h :: t.map V.str).length : Int) = (t.length : Int) + 1 := by
      rw [List.length_cons, List.length_map]
      rfl
    by_cases h3 : t.length = 3
    · obtain ⟨x, y, z, rfl⟩ : ∃ x y z, t = [x, y, z] := by
        match t, h3 with
        | [x, y, z], _ => exact ⟨x, y, z, rfl⟩
      have ha : H a = some (.lst [V.str h, V.str x, V.str y, V.str z]) := ha
      walk_at "rd"
      rw [decide_eq_true (show (([V.str h, V.str x, V.str y, V.str z].length : Nat) : Int) = 4 from rfl)]
      walk_at "rd"
      by_cases hwt : h = Str.ofString "wait"
      · have hf : waitF (h :: [x, y, z]) = [x, y, z].all numF := by
          show (decide (h = _) && [x, y, z].all numF) = _
          rw [decide_eq_true hwt]
          rfl
        rw [hf] at q qe
        rw [decide_eq_true hwt]
        walk_at "rd"
        refine rd_slL (SqL.of ha) fun p1 np1 => ?_
        have ec : cutV [V.str h, V.str x, V.str y, V.str z] (some 1) none = [x, y, z].map V.str := rfl
        rw [ec]
        obtain ⟨np1, x1, hp1⟩ := alL (T := T) np1 ([x, y, z].map V.str)
        generalize upd H p1 _ = H1 at x1 hp1 ⊢
        walk_at "rd"
        exact ⟨p1, [x, y, z], rfl, hp1, wsOk_tl hw, fun kb v H2 x2 => q kb _ _ (x1.trans x2), fun kb H2 x2 => qe kb _ (x1.trans x2)⟩
      · rw [decide_eq_false hwt]
        walk_at "rd"
        refine qe ?_ _ .refl
        show (decide (h = _) && [x, y, z].all numF) = _
        rw [decide_eq_false hwt]
        rfl
    · walk_at "rd"
      rw [decide_eq_false (show ¬ ((V.str h :: t.map V.str).length : Int) = 4 by rw [hml2]; omega)]
      walk_at "rd"
      refine qe ?_ _ .refl
      match t, h3 with
      | [], _ => rfl
      | [_], _ => rfl
      | [_, _], _ => rfl
      | [_, _, _], h => exact absurd rfl h
      | _ :: _ :: _ :: _ :: _, _ => rfl
end

open PySem PySem.Spec PyProof.Rows L2
open PySem.W (EachIs)
section
variable {T : List (Addr × Str)} {P : Program} {w : World} {K : PySem.W.Frag} {mg : Str → Option Value} {base : Heap} {NF : Addr}
local macro_rules | `(tactic| walk_at "tr") => `(tactic| first
  | assumption
  | exact Ext.refl
  | ((with_reducible refine' Im.x (T := T) (H := ?trH) ?tra ?tre); (case tre => assumption); (case tra => walk_at "tr"))
  | ((with_reducible refine' Im.y (T := T) (H := ?trH) ?tra ?tre ?trt); (case tre => assumption); (case trt => walk_at "tr"); (case tra => walk_at "tr"))
  | ((with_reducible refine' ImAll.x (T := T) (H := ?trH) ?tra ?tre); (case tre => assumption); (case tra => walk_at "tr"))
  | ((with_reducible refine' ImAll.y (T := T) (H := ?trH) ?tra ?tre ?trt); (case tre => assumption); (case trt => walk_at "tr"); (case tra => walk_at "tr"))
  | ((with_reducible refine' Ls.x (T := T) (H := ?trH) ?tra ?tre); (case tre => assumption); (case tra => walk_at "tr"))
  | ((with_reducible refine' Ls.y (T := T) (H := ?trH) ?tra ?tre ?trn ?trt); (case tre => assumption); (case trt => walk_at "tr"); (case trn => walk_at "tr"); (case tra => walk_at "tr"))
  | ((with_reducible refine' SqP.x (T := T) (H := ?trH) ?tra ?tre); (case tre => assumption); (case tra => walk_at "tr"))
  | ((with_reducible refine' SqP.y (T := T) (H := ?trH) ?tra ?tre ?trt); (case tre => assumption); (case trt => walk_at "tr"); (case tra => walk_at "tr"))
  | ((with_reducible refine' StAt.x (T := T) (H := ?trH) ?tra ?tre); (case tre => assumption); (case tra => walk_at "tr"))
  | ((with_reducible refine' StAt.y (T := T) (H := ?trH) ?tra ?tre ?trt); (case tre => assumption); (case trt => walk_at "tr"); (case tra => walk_at "tr"))
  | ((with_reducible refine' Pools.ext0 (T := T) (H := ?trH) ?tra ?tre); (case tre => assumption); (case tra => walk_at "tr"))
  | ((with_reducible refine' Pools.ext (T := T) (H := ?trH) ?tra ?tre ?trt); (case tre => assumption); (case trt => walk_at "tr"); (case tra => walk_at "tr"))
  | ((with_reducible refine' CL.x (T := T) (H := ?trH) ?tra ?tre); (case tre => assumption); (case tra => walk_at "tr"))
  | ((with_reducible refine' CL.y (T := T) (H := ?trH) ?tra ?tre); (case tre => assumption); (case tra => walk_at "tr"))
  | ((with_reducible refine' Tape.ext (T := T) (H := ?trH) ?tra ?tre); (case tre => assumption); (case tra => walk_at "tr"))
  | ((with_reducible refine' lst.x (T := T) (H := ?trH) ?tra ?tre); (case tre => assumption); (case tra => walk_at "tr"))
  | ((with_reducible refine' lst.y (T := T) (H := ?trH) ?tra ?tre ?trn); (case tre => assumption); (case trn => walk_at "tr"); (case tra => walk_at "tr"))
  | ((with_reducible refine' tup.x (T := T) (H := ?trH) ?tra ?tre); (case tre => assumption); (case tra => walk_at "tr"))
  | ((with_reducible refine' tup.y (T := T) (H := ?trH) ?tra ?tre ?trt); (case tre => assumption); (case trt => walk_at "tr"); (case tra => walk_at "tr"))
  | ((with_reducible refine' frz.x (T := T) (H := ?trH) ?tra ?tre); (case tre => assumption); (case tra => walk_at "tr"))
  | ((with_reducible refine' frz.y (T := T) (H := ?trH) ?tra ?tre ?trt); (case tre => assumption); (case trt => walk_at "tr"); (case tra => walk_at "tr"))
  | ((with_reducible refine' Im.z (T := T) (H := ?trH) ?tra ?tre ?trt); (case tre => assumption); (case trt => assumption); (case tra => walk_at "tr"))
  | ((with_reducible refine' ImAll.z (T := T) (H := ?trH) ?tra ?tre ?trt); (case tre => assumption); (case trt => assumption); (case tra => walk_at "tr"))
  | ((with_reducible refine' StAt.z (T := T) (H := ?trH) ?tra ?tre ?trt); (case tre => assumption); (case trt => assumption); (case tra => walk_at "tr"))
  | ((with_reducible refine' SqP.z (T := T) (H := ?trH) ?tra ?tre ?trt); (case tre => assumption); (case trt => assumption); (case tra => walk_at "tr"))
  | ((with_reducible refine' tup.z (T := T) (H := ?trH) ?tra ?tre ?trt); (case tre => assumption); (case trt => assumption); (case tra => walk_at "tr"))
  | ((with_reducible refine' Ls.z (T := T) (H := ?trH) ?tra ?tre ?trt ?trn); (case tre => assumption); (case trt => assumption); (case trn => assumption); (case tra => walk_at "tr"))
  | ((with_reducible refine' lst.z (T := T) (H := ?trH) ?tra ?tre ?trn); (case tre => assumption); (case trn => assumption); (case tra => walk_at "tr"))
  | ((with_reducible refine' CL.z (T := T) (H := ?trH) ?tra ?tre ?trn); (case tre => assumption); (case trn => assumption); (case tra => walk_at "tr"))
  | ((with_reducible refine' Tape.ne1 (H := ?trH) ?trt ?trn); (case trn => assumption); (case trt => walk_at "tr"))
  | ((with_reducible refine' Ext.trans (H1 := ?trH) ?tra (Ext.any ?tre)); (case tre => assumption); (case tra => walk_at "tr"))
  | ((with_reducible refine' Ext.trans (H1 := ?trH) ?tra ?tre); (case tre => assumption); (case tra => walk_at "tr"))
  | ((with_reducible refine' Ext.back1 (T := T) (H1 := ?trH) ?tre ?trn ?tra); (case tra => assumption); (case trn => walk_at "tr"); (case tre => walk_at "tr"))
  | ((with_reducible refine' Ext.back0 (T := T) (H1 := ?trH) ?tre ?tra); (case tra => assumption); (case tre => walk_at "tr"))
  | ((with_reducible refine' SqT.of ?tra); (case tra => walk_at "tr"))
  | ((with_reducible refine' SqL.of ?tra); (case tra => walk_at "tr")))

def goF : List Str → Bool
  | [m] => numF m
  | _ => false
def fillF (t : List Str) : Bool := slotF (t.take (szF t)) && (t.drop (szF t)).all numF
def askE : List Str → Bool
  | n :: k :: ps => nameB n && (idB k && ps.all numF)
  | _ => false
def loseF : List Str → Bool
  | [z, k] => nameB z && idB k
  | _ => false
def eventF : List Str → Bool
  | [] => false
  | h :: t => if h = Str.ofString "go" then goF t else if h = Str.ofString "fill" then fillF t else if h = Str.ofString "ask" then askE t else if h = Str.ofString "drop" then slotF t else if h = Str.ofString "plant" then placedF t else if h = Str.ofString "lose" then loseF t else false
theorem ok_read_event (D : Def K mg "read_event" s_read_event ["words"]) (mb : ∀ x ∈ bltns, mg x = none) (X_NoForm : PlainX K mg "NoForm" NF) (G_read_number : OkN P w K mg base 3 "read_number" ["word"] (spS T NF numF)) (G_split_slot : OkN P w K mg base 6 "split_slot" ["words"] (spSplit T NF)) (G_read_numbers : OkN P w K mg base 4 "read_numbers" ["words"] (spWs T NF fun ws => ws.all numF))
    (G_read_name : OkN P w K mg base 4 "read_name" ["word"] (spS T NF nameB)) (G_read_id : OkN P w K mg base 3 "read_id" ["word"] (spS T NF idB)) (G_read_slot : OkN P w K mg base 5 "read_slot" ["words"] (spSlot T NF)) (G_read_placed : OkN P w K mg base 7 "read_placed" ["words"] (spWsT T NF placedF)) : OkN P w K mg base 8 "read_event" ["words"] (spLn T NF eventF) := by
  refine D.okN sc_read_event (fun vs H Q E h => ?_) (fun cdv f A outer s H vs Q E hr h => ?_)
  · obtain ⟨a, h, t, rfl, _⟩ := h
    rfl
  · obtain ⟨a, h, t, rfl, ha, hw, q, qe⟩ := h
    refine ⟨_, (pss_one (ps_match (pv 0) (pc_cons (pm_seq K rfl rfl (pms_cons (pm_str K rfl hr.units) (pms_cons pm_name pms_nil))) sc_read_event.nd (.cons (i := 1) rfl (.inl rfl) (by first | exact .inl rfl | exact .inr rfl) .nil) (pss_one (ps_ret (pe_tup (pa_cons pe_str (pa_cons (pe_callN G_read_number (hr.mono (by decide)) (by rfl) (L2N.takes_of rfl rfl rfl rfl) (pa_cons (pv 1) pa_nil)) pa_nil)))))
   (pc_cons (pm_seqS (i := 1) K rfl rfl (pms_cons (pm_str K rfl hr.units) (pms_star pms_nil))) sc_read_event.nd (.cons (i := 2) rfl (.inl rfl) (by first | exact .inl rfl | exact .inr rfl) .nil) (pss_cons (ps_asg (pe_callN G_split_slot (hr.mono (by decide)) (by rfl) (L2N.takes_of rfl rfl rfl rfl) (pa_cons (pv 2) pa_nil)) (pg_tupU (n := 2) K rfl rfl (pgs_cons (pg_name (i := 3) sc_read_event.nd rfl (.inl rfl)) (pgs_cons (pg_name (i := 4) sc_read_event.nd rfl (.inl rfl)) pgs_nil))))
   (pss_one (ps_ret (pe_tup (pa_cons pe_str (pa_cons (pv 3) (pa_cons (pe_callN G_read_numbers (hr.mono (by decide)) (by rfl) (L2N.takes_of rfl rfl rfl rfl) (pa_cons (pv 4) pa_nil)) pa_nil)))))))
   (pc_cons (pm_seqS (i := 3) K rfl rfl (pms_cons (pm_str K rfl hr.units) (pms_cons pm_name (pms_cons pm_name (pms_star pms_nil))))) sc_read_event.nd (.cons (i := 5) rfl (.inl rfl) (by first | exact .inl rfl | exact .inr rfl) (.cons (i := 6) rfl (.inl rfl) (by first | exact .inl rfl | exact .inr rfl) (.cons (i := 7) rfl (.inl rfl) (by first | exact .inl rfl | exact .inr rfl) .nil))) (pss_one (ps_ret (pe_tup (pa_cons pe_str (pa_cons (pe_callN G_read_name (hr.mono (by decide)) (by rfl) (L2N.takes_of rfl rfl rfl rfl) (pa_cons (pv 5) pa_nil)) (pa_cons (pe_callN G_read_id (hr.mono (by decide)) (by rfl) (L2N.takes_of rfl rfl rfl rfl) (pa_cons (pv 6) pa_nil)) (pa_cons (pe_callN G_read_numbers (hr.mono (by decide)) (by rfl) (L2N.takes_of rfl rfl rfl rfl) (pa_cons (pv 7) pa_nil)) pa_nil)))))))
   (pc_cons (pm_seqS (i := 1) K rfl rfl (pms_cons (pm_str K rfl hr.units) (pms_star pms_nil))) sc_read_event.nd (.cons (i := 2) rfl (.inl rfl) (by first | exact .inl rfl | exact .inr rfl) .nil) (pss_one (ps_ret (pe_tup (pa_cons pe_str (pa_cons (pe_callN G_read_slot (hr.mono (by decide)) (by rfl) (L2N.takes_of rfl rfl rfl rfl) (pa_cons (pv 2) pa_nil)) pa_nil)))))
   (pc_cons (pm_seqS (i := 1) K rfl rfl (pms_cons (pm_str K rfl hr.units) (pms_star pms_nil))) sc_read_event.nd (.cons (i := 2) rfl (.inl rfl) (by first | exact .inl rfl | exact .inr rfl) .nil) (pss_cons (ps_asg (pe_callN G_read_placed (hr.mono (by decide)) (by rfl) (L2N.takes_of rfl rfl rfl rfl) (pa_cons (pv 2) pa_nil)) (pg_tupU (n := 2) K rfl rfl (pgs_cons (pg_name (i := 3) sc_read_event.nd rfl (.inl rfl)) (pgs_cons (pg_name (i := 8) sc_read_event.nd rfl (.inl rfl)) pgs_nil))))
   (pss_one (ps_ret (pe_tup (pa_cons pe_str (pa_cons (pv 3) (pa_cons (pv 8) pa_nil)))))))
   (pc_cons (pm_seq K rfl rfl (pms_cons (pm_str K rfl hr.units) (pms_cons pm_name (pms_cons pm_name pms_nil)))) sc_read_event.nd (.cons (i := 9) rfl (.inl rfl) (by first | exact .inl rfl | exact .inr rfl) (.cons (i := 10) rfl (.inl rfl) (by first | exact .inl rfl | exact .inr rfl) .nil)) (pss_one (ps_ret (pe_tup (pa_cons pe_str (pa_cons (pe_callN G_read_name (hr.mono (by decide)) (by rfl) (L2N.takes_of rfl rfl rfl rfl) (pa_cons (pv 9) pa_nil)) (pa_cons (pe_callN G_read_id (hr.mono (by decide)) (by rfl) (L2N.takes_of rfl rfl rfl rfl) (pa_cons (pv 10) pa_nil)) pa_nil))))))
   (pc_cons pm_any sc_read_event.nd .nil (pss_one (ps_raiseN rfl X_NoForm (L2N.takes_of rfl rfl rfl rfl)))
   pc_nil))))))))), ?_⟩
    have hl := hw.2
    rw [List.length_cons] at hl
    have hml : (t.map V.str).length ≤ 39 := by
      rw [List.length_map]
      omega
    refine rd_match ?_
    walk_at "rdn"
    have x : Ext T [] H H := .refl
    have hf : eventF (h :: t) = (if h = Str.ofString "go" then goF t else if h = Str.ofString "fill" then fillF t else if h = Str.ofString "ask" then askE t else if h = Str.ofString "drop" then slotF t else if h = Str.ofString "plant" then placedF t else if h = Str.ofString "lose" then loseF t else false) := rfl
    by_cases c0 : h = Str.ofString "go"
    · rw [if_pos c0] at hf
      rw [hf] at q qe
      subst c0
      by_cases h1 : t.length = 1
      · obtain ⟨m, rfl⟩ : ∃ m, t = [m] := by
          match t, h1 with
          | [m], _ => exact ⟨m, rfl⟩
        have ha : H a = some (.lst [V.str (Str.ofString "go"), .str m]) := ha
        have q : numF m = true → ∀ v H', Ext T [] H H' → Q v H' := q
        have qe : numF m = false → ∀ H', Ext T [] H H' → E (.ref NF) none H' := qe
        refine mt_case (mt_seq (SqL.of ha) rfl (mt_eq (mt_nm ⟨rfl, ?_⟩)))
        dsimp only [setL]
        walk_at "rd"
        refine ⟨m, rfl, (hw.1 m (by simp)).1, fun k0 v0 H1 x1 => ?_, fun k0 H1 x1 => qe k0 _ (x.trans x1)⟩
        have x := x.trans x1
        walk_at "rd"
        refine ⟨by walk_at "sz", fun pr npr => ?_⟩
        obtain ⟨npr, x1, hpr⟩ := alT (T := T) npr [V.str (Str.ofString "go"), v0]
        exact q k0 _ _ (x.trans x1)
      · refine cs_off ha (by rw [List.length_cons, List.length_map]; show ¬ (t.length + 1 = 2); omega) ?_
        refine cs_skipS (T := T) (by decide) ha (by omega) (by decide +kernel) fun H1 x1 ha => ?_
        have x := x.trans x1
        refine cs_skipS (T := T) (by decide) ha (by omega) (by decide +kernel) fun H1 x1 ha => ?_
        have x := x.trans x1
        refine cs_skipS (T := T) (by decide) ha (by omega) (by decide +kernel) fun H1 x1 ha => ?_
        have x := x.trans x1
        refine cs_skipS (T := T) (by decide) ha (by omega) (by decide +kernel) fun H1 x1 ha => ?_
        have x := x.trans x1
        refine cs_skip ha (by decide +kernel) ?_
        have hg : goF t = false := by
          match t, h1 with
          | [], _ => rfl
          | [_], h => exact absurd rfl h
          | _ :: _ :: _, _ => rfl
        refine mt_case ?_
        dsimp only [setL]
        walk_at "rd"
        exact qe hg _ x
    rw [if_neg c0] at hf
    by_cases c1 : h = Str.ofString "fill"
    · rw [if_pos c1] at hf
      rw [hf] at q qe
      subst c1
      refine cs_skip ha (by decide +kernel) ?_
      refine mt_case (mt_star1 ha (by omega) fun D1 nD1 => mt_eq ⟨_, _, rfl, rfl, ?_⟩)
      dsimp only [setL]
      obtain ⟨nD1, x1, hD1⟩ := alL (T := T) nD1 (t.map V.str)
      generalize upd _ D1 _ = H1 at x1 hD1 ⊢
      have x := x.trans x1
      have hfl : fillF t = (slotF (t.take (szF t)) && (t.drop (szF t)).all numF) := rfl
      rw [hfl] at q qe
      walk_at "rdn"
      refine rd_seq ?_
      walk_at "rdn"
      refine ⟨D1, t, rfl, hD1, wsOk_tl hw, fun k0 tp ps r y z rs H2 _ x1 ht hp hr => ?_, fun k0 H2 x1 => qe (by rw [k0]; rfl) _ (x.trans x1)⟩
      have x := x.trans x1
      refine rd_gtup (SqT.of ht) rfl (rd_gcons (rd_name (rd_gcons (rd_name (rd_gnil ?_)))))
      walk_at "rd"
      refine ⟨r, t.drop (szF t), rfl, hr, wsOk_drop (wsOk_tl hw) _, fun k1 v1 H1 x1 => ?_, fun k1 H1 x1 => qe (by rw [k0]; exact k1) _ (x.trans x1)⟩
      have x := x.trans x1
      walk_at "rd"
      refine ⟨by walk_at "sz", fun pr npr => ?_⟩
      obtain ⟨npr, x1, hpr⟩ := alT (T := T) npr [V.str (Str.ofString "fill"), .ref ps, v1]
      exact q (by rw [k0]; exact k1) _ _ (x.trans x1)
    rw [if_neg c1] at hf
    by_cases c2 : h = Str.ofString "ask"
    · rw [if_pos c2] at hf
      rw [hf] at q qe
      subst c2
      refine cs_skip ha (by decide +kernel) ?_
      refine cs_skipS (T := T) (by decide) ha (by omega) (by decide +kernel) fun H1 x1 ha => ?_
      have x := x.trans x1
      by_cases h1 : 2 ≤ t.length
      · obtain ⟨n, k, ps, rfl⟩ : ∃ n k ps, t = n :: k :: ps := by
          match t, h1 with
          | n :: k :: ps, _ => exact ⟨n, k, ps, rfl⟩
        have ha : _ = some (HO.lst (V.str (Str.ofString "ask") :: .str n :: .str k :: ps.map V.str)) := ha
        have q : (nameB n && (idB k && ps.all numF)) = true → ∀ v H', Ext T [] H H' → Q v H' := q
        have qe : (nameB n && (idB k && ps.all numF)) = false → ∀ H', Ext T [] H H' → E (.ref NF) none H' := qe
        have hpl : (ps.map V.str).length ≤ 39 := by
          simp only [List.length_map, List.length_cons] at hml ⊢
          omega
        refine mt_case (mt_star3 ha (by omega) fun D1 nD1 => mt_eq (mt_nm (mt_nm ⟨_, _, rfl, rfl, ?_⟩)))
        dsimp only [setL]
        obtain ⟨nD1, x1, hD1⟩ := alL (T := T) nD1 (ps.map V.str)
        generalize upd _ D1 _ = H1 at x1 hD1 ⊢
        have x := x.trans x1
        walk_at "rd"
        refine ⟨n, rfl, (hw.1 n (by simp)).1, fun k0 v0 H1 x1 => ?_, fun k0 H1 x1 => qe (by rw [k0]; rfl) _ (x.trans x1)⟩
        have x := x.trans x1
        have hD1 := lst.x hD1 x1
        walk_at "rd"
        refine ⟨k, rfl, (hw.1 k (by simp)).1, fun k1 v1 H1 x1 => ?_, fun k1 H1 x1 => qe (by rw [k0, k1]; rfl) _ (x.trans x1)⟩
        have x := x.trans x1
        have hD1 := lst.x hD1 x1
        walk_at "rd"
        refine ⟨D1, ps, rfl, hD1, wsOk_tl (wsOk_tl (wsOk_tl hw)), fun k2 v2 H1 x1 => ?_, fun k2 H1 x1 => qe (by rw [k0, k1]; exact k2) _ (x.trans x1)⟩
        have x := x.trans x1
        walk_at "rd"
        refine ⟨by walk_at "sz", fun pr npr => ?_⟩
        obtain ⟨npr, x1, hpr⟩ := alT (T := T) npr [V.str (Str.ofString "ask"), v0, v1, v2]
        exact q (by rw [k0, k1]; exact k2) _ _ (x.trans x1)
      · refine cs_few ha (by rw [List.length_cons, List.length_map]; omega) (by rw [List.length_cons, List.length_map]; show t.length + 1 + 1 < 4; omega) ?_
        refine cs_skipS (T := T) (by decide) ha (by omega) (by decide +kernel) fun H1 x1 ha => ?_
        have x := x.trans x1
        refine cs_skipS (T := T) (by decide) ha (by omega) (by decide +kernel) fun H1 x1 ha => ?_
        have x := x.trans x1
        refine cs_skip ha (by decide +kernel) ?_
        have hg : askE t = false := by
          match t, h1 with
          | [], _ => rfl
          | [_], _ => rfl
          | _ :: _ :: r, h => exact absurd (show 2 ≤ r.length + 1 + 1 by omega) h
        refine mt_case ?_
        dsimp only [setL]
        walk_at "rd"
        exact qe hg _ x
    rw [if_neg c2] at hf
    by_cases c3 : h = Str.ofString "drop"
    · rw [if_pos c3] at hf
      rw [hf] at q qe
      subst c3
      refine cs_skip ha (by decide +kernel) ?_
      refine cs_skipS (T := T) (by decide) ha (by omega) (by decide +kernel) fun H1 x1 ha => ?_
      have x := x.trans x1
      refine cs_skipS (T := T) (by decide) ha (by omega) (by decide +kernel) fun H1 x1 ha => ?_
      have x := x.trans x1
      refine mt_case (mt_star1 ha (by omega) fun D1 nD1 => mt_eq ⟨_, _, rfl, rfl, ?_⟩)
      dsimp only [setL]
      obtain ⟨nD1, x1, hD1⟩ := alL (T := T) nD1 (t.map V.str)
      generalize upd _ D1 _ = H1 at x1 hD1 ⊢
      have x := x.trans x1
      walk_at "rd"
      refine ⟨D1, t, rfl, hD1, wsOk_tl hw, fun k0 p y z rs H2 _ x1 hp => ?_, fun k0 H2 x1 => qe k0 _ (x.trans x1)⟩
      have x := x.trans x1
      walk_at "rd"
      refine ⟨by walk_at "sz", fun pr npr => ?_⟩
      obtain ⟨npr, x1, hpr⟩ := alT (T := T) npr [V.str (Str.ofString "drop"), .ref p]
      exact q k0 _ _ (x.trans x1)
    rw [if_neg c3] at hf
    by_cases c4 : h = Str.ofString "plant"
    · rw [if_pos c4] at hf
      rw [hf] at q qe
      subst c4
      refine cs_skip ha (by decide +kernel) ?_
      refine cs_skipS (T := T) (by decide) ha (by omega) (by decide +kernel) fun H1 x1 ha => ?_
      have x := x.trans x1
      refine cs_skipS (T := T) (by decide) ha (by omega) (by decide +kernel) fun H1 x1 ha => ?_
      have x := x.trans x1
      refine cs_skipS (T := T) (by decide) ha (by omega) (by decide +kernel) fun H1 x1 ha => ?_
      have x := x.trans x1
      refine mt_case (mt_star1 ha (by omega) fun D1 nD1 => mt_eq ⟨_, _, rfl, rfl, ?_⟩)
      dsimp only [setL]
      obtain ⟨nD1, x1, hD1⟩ := alL (T := T) nD1 (t.map V.str)
      generalize upd _ D1 _ = H1 at x1 hD1 ⊢
      have x := x.trans x1
      walk_at "rdn"
      refine rd_seq ?_
      walk_at "rdn"
      refine ⟨D1, t, rfl, hD1, wsOk_tl hw, fun k0 p v u H2 x1 ht => ?_, fun k0 H2 x1 => qe k0 _ (x.trans x1)⟩
      have x := x.trans x1
      refine rd_gtup (SqT.of ht) rfl (rd_gcons (rd_name (rd_gcons (rd_name (rd_gnil ?_)))))
      walk_at "rd"
      refine ⟨by walk_at "sz", fun pr npr => ?_⟩
      obtain ⟨npr, x1, hpr⟩ := alT (T := T) npr [V.str (Str.ofString "plant"), v, u]
      exact q k0 _ _ (x.trans x1)
    rw [if_neg c4] at hf
    by_cases c5 : h = Str.ofString "lose"
    · rw [if_pos c5] at hf
      rw [hf] at q qe
      subst c5
      refine cs_skip ha (by decide +kernel) ?_
      refine cs_skipS (T := T) (by decide) ha (by omega) (by decide +kernel) fun H1 x1 ha => ?_
      have x := x.trans x1
      refine cs_skipS (T := T) (by decide) ha (by omega) (by decide +kernel) fun H1 x1 ha => ?_
      have x := x.trans x1
      refine cs_skipS (T := T) (by decide) ha (by omega) (by decide +kernel) fun H1 x1 ha => ?_
      have x := x.trans x1
      refine cs_skipS (T := T) (by decide) ha (by omega) (by decide +kernel) fun H1 x1 ha => ?_
      have x := x.trans x1
      by_cases h1 : t.length = 2
      · obtain ⟨z, k, rfl⟩ : ∃ z k, t = [z, k] := by
          match t, h1 with
          | [z, k], _ => exact ⟨z, k, rfl⟩
        have ha : _ = some (HO.lst [V.str (Str.ofString "lose"), .str z, .str k]) := ha
        have q : (nameB z && idB k) = true → ∀ v H', Ext T [] H H' → Q v H' := q
        have qe : (nameB z && idB k) = false → ∀ H', Ext T [] H H' → E (.ref NF) none H' := qe
        refine mt_case (mt_seq (SqL.of ha) rfl (mt_eq (mt_nm (mt_nm ⟨rfl, ?_⟩))))
        dsimp only [setL]
        walk_at "rd"
        refine ⟨z, rfl, (hw.1 z (by simp)).1, fun k0 v0 H1 x1 => ?_, fun k0 H1 x1 => qe (by rw [k0]; rfl) _ (x.trans x1)⟩
        have x := x.trans x1
        walk_at "rd"
        refine ⟨k, rfl, (hw.1 k (by simp)).1, fun k1 v1 H1 x1 => ?_, fun k1 H1 x1 => qe (by rw [k0, k1]; rfl) _ (x.trans x1)⟩
        have x := x.trans x1
        walk_at "rd"
        refine ⟨by walk_at "sz", fun pr npr => ?_⟩
        obtain ⟨npr, x1, hpr⟩ := alT (T := T) npr [V.str (Str.ofString "lose"), v0, v1]
        exact q (by rw [k0, k1]; rfl) _ _ (x.trans x1)
      · refine cs_off ha (by rw [List.length_cons, List.length_map]; show ¬ (t.length + 1 = 3); omega) ?_
        have hg : loseF t = false := by
          match t, h1 with
          | [], _ => rfl
          | [_], _ => rfl
          | [_, _], h => exact absurd rfl h
          | _ :: _ :: _ :: _, _ => rfl
        refine mt_case ?_
        dsimp only [setL]
        walk_at "rd"
        exact qe hg _ x
    rw [if_neg c5] at hf
    refine cs_skip ha (c0) ?_
    refine cs_skipS (T := T) (by decide) ha (by omega) (c1) fun H1 x1 ha => ?_
    have x := x.trans x1
    refine cs_skipS (T := T) (by decide) ha (by omega) (c2) fun H1 x1 ha => ?_
    have x := x.trans x1
    refine cs_skipS (T := T) (by decide) ha (by omega) (c3) fun H1 x1 ha => ?_
    have x := x.trans x1
    refine cs_skipS (T := T) (by decide) ha (by omega) (c4) fun H1 x1 ha => ?_
    have x := x.trans x1
    refine cs_skip ha (c5) ?_
    refine mt_case ?_
    dsimp only [setL]
    walk_at "rd"
    exact qe hf _ x
end

open PySem PySem.Spec PyProof.Rows L2
open PySem.W (EachIs)
section
variable {T : List (Addr × Str)} {P : Program} {w : World} {K : PySem.W.Frag} {mg : Str → Option Value} {base : Heap} {NF : Addr}
local macro_rules | `(tactic| walk_at "tr") => `(tactic| first
  | assumption
  | exact Ext.refl
  | ((with_reducible refine' Im.x (T := T) (H := ?trH) ?tra ?tre); (case tre => assumption); (case tra => walk_at "tr"))
  | ((with_reducible refine' Im.y (T := T) (H := ?trH) ?tra ?tre ?trt); (case tre => assumption); (case trt => walk_at "tr"); (case tra => walk_at "tr"))
  | ((with_reducible refine' ImAll.x (T := T) (H := ?trH) ?tra ?tre); (case tre => assumption); (case tra => walk_at "tr"))
  | ((with_reducible refine' ImAll.y (T := T) (H := ?trH) ?tra ?tre ?trt); (case tre => assumption); (case trt => walk_at "tr"); (case tra => walk_at "tr"))
  | ((with_reducible refine' Ls.x (T := T) (H := ?trH) ?tra ?tre); (case tre => assumption); (case tra => walk_at "tr"))
  | ((with_reducible refine' Ls.y (T := T) (H := ?trH) ?tra ?tre ?trn ?trt); (case tre => assumption); (case trt => walk_at "tr"); (case trn => walk_at "tr"); (case tra => walk_at "tr"))
  | ((with_reducible refine' SqP.x (T := T) (H := ?trH) ?tra ?tre); (case tre => assumption); (case tra => walk_at "tr"))
  | ((with_reducible refine' SqP.y (T := T) (H := ?trH) ?tra ?tre ?trt); (case tre => assumption); (case trt => walk_at "tr"); (case tra => walk_at "tr"))
  | ((with_reducible refine' StAt.x (T := T) (H := ?trH) ?tra ?tre); (case tre => assumption); (case tra => walk_at "tr"))
  | ((with_reducible refine' StAt.y (T := T) (H := ?trH) ?tra ?tre ?trt); (case tre => assumption); (case trt => walk_at "tr"); (case tra => walk_at "tr"))
  | ((with_reducible refine' Pools.ext0 (T := T) (H := ?trH) ?tra ?tre); (case tre => assumption); (case tra => walk_at "tr"))
  | ((with_reducible refine' Pools.ext (T := T) (H := ?trH) ?tra ?tre ?trt); (case tre => assumption); (case trt => walk_at "tr"); (case tra => walk_at "tr"))
  | ((with_reducible refine' CL.x (T := T) (H := ?trH) ?tra ?tre); (case tre => assumption); (case tra => walk_at "tr"))
  | ((with_reducible refine' CL.y (T := T) (H := ?trH) ?tra ?tre); (case tre => assumption); (case tra => walk_at "tr"))
  | ((with_reducible refine' Tape.ext (T := T) (H := ?trH) ?tra ?tre); (case tre => assumption); (case tra => walk_at "tr"))
  | ((with_reducible refine' lst.x (T := T) (H := ?trH) ?tra ?tre); (case tre => assumption); (case tra => walk_at "tr"))
  | ((with_reducible refine' lst.y (T := T) (H := ?trH) ?tra ?tre ?trn); (case tre => assumption); (case trn => walk_at "tr"); (case tra => walk_at "tr"))
  | ((with_reducible refine' tup.x (T := T) (H := ?trH) ?tra ?tre); (case tre => assumption); (case tra => walk_at "tr"))
  | ((with_reducible refine' tup.y (T := T) (H := ?trH) ?tra ?tre ?trt); (case tre => assumption); (case trt => walk_at "tr"); (case tra => walk_at "tr"))
  | ((with_reducible refine' frz.x (T := T) (H := ?trH) ?tra ?tre); (case tre => assumption); (case tra => walk_at "tr"))
  | ((with_reducible refine' frz.y (T := T) (H := ?trH) ?tra ?tre ?trt); (case tre => assumption); (case trt => walk_at "tr"); (case tra => walk_at "tr"))
  | ((with_reducible refine' Im.z (T := T) (H := ?trH) ?tra ?tre ?trt); (case tre => assumption); (case trt => assumption); (case tra => walk_at "tr"))
  | ((with_reducible refine' ImAll.z (T := T) (H := ?trH) ?tra ?tre ?trt); (case tre => assumption); (case trt => assumption); (case tra => walk_at "tr"))
  | ((with_reducible refine' StAt.z (T := T) (H := ?trH) ?tra ?tre ?trt); (case tre => assumption); (case trt => assumption); (case tra => walk_at "tr"))
  | ((with_reducible refine' SqP.z (T := T) (H := ?trH) ?tra ?tre ?trt); (case tre => assumption); (case trt => assumption); (case tra => walk_at "tr"))
  | ((with_reducible refine' tup.z (T := T) (H := ?trH) ?tra ?tre ?trt); (case tre => assumption); (case trt => assumption); (case tra => walk_at "tr"))
  | ((with_reducible refine' Ls.z (T := T) (H := ?trH) ?tra ?tre ?trt ?trn); (case tre => assumption); (case trt => assumption); (case trn => assumption); (case tra => walk_at "tr"))
  | ((with_reducible refine' lst.z (T := T) (H := ?trH) ?tra ?tre ?trn); (case tre => assumption); (case trn => assumption); (case tra => walk_at "tr"))
  | ((with_reducible refine' CL.z (T := T) (H := ?trH) ?tra ?tre ?trn); (case tre => assumption); (case trn => assumption); (case tra => walk_at "tr"))
  | ((with_reducible refine' Tape.ne1 (H := ?trH) ?trt ?trn); (case trn => assumption); (case trt => walk_at "tr"))
  | ((with_reducible refine' Ext.trans (H1 := ?trH) ?tra (Ext.any ?tre)); (case tre => assumption); (case tra => walk_at "tr"))
  | ((with_reducible refine' Ext.trans (H1 := ?trH) ?tra ?tre); (case tre => assumption); (case tra => walk_at "tr"))
  | ((with_reducible refine' Ext.back1 (T := T) (H1 := ?trH) ?tre ?trn ?tra); (case tra => assumption); (case trn => walk_at "tr"); (case tre => walk_at "tr"))
  | ((with_reducible refine' Ext.back0 (T := T) (H1 := ?trH) ?tre ?tra); (case tra => assumption); (case tre => walk_at "tr"))
  | ((with_reducible refine' SqT.of ?tra); (case tra => walk_at "tr"))
  | ((with_reducible refine' SqL.of ?tra); (case tra => walk_at "tr")))

def plc (ws : List Str) : Option Nat := if placedF ws = true then some 3 else none
def oG (b : Bool) (g : Nat) : Option Nat := if b = true then some g else none
def zoneG (ws : List Str) : List Str → Option Nat
  | [z, l, n] => if l = Str.ofString "lag" then oG (nameB z && numF n) 0 else plc ws
  | _ => plc ws
def anchorG (ws : List Str) : List Str → Option Nat
  | [k] => oG (idB k) 1
  | _ => plc ws
def setG (ws : List Str) : List Str → Option Nat
  | [n, k] => oG (nameB n && idB k) 2
  | _ => plc ws
def onG (ws : List Str) : List Str → Option Nat
  | [s, z] => oG (idB s && nameB z) 4
  | _ => plc ws
def deedG (ws : List Str) : List Str → Option Nat
  | m :: n :: d => oG (deedF d && (numF m && numF n)) 5
  | _ => plc ws
def beforeG (ws : List Str) : List Str → Option Nat
  | [m, n] => oG (numF m && numF n) 6
  | _ => plc ws
def endG (ws : List Str) : List Str → Option Nat
  | [m] => oG (numF m) 7
  | _ => plc ws
def caseF : List Str → Option Nat
  | [] => none
  | h :: t => if h = Str.ofString "zone" then zoneG (h :: t) t else if h = Str.ofString "anchor" then anchorG (h :: t) t else if h = Str.ofString "set" then setG (h :: t) t else if h = Str.ofString "on" then onG (h :: t) t else if h = Str.ofString "deed" then deedG (h :: t) t else if h = Str.ofString "before" then beforeG (h :: t) t else if h = Str.ofString "end" then endG (h :: t) t else plc (h :: t)
def Pr2 (H : Hp) (v : V) : Prop := ∃ p x y, v = .ref p ∧ H p = some (.tup [x, y])
def spLnC (T : List (Addr × Str)) (NF : Addr) : Sp := fun vs H Q E => ∃ (a : Addr) (h : Str) (t : List Str), vs = [.ref a] ∧ H a = some (.lst (V.str h :: t.map V.str)) ∧ WsOk (h :: t) ∧
  (∀ g, caseF (h :: t) = some g → ∀ p v H', Ext T [] H H' → H' p = some (.tup [.int ((g : Nat) : Int), v]) → (g = 5 → Pr2 H' v) → Q (.ref p) H') ∧ (caseF (h :: t) = none → ∀ H', Ext T [] H H' → E (.ref NF) none H')
theorem oG_no {b : Bool} {g : Nat} (h : b = false) : oG b g = none := if_neg (by rw [h]; decide)
theorem oG_yes {b : Bool} {g : Nat} (h : b = true) : oG b g = some g := if_pos h
theorem ok_read_case_line (D : Def K mg "read_case_line" s_read_case_line ["words"]) (mb : ∀ x ∈ bltns, mg x = none) (M : Cst mg) (X_NoForm : PlainX K mg "NoForm" NF) (G_read_number : OkN P w K mg base 3 "read_number" ["word"] (spS T NF numF))
    (G_read_name : OkN P w K mg base 4 "read_name" ["word"] (spS T NF nameB)) (G_read_id : OkN P w K mg base 3 "read_id" ["word"] (spS T NF idB)) (G_read_deed : OkN P w K mg base 8 "read_deed" ["words"] (spWs T NF deedF)) (G_read_placed : OkN P w K mg base 7 "read_placed" ["words"] (spWsT T NF placedF)) : OkN P w K mg base 9 "read_case_line" ["words"] (spLnC T NF) := by
  refine D.okN sc_read_case_line (fun vs H Q E h => ?_) (fun cdv f A outer s H vs Q E hr h => ?_)
  · obtain ⟨a, h, t, rfl, _⟩ := h
    rfl
  · obtain ⟨a, h, t, rfl, ha, hw, q, qe⟩ := h
    refine ⟨_, (pss_one (ps_match (pv 0) (pc_cons (pm_seq K rfl rfl (pms_cons (pm_str K rfl hr.units) (pms_cons pm_name (pms_cons (pm_str K rfl hr.units) (pms_cons pm_name pms_nil))))) sc_read_case_line.nd (.cons (i := 1) rfl (.inl rfl) (by first | exact .inl rfl | exact .inr rfl) (.cons (i := 2) rfl (.inl rfl) (by first | exact .inl rfl | exact .inr rfl) .nil)) (pss_one (ps_ret (pe_tup (pa_cons (pe_glI (by rfl) M.c_ZONES) (pa_cons (pe_tup (pa_cons (pe_callN G_read_name (hr.mono (by decide)) (by rfl) (L2N.takes_of rfl rfl rfl rfl) (pa_cons (pv 1) pa_nil)) (pa_cons (pe_callN G_read_number (hr.mono (by decide)) (by rfl) (L2N.takes_of rfl rfl rfl rfl) (pa_cons (pv 2) pa_nil)) pa_nil))) pa_nil)))))
   (pc_cons (pm_seq K rfl rfl (pms_cons (pm_str K rfl hr.units) (pms_cons pm_name pms_nil))) sc_read_case_line.nd (.cons (i := 3) rfl (.inl rfl) (by first | exact .inl rfl | exact .inr rfl) .nil) (pss_one (ps_ret (pe_tup (pa_cons (pe_glI (by rfl) M.c_ANCHORS) (pa_cons (pe_callN G_read_id (hr.mono (by decide)) (by rfl) (L2N.takes_of rfl rfl rfl rfl) (pa_cons (pv 3) pa_nil)) pa_nil)))))
   (pc_cons (pm_seq K rfl rfl (pms_cons (pm_str K rfl hr.units) (pms_cons pm_name (pms_cons pm_name pms_nil)))) sc_read_case_line.nd (.cons (i := 4) rfl (.inl rfl) (by first | exact .inl rfl | exact .inr rfl) (.cons (i := 5) rfl (.inl rfl) (by first | exact .inl rfl | exact .inr rfl) .nil)) (pss_one (ps_ret (pe_tup (pa_cons (pe_glI (by rfl) M.c_SETS) (pa_cons (pe_tup (pa_cons (pe_callN G_read_name (hr.mono (by decide)) (by rfl) (L2N.takes_of rfl rfl rfl rfl) (pa_cons (pv 4) pa_nil)) (pa_cons (pe_callN G_read_id (hr.mono (by decide)) (by rfl) (L2N.takes_of rfl rfl rfl rfl) (pa_cons (pv 5) pa_nil)) pa_nil))) pa_nil)))))
   (pc_cons (pm_seq K rfl rfl (pms_cons (pm_str K rfl hr.units) (pms_cons pm_name (pms_cons pm_name pms_nil)))) sc_read_case_line.nd (.cons (i := 6) rfl (.inl rfl) (by first | exact .inl rfl | exact .inr rfl) (.cons (i := 1) rfl (.inl rfl) (by first | exact .inl rfl | exact .inr rfl) .nil)) (pss_one (ps_ret (pe_tup (pa_cons (pe_glI (by rfl) M.c_SERVERS) (pa_cons (pe_tup (pa_cons (pe_callN G_read_id (hr.mono (by decide)) (by rfl) (L2N.takes_of rfl rfl rfl rfl) (pa_cons (pv 6) pa_nil)) (pa_cons (pe_callN G_read_name (hr.mono (by decide)) (by rfl) (L2N.takes_of rfl rfl rfl rfl) (pa_cons (pv 1) pa_nil)) pa_nil))) pa_nil)))))
   (pc_cons (pm_seqS (i := 3) K rfl rfl (pms_cons (pm_str K rfl hr.units) (pms_cons pm_name (pms_cons pm_name (pms_star pms_nil))))) sc_read_case_line.nd (.cons (i := 7) rfl (.inl rfl) (by first | exact .inl rfl | exact .inr rfl) (.cons (i := 8) rfl (.inl rfl) (by first | exact .inl rfl | exact .inr rfl) (.cons (i := 9) rfl (.inl rfl) (by first | exact .inl rfl | exact .inr rfl) .nil))) (pss_one (ps_ret (pe_tup (pa_cons (pe_glI (by rfl) M.c_DEEDS) (pa_cons (pe_tup (pa_cons (pe_callN G_read_deed (hr.mono (by decide)) (by rfl) (L2N.takes_of rfl rfl rfl rfl) (pa_cons (pv 9) pa_nil)) (pa_cons (pe_tup (pa_cons (pe_callN G_read_number (hr.mono (by decide)) (by rfl) (L2N.takes_of rfl rfl rfl rfl) (pa_cons (pv 7) pa_nil)) (pa_cons (pe_callN G_read_number (hr.mono (by decide)) (by rfl) (L2N.takes_of rfl rfl rfl rfl) (pa_cons (pv 8) pa_nil)) pa_nil))) pa_nil))) pa_nil)))))
   (pc_cons (pm_seq K rfl rfl (pms_cons (pm_str K rfl hr.units) (pms_cons pm_name (pms_cons pm_name pms_nil)))) sc_read_case_line.nd (.cons (i := 10) rfl (.inl rfl) (by first | exact .inl rfl | exact .inr rfl) (.cons (i := 11) rfl (.inl rfl) (by first | exact .inl rfl | exact .inr rfl) .nil)) (pss_one (ps_ret (pe_tup (pa_cons (pe_glI (by rfl) M.c_PAIRS) (pa_cons (pe_tup (pa_cons (pe_callN G_read_number (hr.mono (by decide)) (by rfl) (L2N.takes_of rfl rfl rfl rfl) (pa_cons (pv 10) pa_nil)) (pa_cons (pe_callN G_read_number (hr.mono (by decide)) (by rfl) (L2N.takes_of rfl rfl rfl rfl) (pa_cons (pv 11) pa_nil)) pa_nil))) pa_nil)))))
   (pc_cons (pm_seq K rfl rfl (pms_cons (pm_str K rfl hr.units) (pms_cons pm_name pms_nil))) sc_read_case_line.nd (.cons (i := 12) rfl (.inl rfl) (by first | exact .inl rfl | exact .inr rfl) .nil) (pss_one (ps_ret (pe_tup (pa_cons (pe_glI (by rfl) M.c_END) (pa_cons (pe_callN G_read_number (hr.mono (by decide)) (by rfl) (L2N.takes_of rfl rfl rfl rfl) (pa_cons (pv 12) pa_nil)) pa_nil)))))
   (pc_cons pm_any sc_read_case_line.nd .nil (pss_one (ps_ret (pe_tup (pa_cons (pe_glI (by rfl) M.c_ITEMS) (pa_cons (pe_callN G_read_placed (hr.mono (by decide)) (by rfl) (L2N.takes_of rfl rfl rfl rfl) (pa_cons (pv 0) pa_nil)) pa_nil)))))
   pc_nil)))))))))), ?_⟩
    have hl := hw.2
    rw [List.length_cons] at hl
    have hml : (t.map V.str).length ≤ 39 := by
      rw [List.length_map]
      omega
    refine rd_match ?_
    walk_at "rdn"
    have x : Ext T [] H H := .refl
    have hf : caseF (h :: t) = (if h = Str.ofString "zone" then zoneG (h :: t) t else if h = Str.ofString "anchor" then anchorG (h :: t) t else if h = Str.ofString "set" then setG (h :: t) t else if h = Str.ofString "on" then onG (h :: t) t else if h = Str.ofString "deed" then deedG (h :: t) t else if h = Str.ofString "before" then beforeG (h :: t) t else if h = Str.ofString "end" then endG (h :: t) t else plc (h :: t)) := rfl
    by_cases c0 : h = Str.ofString "zone"
    · rw [if_pos c0] at hf
      rw [hf] at q qe
      subst c0
      by_cases h1 : t.length = 3
      · obtain ⟨z, l, n, rfl⟩ : ∃ z l n, t = [z, l, n] := by
          match t, h1 with
          | [z, l, n], _ => exact ⟨z, l, n, rfl⟩
        have ha : _ = some (HO.lst [V.str (Str.ofString "zone"), .str z, .str l, .str n]) := ha
        by_cases h2 : l = Str.ofString "lag"
        · have hz : zoneG (Str.ofString "zone" :: [z, l, n]) [z, l, n] = oG (nameB z && numF n) 0 := if_pos h2
          rw [hz] at q qe
          subst h2
          refine mt_case (mt_seq (SqL.of ha) rfl (mt_eq (mt_nm (mt_eq (mt_nm ⟨rfl, ?_⟩)))))
          dsimp only [setL]
          walk_at "rd"
          refine ⟨z, rfl, (hw.1 z (by simp)).1, fun k0 v0 H1 x1 => ?_, fun k0 H1 x1 => qe (oG_no (by rw [k0]; rfl)) _ (x.trans x1)⟩
          have x := x.trans x1
          walk_at "rd"
          refine ⟨n, rfl, (hw.1 n (by simp)).1, fun k1 v1 H1 x1 => ?_, fun k1 H1 x1 => qe (oG_no (by rw [k0, k1]; rfl)) _ (x.trans x1)⟩
          have x := x.trans x1
          walk_at "rd"
          refine ⟨by walk_at "sz", fun pr npr => ?_⟩
          obtain ⟨npr, x1, hpr⟩ := alT (T := T) npr [v0, v1]
          have x := x.trans x1
          generalize upd _ pr _ = H1 at x hpr ⊢
          walk_at "rd"
          refine ⟨by walk_at "sz", fun pr2 npr2 => ?_⟩
          obtain ⟨npr2, x1, hpr2⟩ := alT (T := T) npr2 [V.int 0, .ref pr]
          exact q 0 (oG_yes (by rw [k0, k1]; rfl)) _ _ _ (x.trans x1) hpr2 fun h => absurd h (by decide)
        · have hz : zoneG (Str.ofString "zone" :: [z, l, n]) [z, l, n] = plc (Str.ofString "zone" :: [z, l, n]) := if_neg h2
          rw [hz] at q qe
          refine mt_case (mt_seq (SqL.of ha) rfl (mt_eq (mt_nm (mt_no h2 ?_))))
          dsimp only
          refine cs_skip ha (by decide +kernel) ?_
          refine cs_skip ha (by decide +kernel) ?_
          refine cs_skip ha (by decide +kernel) ?_
          refine cs_skipS (T := T) (by decide) ha (by first | omega | (simp only [List.length_cons, List.length_nil]; omega)) (by decide +kernel) fun H1 x1 ha => ?_
          have x := x.trans x1
          refine cs_skip ha (by decide +kernel) ?_
          refine cs_skip ha (by decide +kernel) ?_
          refine mt_case ?_
          dsimp only [setL]
          walk_at "rd"
          refine ⟨a, (Str.ofString "zone") :: [z, l, n], rfl, ha, hw, fun k0 p v u H1 x1 ht => ?_, fun k0 H1 x1 => qe (if_neg (by rw [k0]; decide)) _ (x.trans x1)⟩
          have x := x.trans x1
          walk_at "rd"
          refine ⟨by walk_at "sz", fun pr npr => ?_⟩
          obtain ⟨npr, x1, hpr⟩ := alT (T := T) npr [V.int 3, .ref p]
          exact q 3 (if_pos k0) _ _ _ (x.trans x1) hpr fun h => absurd h (by decide)
      · refine cs_off ha (by rw [List.length_cons, List.length_map]; show ¬ (t.length + 1 = 4); omega) ?_
        have hg : zoneG (Str.ofString "zone" :: t) t = plc (Str.ofString "zone" :: t) := by
          match t, h1 with
          | [], _ => rfl
          | [_], _ => rfl
          | [_, _], _ => rfl
          | [_, _, _], h => exact absurd rfl h
          | _ :: _ :: _ :: _ :: _, _ => rfl
        rw [hg] at q qe
        refine cs_skip ha (by decide +kernel) ?_
        refine cs_skip ha (by decide +kernel) ?_
        refine cs_skip ha (by decide +kernel) ?_
        refine cs_skipS (T := T) (by decide) ha (by first | omega | (simp only [List.length_cons, List.length_nil]; omega)) (by decide +kernel) fun H1 x1 ha => ?_
        have x := x.trans x1
        refine cs_skip ha (by decide +kernel) ?_
        refine cs_skip ha (by decide +kernel) ?_
        refine mt_case ?_
        dsimp only [setL]
        walk_at "rd"
        refine ⟨a, (Str.ofString "zone") :: t, rfl, ha, hw, fun k0 p v u H1 x1 ht => ?_, fun k0 H1 x1 => qe (if_neg (by rw [k0]; decide)) _ (x.trans x1)⟩
        have x := x.trans x1
        walk_at "rd"
        refine ⟨by walk_at "sz", fun pr npr => ?_⟩
        obtain ⟨npr, x1, hpr⟩ := alT (T := T) npr [V.int 3, .ref p]
        exact q 3 (if_pos k0) _ _ _ (x.trans x1) hpr fun h => absurd h (by decide)
    rw [if_neg c0] at hf
    by_cases c1 : h = Str.ofString "anchor"
    · rw [if_pos c1] at hf
      rw [hf] at q qe
      subst c1
      refine cs_skip ha (by decide +kernel) ?_
      by_cases h1 : t.length = 1
      · obtain ⟨k, rfl⟩ : ∃ k, t = [k] := by
          match t, h1 with
          | [k], _ => exact ⟨k, rfl⟩
        have ha : _ = some (HO.lst [V.str (Str.ofString "anchor"), .str k]) := ha
        have q : ∀ g, oG (idB k) 1 = some g → ∀ p v H', Ext T [] H H' → H' p = some (.tup [.int ((g : Nat) : Int), v]) → (g = 5 → Pr2 H' v) → Q (.ref p) H' := q
        have qe : oG (idB k) 1 = none → ∀ H', Ext T [] H H' → E (.ref NF) none H' := qe
        refine mt_case (mt_seq (SqL.of ha) rfl (mt_eq (mt_nm ⟨rfl, ?_⟩)))
        dsimp only [setL]
        walk_at "rd"
        refine ⟨k, rfl, (hw.1 k (by simp)).1, fun k0 v0 H1 x1 => ?_, fun k0 H1 x1 => qe (oG_no k0) _ (x.trans x1)⟩
        have x := x.trans x1
        walk_at "rd"
        refine ⟨by walk_at "sz", fun pr npr => ?_⟩
        obtain ⟨npr, x1, hpr⟩ := alT (T := T) npr [V.int 1, v0]
        exact q 1 (oG_yes k0) _ _ _ (x.trans x1) hpr fun h => absurd h (by decide)
      · refine cs_off ha (by rw [List.length_cons, List.length_map]; show ¬ (t.length + 1 = 2); omega) ?_
        have hg : anchorG (Str.ofString "anchor" :: t) t = plc (Str.ofString "anchor" :: t) := by
          match t, h1 with
          | [], _ => rfl
          | [_], h => exact absurd rfl h
          | _ :: _ :: _, _ => rfl
        rw [hg] at q qe
        refine cs_skip ha (by decide +kernel) ?_
        refine cs_skip ha (by decide +kernel) ?_
        refine cs_skipS (T := T) (by decide) ha (by first | omega | (simp only [List.length_cons, List.length_nil]; omega)) (by decide +kernel) fun H1 x1 ha => ?_
        have x := x.trans x1
        refine cs_skip ha (by decide +kernel) ?_
        refine cs_skip ha (by decide +kernel) ?_
        refine mt_case ?_
        dsimp only [setL]
        walk_at "rd"
        refine ⟨a, (Str.ofString "anchor") :: t, rfl, ha, hw, fun k0 p v u H1 x1 ht => ?_, fun k0 H1 x1 => qe (if_neg (by rw [k0]; decide)) _ (x.trans x1)⟩
        have x := x.trans x1
        walk_at "rd"
        refine ⟨by walk_at "sz", fun pr npr => ?_⟩
        obtain ⟨npr, x1, hpr⟩ := alT (T := T) npr [V.int 3, .ref p]
        exact q 3 (if_pos k0) _ _ _ (x.trans x1) hpr fun h => absurd h (by decide)
    rw [if_neg c1] at hf
    by_cases c2 : h = Str.ofString "set"
    · rw [if_pos c2] at hf
      rw [hf] at q qe
      subst c2
      refine cs_skip ha (by decide +kernel) ?_
      refine cs_skip ha (by decide +kernel) ?_
      by_cases h1 : t.length = 2
      · obtain ⟨n, k, rfl⟩ : ∃ n k, t = [n, k] := by
          match t, h1 with
          | [n, k], _ => exact ⟨n, k, rfl⟩
        have ha : _ = some (HO.lst [V.str (Str.ofString "set"), .str n, .str k]) := ha
        have q : ∀ g, oG (nameB n && idB k) 2 = some g → ∀ p v H', Ext T [] H H' → H' p = some (.tup [.int ((g : Nat) : Int), v]) → (g = 5 → Pr2 H' v) → Q (.ref p) H' := q
        have qe : oG (nameB n && idB k) 2 = none → ∀ H', Ext T [] H H' → E (.ref NF) none H' := qe
        refine mt_case (mt_seq (SqL.of ha) rfl (mt_eq (mt_nm (mt_nm ⟨rfl, ?_⟩))))
        dsimp only [setL]
        walk_at "rd"
        refine ⟨n, rfl, (hw.1 n (by simp)).1, fun k0 v0 H1 x1 => ?_, fun k0 H1 x1 => qe (oG_no (by rw [k0]; rfl)) _ (x.trans x1)⟩
        have x := x.trans x1
        walk_at "rd"
        refine ⟨k, rfl, (hw.1 k (by simp)).1, fun k1 v1 H1 x1 => ?_, fun k1 H1 x1 => qe (oG_no (by rw [k0, k1]; rfl)) _ (x.trans x1)⟩
        have x := x.trans x1
        walk_at "rd"
        refine ⟨by walk_at "sz", fun pr npr => ?_⟩
        obtain ⟨npr, x1, hpr⟩ := alT (T := T) npr [v0, v1]
        have x := x.trans x1
        generalize upd _ pr _ = H1 at x hpr ⊢
        walk_at "rd"
        refine ⟨by walk_at "sz", fun pr2 npr2 => ?_⟩
        obtain ⟨npr2, x1, hpr2⟩ := alT (T := T) npr2 [V.int 2, .ref pr]
        exact q 2 (oG_yes (by rw [k0, k1]; rfl)) _ _ _ (x.trans x1) hpr2 fun h => absurd h (by decide)
      · refine cs_off ha (by rw [List.length_cons, List.length_map]; show ¬ (t.length + 1 = 3); omega) ?_
        have hg : setG (Str.ofString "set" :: t) t = plc (Str.ofString "set" :: t) := by
          match t, h1 with
          | [], _ => rfl
          | [_], _ => rfl
          | [_, _], h => exact absurd rfl h
          | _ :: _ :: _ :: _, _ => rfl
        rw [hg] at q qe
        refine cs_skip ha (by decide +kernel) ?_
        refine cs_skipS (T := T) (by decide) ha (by first | omega | (simp only [List.length_cons, List.length_nil]; omega)) (by decide +kernel) fun H1 x1 ha => ?_
        have x := x.trans x1
        refine cs_skip ha (by decide +kernel) ?_
        refine cs_skip ha (by decide +kernel) ?_
        refine mt_case ?_
        dsimp only [setL]
        walk_at "rd"
        refine ⟨a, (Str.ofString "set") :: t, rfl, ha, hw, fun k0 p v u H1 x1 ht => ?_, fun k0 H1 x1 => qe (if_neg (by rw [k0]; decide)) _ (x.trans x1)⟩
        have x := x.trans x1
        walk_at "rd"
        refine ⟨by walk_at "sz", fun pr npr => ?_⟩
        obtain ⟨npr, x1, hpr⟩ := alT (T := T) npr [V.int 3, .ref p]
        exact q 3 (if_pos k0) _ _ _ (x.trans x1) hpr fun h => absurd h (by decide)
    rw [if_neg c2] at hf
    by_cases c3 : h = Str.ofString "on"
    · rw [if_pos c3] at hf
      rw [hf] at q qe
      subst c3
      refine cs_skip ha (by decide +kernel) ?_
      refine cs_skip ha (by decide +kernel) ?_
      refine cs_skip ha (by decide +kernel) ?_
      by_cases h1 : t.length = 2
      · obtain ⟨s, z, rfl⟩ : ∃ s z, t = [s, z] := by
          match t, h1 with
          | [s, z], _ => exact ⟨s, z, rfl⟩
        have ha : _ = some (HO.lst [V.str (Str.ofString "on"), .str s, .str z]) := ha
        have q : ∀ g, oG (idB s && nameB z) 4 = some g → ∀ p v H', Ext T [] H H' → H' p = some (.tup [.int ((g : Nat) : Int), v]) → (g = 5 → Pr2 H' v) → Q (.ref p) H' := q
        have qe : oG (idB s && nameB z) 4 = none → ∀ H', Ext T [] H H' → E (.ref NF) none H' := qe
        refine mt_case (mt_seq (SqL.of ha) rfl (mt_eq (mt_nm (mt_nm ⟨rfl, ?_⟩))))
        dsimp only [setL]
        walk_at "rd"
        refine ⟨s, rfl, (hw.1 s (by simp)).1, fun k0 v0 H1 x1 => ?_, fun k0 H1 x1 => qe (oG_no (by rw [k0]; rfl)) _ (x.trans x1)⟩
        have x := x.trans x1
        walk_at "rd"
        refine ⟨z, rfl, (hw.1 z (by simp)).1, fun k1 v1 H1 x1 => ?_, fun k1 H1 x1 => qe (oG_no (by rw [k0, k1]; rfl)) _ (x.trans x1)⟩
        have x := x.trans x1
        walk_at "rd"
        refine ⟨by walk_at "sz", fun pr npr => ?_⟩
        obtain ⟨npr, x1, hpr⟩ := alT (T := T) npr [v0, v1]
        have x := x.trans x1
        generalize upd _ pr _ = H1 at x hpr ⊢
        walk_at "rd"
        refine ⟨by walk_at "sz", fun pr2 npr2 => ?_⟩
        obtain ⟨npr2, x1, hpr2⟩ := alT (T := T) npr2 [V.int 4, .ref pr]
        exact q 4 (oG_yes (by rw [k0, k1]; rfl)) _ _ _ (x.trans x1) hpr2 fun h => absurd h (by decide)
      · refine cs_off ha (by rw [List.length_cons, List.length_map]; show ¬ (t.length + 1 = 3); omega) ?_
        have hg : onG (Str.ofString "on" :: t) t = plc (Str.ofString "on" :: t) := by
          match t, h1 with
          | [], _ => rfl
          | [_], _ => rfl
          | [_, _], h => exact absurd rfl h
          | _ :: _ :: _ :: _, _ => rfl
        rw [hg] at q qe
        refine cs_skipS (T := T) (by decide) ha (by first | omega | (simp only [List.length_cons, List.length_nil]; omega)) (by decide +kernel) fun H1 x1 ha => ?_
        have x := x.trans x1
        refine cs_skip ha (by decide +kernel) ?_
        refine cs_skip ha (by decide +kernel) ?_
        refine mt_case ?_
        dsimp only [setL]
        walk_at "rd"
        refine ⟨a, (Str.ofString "on") :: t, rfl, ha, hw, fun k0 p v u H1 x1 ht => ?_, fun k0 H1 x1 => qe (if_neg (by rw [k0]; decide)) _ (x.trans x1)⟩
        have x := x.trans x1
        walk_at "rd"
        refine ⟨by walk_at "sz", fun pr npr => ?_⟩
        obtain ⟨npr, x1, hpr⟩ := alT (T := T) npr [V.int 3, .ref p]
        exact q 3 (if_pos k0) _ _ _ (x.trans x1) hpr fun h => absurd h (by decide)
    rw [if_neg c3] at hf
    by_cases c4 : h = Str.ofString "deed"
    · rw [if_pos c4] at hf
      rw [hf] at q qe
      subst c4
      refine cs_skip ha (by decide +kernel) ?_
      refine cs_skip ha (by decide +kernel) ?_
      refine cs_skip ha (by decide +kernel) ?_
      refine cs_skip ha (by decide +kernel) ?_
      by_cases h1 : 2 ≤ t.length
      · obtain ⟨m, n, d, rfl⟩ : ∃ m n d, t = m :: n :: d := by
          match t, h1 with
          | m :: n :: d, _ => exact ⟨m, n, d, rfl⟩
        have ha : _ = some (HO.lst (V.str (Str.ofString "deed") :: .str m :: .str n :: d.map V.str)) := ha
        have q : ∀ g, oG (deedF d && (numF m && numF n)) 5 = some g → ∀ p v H', Ext T [] H H' → H' p = some (.tup [.int ((g : Nat) : Int), v]) → (g = 5 → Pr2 H' v) → Q (.ref p) H' := q
        have qe : oG (deedF d && (numF m && numF n)) 5 = none → ∀ H', Ext T [] H H' → E (.ref NF) none H' := qe
        have hpl : (d.map V.str).length ≤ 39 := by
          simp only [List.length_map, List.length_cons] at hml ⊢
          omega
        refine mt_case (mt_star3 ha (by omega) fun D1 nD1 => mt_eq (mt_nm (mt_nm ⟨_, _, rfl, rfl, ?_⟩)))
        dsimp only [setL]
        obtain ⟨nD1, x1, hD1⟩ := alL (T := T) nD1 (d.map V.str)
        generalize upd _ D1 _ = H1 at x1 hD1 ⊢
        have x := x.trans x1
        walk_at "rd"
        refine ⟨D1, d, rfl, hD1, wsOk_tl (wsOk_tl (wsOk_tl hw)), fun k0 v0 H1 x1 => ?_, fun k0 H1 x1 => qe (oG_no (by rw [k0]; rfl)) _ (x.trans x1)⟩
        have x := x.trans x1
        walk_at "rd"
        refine ⟨m, rfl, (hw.1 m (by simp)).1, fun k1 v1 H1 x1 => ?_, fun k1 H1 x1 => qe (oG_no (by rw [k0, k1]; rfl)) _ (x.trans x1)⟩
        have x := x.trans x1
        walk_at "rd"
        refine ⟨n, rfl, (hw.1 n (by simp)).1, fun k2 v2 H1 x1 => ?_, fun k2 H1 x1 => qe (oG_no (by rw [k0, k1, k2]; rfl)) _ (x.trans x1)⟩
        have x := x.trans x1
        walk_at "rd"
        refine ⟨by walk_at "sz", fun pr npr => ?_⟩
        obtain ⟨npr, x1, hpr⟩ := alT (T := T) npr [v1, v2]
        have x := x.trans x1
        generalize upd _ pr _ = H1 at x hpr ⊢
        walk_at "rd"
        refine ⟨by walk_at "sz", fun pr2 npr2 => ?_⟩
        obtain ⟨npr2, x1, hpr2⟩ := alT (T := T) npr2 [v0, .ref pr]
        have x := x.trans x1
        generalize upd _ pr2 _ = H1 at x hpr2 ⊢
        walk_at "rd"
        refine ⟨by walk_at "sz", fun pr3 npr3 => ?_⟩
        obtain ⟨npr3, x1, hpr3⟩ := alT (T := T) npr3 [V.int 5, .ref pr2]
        exact q 5 (oG_yes (by rw [k0, k1, k2]; rfl)) _ _ _ (x.trans x1) hpr3 fun _ => ⟨_, _, _, rfl, tup.x hpr2 x1⟩
      · refine cs_few ha (by rw [List.length_cons, List.length_map]; omega) (by rw [List.length_cons, List.length_map]; show t.length + 1 + 1 < 4; omega) ?_
        have hg : deedG (Str.ofString "deed" :: t) t = plc (Str.ofString "deed" :: t) := by
          match t, h1 with
          | [], _ => rfl
          | [_], _ => rfl
          | _ :: _ :: r, h => exact absurd (show 2 ≤ r.length + 1 + 1 by omega) h
        rw [hg] at q qe
        refine cs_skip ha (by decide +kernel) ?_
        refine cs_skip ha (by decide +kernel) ?_
        refine mt_case ?_
        dsimp only [setL]
        walk_at "rd"
        refine ⟨a, (Str.ofString "deed") :: t, rfl, ha, hw, fun k0 p v u H1 x1 ht => ?_, fun k0 H1 x1 => qe (if_neg (by rw [k0]; decide)) _ (x.trans x1)⟩
        have x := x.trans x1
        walk_at "rd"
        refine ⟨by walk_at "sz", fun pr npr => ?_⟩
        obtain ⟨npr, x1, hpr⟩ := alT (T := T) npr [V.int 3, .ref p]
        exact q 3 (if_pos k0) _ _ _ (x.trans x1) hpr fun h => absurd h (by decide)
    rw [if_neg c4] at hf
    by_cases c5 : h = Str.ofString "before"
    · rw [if_pos c5] at hf
      rw [hf] at q qe
      subst c5
      refine cs_skip ha (by decide +kernel) ?_
      refine cs_skip ha (by decide +kernel) ?_
      refine cs_skip ha (by decide +kernel) ?_
      refine cs_skip ha (by decide +kernel) ?_
      refine cs_skipS (T := T) (by decide) ha (by first | omega | (simp only [List.length_cons, List.length_nil]; omega)) (by decide +kernel) fun H1 x1 ha => ?_
      have x := x.trans x1
      by_cases h1 : t.length = 2
      · obtain ⟨m, n, rfl⟩ : ∃ m n, t = [m, n] := by
          match t, h1 with
          | [m, n], _ => exact ⟨m, n, rfl⟩
        have ha : _ = some (HO.lst [V.str (Str.ofString "before"), .str m, .str n]) := ha
        have q : ∀ g, oG (numF m && numF n) 6 = some g → ∀ p v H', Ext T [] H H' → H' p = some (.tup [.int ((g : Nat) : Int), v]) → (g = 5 → Pr2 H' v) → Q (.ref p) H' := q
        have qe : oG (numF m && numF n) 6 = none → ∀ H', Ext T [] H H' → E (.ref NF) none H' := qe
        refine mt_case (mt_seq (SqL.of ha) rfl (mt_eq (mt_nm (mt_nm ⟨rfl, ?_⟩))))
        dsimp only [setL]
        walk_at "rd"
        refine ⟨m, rfl, (hw.1 m (by simp)).1, fun k0 v0 H1 x1 => ?_, fun k0 H1 x1 => qe (oG_no (by rw [k0]; rfl)) _ (x.trans x1)⟩
        have x := x.trans x1
        walk_at "rd"
        refine ⟨n, rfl, (hw.1 n (by simp)).1, fun k1 v1 H1 x1 => ?_, fun k1 H1 x1 => qe (oG_no (by rw [k0, k1]; rfl)) _ (x.trans x1)⟩
        have x := x.trans x1
        walk_at "rd"
        refine ⟨by walk_at "sz", fun pr npr => ?_⟩
        obtain ⟨npr, x1, hpr⟩ := alT (T := T) npr [v0, v1]
        have x := x.trans x1
        generalize upd _ pr _ = H1 at x hpr ⊢
        walk_at "rd"
        refine ⟨by walk_at "sz", fun pr2 npr2 => ?_⟩
        obtain ⟨npr2, x1, hpr2⟩ := alT (T := T) npr2 [V.int 6, .ref pr]
        exact q 6 (oG_yes (by rw [k0, k1]; rfl)) _ _ _ (x.trans x1) hpr2 fun h => absurd h (by decide)
      · refine cs_off ha (by rw [List.length_cons, List.length_map]; show ¬ (t.length + 1 = 3); omega) ?_
        have hg : beforeG (Str.ofString "before" :: t) t = plc (Str.ofString "before" :: t) := by
          match t, h1 with
          | [], _ => rfl
          | [_], _ => rfl
          | [_, _], h => exact absurd rfl h
          | _ :: _ :: _ :: _, _ => rfl
        rw [hg] at q qe
        refine cs_skip ha (by decide +kernel) ?_
        refine mt_case ?_
        dsimp only [setL]
        walk_at "rd"
        refine ⟨a, (Str.ofString "before") :: t, rfl, ha, hw, fun k0 p v u H1 x1 ht => ?_, fun k0 H1 x1 => qe (if_neg (by rw [k0]; decide)) _ (x.trans x1)⟩
        have x := x.trans x1
        walk_at "rd"
        refine ⟨by walk_at "sz", fun pr npr => ?_⟩
        obtain ⟨npr, x1, hpr⟩ := alT (T := T) npr [V.int 3, .ref p]
        exact q 3 (if_pos k0) _ _ _ (x.trans x1) hpr fun h => absurd h (by decide)
    rw [if_neg c5] at hf
    by_cases c6 : h = Str.ofString "end"
    · rw [if_pos c6] at hf
      rw [hf] at q qe
      subst c6
      refine cs_skip ha (by decide +kernel) ?_
      refine cs_skip ha (by decide +kernel) ?_
      refine cs_skip ha (by decide +kernel) ?_
      refine cs_skip ha (by decide +kernel) ?_
      refine cs_skipS (T := T) (by decide) ha (by first | omega | (simp only [List.length_cons, List.length_nil]; omega)) (by decide +kernel) fun H1 x1 ha => ?_
      have x := x.trans x1
      refine cs_skip ha (by decide +kernel) ?_
      by_cases h1 : t.length = 1
      · obtain ⟨m, rfl⟩ : ∃ m, t = [m] := by
          match t, h1 with
          | [m], _ => exact ⟨m, rfl⟩
        have ha : _ = some (HO.lst [V.str (Str.ofString "end"), .str m]) := ha
        have q : ∀ g, oG (numF m) 7 = some g → ∀ p v H', Ext T [] H H' → H' p = some (.tup [.int ((g : Nat) : Int), v]) → (g = 5 → Pr2 H' v) → Q (.ref p) H' := q
        have qe : oG (numF m) 7 = none → ∀ H', Ext T [] H H' → E (.ref NF) none H' := qe
        refine mt_case (mt_seq (SqL.of ha) rfl (mt_eq (mt_nm ⟨rfl, ?_⟩)))
        dsimp only [setL]
        walk_at "rd"
        refine ⟨m, rfl, (hw.1 m (by simp)).1, fun k0 v0 H1 x1 => ?_, fun k0 H1 x1 => qe (oG_no k0) _ (x.trans x1)⟩
        have x := x.trans x1
        walk_at "rd"
        refine ⟨by walk_at "sz", fun pr npr => ?_⟩
        obtain ⟨npr, x1, hpr⟩ := alT (T := T) npr [V.int 7, v0]
        exact q 7 (oG_yes k0) _ _ _ (x.trans x1) hpr fun h => absurd h (by decide)
      · refine cs_off ha (by rw [List.length_cons, List.length_map]; show ¬ (t.length + 1 = 2); omega) ?_
        have hg : endG (Str.ofString "end" :: t) t = plc (Str.ofString "end" :: t) := by
          match t, h1 with
          | [], _ => rfl
          | [_], h => exact absurd rfl h
          | _ :: _ :: _, _ => rfl
        rw [hg] at q qe
        refine mt_case ?_
        dsimp only [setL]
        walk_at "rd"
        refine ⟨a, (Str.ofString "end") :: t, rfl, ha, hw, fun k0 p v u H1 x1 ht => ?_, fun k0 H1 x1 => qe (if_neg (by rw [k0]; decide)) _ (x.trans x1)⟩
        have x := x.trans x1
        walk_at "rd"
        refine ⟨by walk_at "sz", fun pr npr => ?_⟩
        obtain ⟨npr, x1, hpr⟩ := alT (T := T) npr [V.int 3, .ref p]
        exact q 3 (if_pos k0) _ _ _ (x.trans x1) hpr fun h => absurd h (by decide)
    rw [if_neg c6] at hf
    rw [hf] at q qe
    refine cs_skip ha (c0) ?_
    refine cs_skip ha (c1) ?_
    refine cs_skip ha (c2) ?_
    refine cs_skip ha (c3) ?_
    refine cs_skipS (T := T) (by decide) ha (by first | omega | (simp only [List.length_cons, List.length_nil]; omega)) (c4) fun H1 x1 ha => ?_
    have x := x.trans x1
    refine cs_skip ha (c5) ?_
    refine cs_skip ha (c6) ?_
    refine mt_case ?_
    dsimp only [setL]
    walk_at "rd"
    refine ⟨a, h :: t, rfl, ha, hw, fun k0 p v u H1 x1 ht => ?_, fun k0 H1 x1 => qe (if_neg (by rw [k0]; decide)) _ (x.trans x1)⟩
    have x := x.trans x1
    walk_at "rd"
    refine ⟨by walk_at "sz", fun pr npr => ?_⟩
    obtain ⟨npr, x1, hpr⟩ := alT (T := T) npr [V.int 3, .ref p]
    exact q 3 (if_pos k0) _ _ _ (x.trans x1) hpr fun h => absurd h (by decide)
end

open PySem PySem.Spec PyProof.Rows L2
open PySem.W (EachIs)
section
variable {T : List (Addr × Str)} {P : Program} {w : World} {K : PySem.W.Frag} {mg : Str → Option Value} {base : Heap} {NF : Addr}
local macro_rules | `(tactic| walk_at "tr") => `(tactic| first
  | assumption
  | exact Ext.refl
  | ((with_reducible refine' Im.x (T := T) (H := ?trH) ?tra ?tre); (case tre => assumption); (case tra => walk_at "tr"))
  | ((with_reducible refine' Im.y (T := T) (H := ?trH) ?tra ?tre ?trt); (case tre => assumption); (case trt => walk_at "tr"); (case tra => walk_at "tr"))
  | ((with_reducible refine' ImAll.x (T := T) (H := ?trH) ?tra ?tre); (case tre => assumption); (case tra => walk_at "tr"))
  | ((with_reducible refine' ImAll.y (T := T) (H := ?trH) ?tra ?tre ?trt); (case tre => assumption); (case trt => walk_at "tr"); (case tra => walk_at "tr"))
  | ((with_reducible refine' Ls.x (T := T) (H := ?trH) ?tra ?tre); (case tre => assumption); (case tra => walk_at "tr"))
  | ((with_reducible refine' Ls.y (T := T) (H := ?trH) ?tra ?tre ?trn ?trt); (case tre => assumption); (case trt => walk_at "tr"); (case trn => walk_at "tr"); (case tra => walk_at "tr"))
  | ((with_reducible refine' SqP.x (T := T) (H := ?trH) ?tra ?tre); (case tre => assumption); (case tra => walk_at "tr"))
  | ((with_reducible refine' SqP.y (T := T) (H := ?trH) ?tra ?tre ?trt); (case tre => assumption); (case trt => walk_at "tr"); (case tra => walk_at "tr"))
  | ((with_reducible refine' StAt.x (T := T) (H := ?trH) ?tra ?tre); (case tre => assumption); (case tra => walk_at "tr"))
  | ((with_reducible refine' StAt.y (T := T) (H := ?trH) ?tra ?tre ?trt); (case tre => assumption); (case trt => walk_at "tr"); (case tra => walk_at "tr"))
  | ((with_reducible refine' Pools.ext0 (T := T) (H := ?trH) ?tra ?tre); (case tre => assumption); (case tra => walk_at "tr"))
  | ((with_reducible refine' Pools.ext (T := T) (H := ?trH) ?tra ?tre ?trt); (case tre => assumption); (case trt => walk_at "tr"); (case tra => walk_at "tr"))
  | ((with_reducible refine' CL.x (T := T) (H := ?trH) ?tra ?tre); (case tre => assumption); (case tra => walk_at "tr"))
  | ((with_reducible refine' CL.y (T := T) (H := ?trH) ?tra ?tre); (case tre => assumption); (case tra => walk_at "tr"))
  | ((with_reducible refine' Tape.ext (T := T) (H := ?trH) ?tra ?tre); (case tre => assumption); (case tra => walk_at "tr"))
  | ((with_reducible refine' lst.x (T := T) (H := ?trH) ?tra ?tre); (case tre => assumption); (case tra => walk_at "tr"))
  | ((with_reducible refine' lst.y (T := T) (H := ?trH) ?tra ?tre ?trn); (case tre => assumption); (case trn => walk_at "tr"); (case tra => walk_at "tr"))
  | ((with_reducible refine' tup.x (T := T) (H := ?trH) ?tra ?tre); (case tre => assumption); (case tra => walk_at "tr"))
  | ((with_reducible refine' tup.y (T := T) (H := ?trH) ?tra ?tre ?trt); (case tre => assumption); (case trt => walk_at "tr"); (case tra => walk_at "tr"))
  | ((with_reducible refine' frz.x (T := T) (H := ?trH) ?tra ?tre); (case tre => assumption); (case tra => walk_at "tr"))
  | ((with_reducible refine' frz.y (T := T) (H := ?trH) ?tra ?tre ?trt); (case tre => assumption); (case trt => walk_at "tr"); (case tra => walk_at "tr"))
  | ((with_reducible refine' Im.z (T := T) (H := ?trH) ?tra ?tre ?trt); (case tre => assumption); (case trt => assumption); (case tra => walk_at "tr"))
  | ((with_reducible refine' ImAll.z (T := T) (H := ?trH) ?tra ?tre ?trt); (case tre => assumption); (case trt => assumption); (case tra => walk_at "tr"))
  | ((with_reducible refine' StAt.z (T := T) (H := ?trH) ?tra ?tre ?trt); (case tre => assumption); (case trt => assumption); (case tra => walk_at "tr"))
  | ((with_reducible refine' SqP.z (T := T) (H := ?trH) ?tra ?tre ?trt); (case tre => assumption); (case trt => assumption); (case tra => walk_at "tr"))
  | ((with_reducible refine' tup.z (T := T) (H := ?trH) ?tra ?tre ?trt); (case tre => assumption); (case trt => assumption); (case tra => walk_at "tr"))
  | ((with_reducible refine' Ls.z (T := T) (H := ?trH) ?tra ?tre ?trt ?trn); (case tre => assumption); (case trt => assumption); (case trn => assumption); (case tra => walk_at "tr"))
  | ((with_reducible refine' lst.z (T := T) (H := ?trH) ?tra ?tre ?trn); (case tre => assumption); (case trn => assumption); (case tra => walk_at "tr"))
  | ((with_reducible refine' CL.z (T := T) (H := ?trH) ?tra ?tre ?trn); (case tre => assumption); (case trn => assumption); (case tra => walk_at "tr"))
  | ((with_reducible refine' Tape.ne1 (H := ?trH) ?trt ?trn); (case trn => assumption); (case trt => walk_at "tr"))
  | ((with_reducible refine' Ext.trans (H1 := ?trH) ?tra (Ext.any ?tre)); (case tre => assumption); (case tra => walk_at "tr"))
  | ((with_reducible refine' Ext.trans (H1 := ?trH) ?tra ?tre); (case tre => assumption); (case tra => walk_at "tr"))
  | ((with_reducible refine' Ext.back1 (T := T) (H1 := ?trH) ?tre ?trn ?tra); (case tra => assumption); (case trn => walk_at "tr"); (case tre => walk_at "tr"))
  | ((with_reducible refine' Ext.back0 (T := T) (H1 := ?trH) ?tre ?tra); (case tra => assumption); (case tre => walk_at "tr"))
  | ((with_reducible refine' SqT.of ?tra); (case tra => walk_at "tr"))
  | ((with_reducible refine' SqL.of ?tra); (case tra => walk_at "tr")))

theorem FO_BadText : FldOk "line" := fld_line
/-- the rows of words of a text -/
def rowsF (z : Str) : List (List Str) := if z = Str.ofString "" then [] else (Txt.split z (Str.ofString "\n")).map fun l => Txt.split l (Str.ofString " ")
/-- rows that may be read -/
def RowsW (rows : List (List Str)) : Prop := rows.length ≤ 40 ∧ ∀ ws ∈ rows, ws ≠ [] ∧ WsOk ws
def spSplitL (T : List (Addr × Str)) : Sp := fun vs H Q _ => ∃ z : Str, vs = [.str z] ∧ z.length ≤ 50000 ∧ (rowsF z).length ≤ 40 ∧
  ∀ (p : Addr) (ys : List V) (H' : Hp), Ext T [] H H' → H' p = some (.lst ys) → ys.length = (rowsF z).length → (∀ (i : Nat) (y : V), ys[i]? = some y → ∃ (a : Addr) (ws : List Str), y = V.ref a ∧ (rowsF z)[i]? = some ws ∧ H' a = some (.lst (ws.map V.str))) → Q (.ref p) H'
theorem ok_split_lines (D : Def K mg "split_lines" s_split_lines ["text"]) (mb : ∀ x ∈ bltns, mg x = none) : Ok P w K mg base 1 "split_lines" ["text"] (spSplitL T) := by
  refine D.ok sc_split_lines (fun vs H Q E h => ?_) (fun cdv f A outer s H vs Q E hr h => ?_)
  · obtain ⟨z, rfl, _⟩ := h
    rfl
  · obtain ⟨z, rfl, hz, hl, q⟩ := h
    refine ⟨_, (pss_cons (ps_if (pt_cmpR (op_eqU K rfl hr.units) (pv 0) pe_str (nomark _)) (pss_one (ps_ret (pe_lst pa_nil))) pss_nil)
   (pss_one (ps_ret (pe_lc (own := [("line", 1)]) (g := gName 1) (tt := tYes) rfl sc_split_lines.nd (pi_seq K rfl (pe_m1 PySem.F.slot_str_split PySem.F.type_str_split mt_splitU (pv 0) pe_str)) (blkOk_by (N := N_split_lines) (sc := defScope s_split_lines) (by decide +kernel)) (fun _ _ _ _ _ => (pg_name (i := 1) sc_split_lines.nd rfl (Or.inl rfl))) (fun _ _ _ _ _ => pts_nil) (fun _ _ _ _ _ => (pe_m1 PySem.F.slot_str_split PySem.F.type_str_split mt_splitU (pv 1) pe_str)))))), ?_⟩
    by_cases hne : z = Str.ofString ""
    · have hr : rowsF z = [] := if_pos hne
      rw [hr] at q
      walk_at "rd"
      rw [decide_eq_true hne]
      walk_at "rd"
      refine ⟨by walk_at "sz", fun pt npt => ?_⟩
      obtain ⟨npt, e2, hpt⟩ := alL (T := T) npt ([] : List V)
      exact q _ _ _ e2 hpt rfl (fun i y h => by simp at h)
    · have hr : rowsF z = (Txt.split z (Str.ofString "\n")).map fun l => Txt.split l (Str.ofString " ") := if_neg hne
      rw [hr] at q hl
      rw [List.length_map] at hl
      walk_at "rd"
      rw [decide_eq_false hne]
      walk_at "rd"
      refine rd_split (b := Str.ofString "\n") (by decide +kernel) (Nat.le_trans (show z.length + 2 ≤ 50002 by omega) (by decide)) fun ps nps => ?_
      have hml : ∀ x ∈ Txt.split z (Str.ofString "\n"), x.length ≤ 50000 := fun x hx => Nat.le_trans (split_memS (s := 10) (by decide +kernel) (by decide +kernel) hx) hz
      generalize Txt.split z (Str.ofString "\n") = ls at q hl hml ⊢
      obtain ⟨nps, e2, hps⟩ := alL (T := T) nps (ls.map V.str)
      generalize upd H ps _ = H2 at e2 hps ⊢
      walk_at "rd"
      refine lcg_gen T (walk_list (xs := ls.map V.str)) (fun H' e => SqL.of (lst.x hps e)) (Nat.lt_of_le_of_lt (show (ls.map V.str).length ≤ 40 by rw [List.length_map]; exact hl) (by decide)) (fun i D H y => ∃ (a : Addr) (l : Str), y = V.ref a ∧ a ≠ D ∧ ls[i]? = some l ∧ H a = some (.lst ((Txt.split l (Str.ofString " ")).map V.str))) (fun i D H1 H2 y xs e _ h => ?_) (fun i x D H3 H4 hi x3 nD hD hx F go => ?_) (fun D ys H3 nD x3 hD hyl hys => ?_)
      · obtain ⟨a, l, h1, h2, h3, h4⟩ := h
        exact ⟨a, l, h1, h2, h3, e.lst (by simpa using h2) h4⟩
      · obtain ⟨rfl, hx⟩ := hx
        rw [List.getElem?_map] at hx
        obtain ⟨l, h3, rfl⟩ := Option.map_eq_some_iff.mp hx
        walk_at "rd"
        refine ⟨rfl, ?_⟩
        walk_at "rd"
        have hll := hml l (List.mem_of_getElem? h3)
        refine rd_split (b := Str.ofString " ") (by decide +kernel) (Nat.le_trans (show l.length + 2 ≤ 50002 by omega) (by decide)) fun pa npa => ?_
        have haD : pa ≠ D := fun z => by
          obtain ⟨ys, hys⟩ := hD
          rw [z, hys] at npa
          cases npa
        obtain ⟨npa, x4, hpa⟩ := alL (T := T) npa ((Txt.split l (Str.ofString " ")).map V.str)
        exact go _ _ ⟨pa, l, rfl, haD, h3, hpa⟩ x4
      · refine q D ys H3 (e2.trans x3) hD (by rw [hyl, List.length_map, List.length_map]) fun i y hy => ?_
        obtain ⟨a, l, h1, _, h3, h4⟩ := hys i y hy
        exact ⟨a, _, h1, by rw [List.getElem?_map, h3]; rfl, h4⟩
/-- a promise whose exceptions may be loosened -/
def MonoE (sp : Sp) : Prop := ∀ vs H Q E E', (∀ cls d H', E cls d H' → E' cls d H') → sp vs H Q E → sp vs H Q E'
theorem mono_ln (F : List Str → Bool) : MonoE (spLn T NF F) := fun vs H Q E E' h ⟨a, b, c, e, h1, h2, h3, h4⟩ => ⟨a, b, c, e, h1, h2, h3, fun k H' x => h _ _ _ (h4 k H' x)⟩
theorem mono_lnC : MonoE (spLnC T NF) := fun vs H Q E E' h ⟨a, b, c, e, h1, h2, h3, h4⟩ => ⟨a, b, c, e, h1, h2, h3, fun k H' x => h _ _ _ (h4 k H' x)⟩
def spLine (NF C : Addr) (S : Addr → Option Sp) : Sp := fun vs H Q E => ∃ (f a : Addr) (i : Nat) (sp : Sp), vs = [.ref f, .ref a, .int (i : Int)] ∧ S f = some sp ∧ MonoE sp ∧ i ≤ 1000 ∧
  sp [.ref a] H Q (fun cls _ H' => cls = .ref NF ∧ ∀ dd, H' dd = none → E (.ref C) (some dd) (upd H' dd (.xd [(lineS, .int (i : Int))])))
theorem show_nat {i : Nat} (h : i ≤ 1000) : ShowV (.int (i : Int)) := .inr ⟨_, rfl, by
  rw [Int.natAbs_natCast]
  exact Nat.lt_of_le_of_lt (Nat.log2_le_self i) (by omega)⟩
theorem ok_read_line {S : Addr → Option Sp} {C fI : Addr} (D : Def K mg "read_line" s_read_line ["read", "words", "at"]) (X_NoForm : PlainX K mg "NoForm" NF) (T_BadText : ExcT P K mg "BadText" "line" C fI) (A_read : ∀ f sp, S f = some sp → HeldE (L2N.CX P w) P w K mg base 9 f sp) : OkX P w K mg base 10 "read_line" ["read", "words", "at"] (spLine NF C S) := by
  refine D.okX sc_read_line (fun vs H Q E h => ?_) (fun cdv f A outer s H vs Q E hr h => ?_)
  · obtain ⟨f, a, i, sp, rfl, _⟩ := h
    rfl
  · obtain ⟨f, a, i, sp, rfl, hS, hm, hi, q⟩ := h
    refine ⟨_, (pss_one (L2H.ps_try_onlyX rfl rfl ⟨rfl, by decide, .inl X_NoForm.g⟩ (fun hd => L2H.passesAt_of rfl hd) (takes_of rfl rfl rfl rfl) (fun W pn xe tk _ _ => (pss_one (ps_ret (pe_callE A_read (hr.mono (by decide)) (i := 0) rfl (by first | exact .inl rfl | exact .inr (.inl rfl)) (fun σ => L2N.passAt tk σ) (pa_cons (pv 1) pa_nil))))) (fun a oe cls d pn hz hf tk hot => (pss_one (L2H.ps_raiseHN hot tk (pmk5_sup FO_BadText T_BadText.toSupTxt (roomH_mk hr _) (pa_cons (pv 2) pa_nil))))))), ?_⟩
    walk_at "rd"
    refine rd_callE (f := f) rfl hS ?_
    walk_at "rd"
    refine hm _ _ _ _ _ (fun cls d H' h => ?_) q
    obtain ⟨rfl, h⟩ := h
    refine ⟨true, X_NoForm.e, fun _ _ _ => ?_, fun h => nomatch h⟩
    show tCons (tVar 2) tNil _ _ _
    walk_at "rd"
    exact ⟨_, rfl, show_nat hi, h⟩
end

open PySem PySem.Spec PyProof.Rows L2
open PySem.W (EachIs)
section
variable {T : List (Addr × Str)} {P : Program} {w : World} {K : PySem.W.Frag} {mg : Str → Option Value} {base : Heap} {NF : Addr}
local macro_rules | `(tactic| walk_at "tr") => `(tactic| first
  | assumption
  | exact Ext.refl
  | ((with_reducible refine' Im.x (T := T) (H := ?trH) ?tra ?tre); (case tre => assumption); (case tra => walk_at "tr"))
  | ((with_reducible refine' Im.y (T := T) (H := ?trH) ?tra ?tre ?trt); (case tre => assumption); (case trt => walk_at "tr"); (case tra => walk_at "tr"))
  | ((with_reducible refine' ImAll.x (T := T) (H := ?trH) ?tra ?tre); (case tre => assumption); (case tra => walk_at "tr"))
  | ((with_reducible refine' ImAll.y (T := T) (H := ?trH) ?tra ?tre ?trt); (case tre => assumption); (case trt => walk_at "tr"); (case tra => walk_at "tr"))
  | ((with_reducible refine' Ls.x (T := T) (H := ?trH) ?tra ?tre); (case tre => assumption); (case tra => walk_at "tr"))
  | ((with_reducible refine' Ls.y (T := T) (H := ?trH) ?tra ?tre ?trn ?trt); (case tre => assumption); (case trt => walk_at "tr"); (case trn => walk_at "tr"); (case tra => walk_at "tr"))
  | ((with_reducible refine' SqP.x (T := T) (H := ?trH) ?tra ?tre); (case tre => assumption); (case tra => walk_at "tr"))
  | ((with_reducible refine' SqP.y (T := T) (H := ?trH) ?tra ?tre ?trt); (case tre => assumption); (case trt => walk_at "tr"); (case tra => walk_at "tr"))
  | ((with_reducible refine' StAt.x (T := T) (H := ?trH) ?tra ?tre); (case tre => assumption); (case tra => walk_at "tr"))
  | ((with_reducible refine' StAt.y (T := T) (H := ?trH) ?tra ?tre ?trt); (case tre => assumption); (case trt => walk_at "tr"); (case tra => walk_at "tr"))
  | ((with_reducible refine' Pools.ext0 (T := T) (H := ?trH) ?tra ?tre); (case tre => assumption); (case tra => walk_at "tr"))
  | ((with_reducible refine' Pools.ext (T := T) (H := ?trH) ?tra ?tre ?trt); (case tre => assumption); (case trt => walk_at "tr"); (case tra => walk_at "tr"))
  | ((with_reducible refine' CL.x (T := T) (H := ?trH) ?tra ?tre); (case tre => assumption); (case tra => walk_at "tr"))
  | ((with_reducible refine' CL.y (T := T) (H := ?trH) ?tra ?tre); (case tre => assumption); (case tra => walk_at "tr"))
  | ((with_reducible refine' Tape.ext (T := T) (H := ?trH) ?tra ?tre); (case tre => assumption); (case tra => walk_at "tr"))
  | ((with_reducible refine' lst.x (T := T) (H := ?trH) ?tra ?tre); (case tre => assumption); (case tra => walk_at "tr"))
  | ((with_reducible refine' lst.y (T := T) (H := ?trH) ?tra ?tre ?trn); (case tre => assumption); (case trn => walk_at "tr"); (case tra => walk_at "tr"))
  | ((with_reducible refine' tup.x (T := T) (H := ?trH) ?tra ?tre); (case tre => assumption); (case tra => walk_at "tr"))
  | ((with_reducible refine' tup.y (T := T) (H := ?trH) ?tra ?tre ?trt); (case tre => assumption); (case trt => walk_at "tr"); (case tra => walk_at "tr"))
  | ((with_reducible refine' frz.x (T := T) (H := ?trH) ?tra ?tre); (case tre => assumption); (case tra => walk_at "tr"))
  | ((with_reducible refine' frz.y (T := T) (H := ?trH) ?tra ?tre ?trt); (case tre => assumption); (case trt => walk_at "tr"); (case tra => walk_at "tr"))
  | ((with_reducible refine' Im.z (T := T) (H := ?trH) ?tra ?tre ?trt); (case tre => assumption); (case trt => assumption); (case tra => walk_at "tr"))
  | ((with_reducible refine' ImAll.z (T := T) (H := ?trH) ?tra ?tre ?trt); (case tre => assumption); (case trt => assumption); (case tra => walk_at "tr"))
  | ((with_reducible refine' StAt.z (T := T) (H := ?trH) ?tra ?tre ?trt); (case tre => assumption); (case trt => assumption); (case tra => walk_at "tr"))
  | ((with_reducible refine' SqP.z (T := T) (H := ?trH) ?tra ?tre ?trt); (case tre => assumption); (case trt => assumption); (case tra => walk_at "tr"))
  | ((with_reducible refine' tup.z (T := T) (H := ?trH) ?tra ?tre ?trt); (case tre => assumption); (case trt => assumption); (case tra => walk_at "tr"))
  | ((with_reducible refine' Ls.z (T := T) (H := ?trH) ?tra ?tre ?trt ?trn); (case tre => assumption); (case trt => assumption); (case trn => assumption); (case tra => walk_at "tr"))
  | ((with_reducible refine' lst.z (T := T) (H := ?trH) ?tra ?tre ?trn); (case tre => assumption); (case trn => assumption); (case tra => walk_at "tr"))
  | ((with_reducible refine' CL.z (T := T) (H := ?trH) ?tra ?tre ?trn); (case tre => assumption); (case trn => assumption); (case tra => walk_at "tr"))
  | ((with_reducible refine' Tape.ne1 (H := ?trH) ?trt ?trn); (case trn => assumption); (case trt => walk_at "tr"))
  | ((with_reducible refine' Ext.trans (H1 := ?trH) ?tra (Ext.any ?tre)); (case tre => assumption); (case tra => walk_at "tr"))
  | ((with_reducible refine' Ext.trans (H1 := ?trH) ?tra ?tre); (case tre => assumption); (case tra => walk_at "tr"))
  | ((with_reducible refine' Ext.back1 (T := T) (H1 := ?trH) ?tre ?trn ?tra); (case tra => assumption); (case trn => walk_at "tr"); (case tre => walk_at "tr"))
  | ((with_reducible refine' Ext.back0 (T := T) (H1 := ?trH) ?tre ?tra); (case tra => assumption); (case tre => walk_at "tr"))
  | ((with_reducible refine' SqT.of ?tra); (case tra => walk_at "tr"))
  | ((with_reducible refine' SqL.of ?tra); (case tra => walk_at "tr")))

/-- as lcg_gen, with what the earlier turns have shown -/
theorem lcg_genP (T : List (Addr × Str)) {J : It} {n : Nat} {Gd : Hp → Prop} {Y : Nat → Hp → V → Hp → Prop} {g : TG} {te : TE} {vs : List Nat} {σ : L2.St} {H : Hp} {Q : VK} (w : Walk J n Gd Y) (hG : ∀ H', Ext T [] H H' → Gd H') (hs : n < sizeLine) (R : Nat → Prop)
    (step : ∀ i x H1 H', i < n → Ext T [] H H1 → (∀ j, j < i → R j) → Y i H1 x H' → ∀ F : VK, (∀ y H2, R i → Ext T [] H1 H2 → F y H2) → g x (wipe σ vs) H' fun σ2 H2 => wipe σ2 vs = wipe σ vs ∧ tYes σ2 H2 fun b H3 => if b = true then te σ2 H3 F else True)
    (q : ∀ D ys H2, Nw H D → Ext T [] H H2 → H2 D = some (.lst ys) → ys.length = n → (∀ j, j < n → R j) → Q (.ref D) H2) : LcG J g tYes te vs σ H Q := fun D hD => by
  refine lc_it w (fun i H2 => Ext T [] H H2 ∧ ∃ ys, H2 D = some (.lst ys) ∧ ys.length = i ∧ ∀ j, j < i → R j) ⟨.new hD, [], upd_same, rfl, fun j h => absurd h (Nat.not_lt_zero j)⟩ (fun i H2 _ h => hG _ h.1) (fun i x H1 H' hi h y => ?_) (fun H1 h => ?_)
  · obtain ⟨e1, ys, hy, hl, hr⟩ := h
    refine step i x H1 H' hi e1 hr y (fun v H4 => ∃ acc, H4 D = some (.lst acc) ∧ acc.length < sizeLine ∧ (Ext T [] H (upd H4 D (.lst (acc ++ [v]))) ∧ ∃ ys, (upd H4 D (.lst (acc ++ [v]))) D = some (.lst ys) ∧ ys.length = i + 1 ∧ ∀ j, j < i + 1 → R j)) fun v H2 hv e2 => ?_
    have hD2 := lst.x hy e2
    refine ⟨ys, hD2, by omega, (e1.trans e2).own (.of hD) hD2, ys ++ [v], upd_same, by rw [List.length_append, hl]; rfl, fun j hj => ?_⟩
    by_cases e : j = i
    · rw [e]
      exact hv
    · exact hr j (by omega)
  · obtain ⟨e1, ys, hy, hl, hr⟩ := h
    exact q D ys H1 (.of hD) e1 hy hl hr
/-- the number of the first row that has no form -/
def fb (F : List Str → Bool) : List (List Str) → Nat → Option Nat
  | [], _ => none
  | ws :: r, k => if F ws = true then fb F r (k + 1) else some k
theorem fb_none {F : List Str → Bool} : ∀ {rows : List (List Str)} {k : Nat}, (∀ (j : Nat) (ws : List Str), rows[j]? = some ws → F ws = true) → fb F rows k = none
  | [], _, _ => rfl
  | ws :: r, k, h => by
    unfold fb
    rw [if_pos (h 0 ws rfl)]
    exact fb_none fun j ws hj => h (j + 1) ws (by rw [List.getElem?_cons_succ]; exact hj)
theorem fb_some {F : List Str → Bool} : ∀ {rows : List (List Str)} {k i : Nat} {ws : List Str}, rows[i]? = some ws → F ws = false → (∀ (j : Nat) (ws : List Str), j < i → rows[j]? = some ws → F ws = true) → fb F rows k = some (k + i)
  | [], _, _, _, h, _, _ => by simp at h
  | x :: r, k, i, ws, h, hf, hp => by
    unfold fb
    cases i with
    | zero =>
      cases Option.some.inj (show some x = some ws from h)
      rw [if_neg (by rw [hf]; decide)]
      rfl
    | succ i =>
      rw [if_pos (hp 0 x (Nat.succ_pos i) rfl)]
      rw [List.getElem?_cons_succ] at h
      have e := fb_some (k := k + 1) h hf fun j ws hj hr => hp (j + 1) ws (Nat.succ_lt_succ hj) (by rw [List.getElem?_cons_succ]; exact hr)
      rw [e]
      congr 1
      omega
def oneS (f : Addr) (sp : Sp) : Addr → Option Sp := fun g => if g = f then some sp else none
theorem oneS_eq (f : Addr) (sp : Sp) : oneS f sp f = some sp := if_pos rfl
theorem one_held {CX : CXT} {k : Nat} {f : Addr} {sp : Sp} (h : HeldE CX P w K mg base k f sp) : ∀ g sp', oneS f sp g = some sp' → HeldE CX P w K mg base k g sp' := fun g sp' hg => by
  unfold oneS at hg
  split at hg
  · rename_i e
    subst e
    cases Option.some.inj hg
    exact h
  · cases hg
/-- a reader of a text of lines -/
def spTxt (T : List (Addr × Str)) (C : Addr) (B : Str → Option Nat) : Sp := fun vs H Q E => ∃ z : Str, vs = [.str z] ∧ z.length ≤ 50000 ∧ RowsW (rowsF z) ∧ (B z = none → ∀ v H', Ext T [] H H' → Q v H') ∧
  (∀ k, B z = some k → ∀ d H', Ext T [] H H' → H' d = none → E (.ref C) (some d) (upd H' d (.xd [(lineS, .int (k : Int))])))
def spLinesX (T : List (Addr × Str)) (C f : Addr) (F : List Str → Bool) : Sp := fun vs H Q E => ∃ z : Str, vs = [.ref f, .str z] ∧ spTxt T C (fun z => fb F (rowsF z) 1) [.str z] H Q E
theorem ok_read_lines {C f0 : Addr} {F : List Str → Bool} (D : Def K mg "read_lines" s_read_lines ["read", "text"]) (mb : ∀ x ∈ bltns, mg x = none) (G_split_lines : Ok P w K mg base 1 "split_lines" ["text"] (spSplitL T)) (G_read_line : OkX P w K mg base 10 "read_line" ["read", "words", "at"] (spLine NF C (oneS f0 (spLn T NF F)))) :
    OkX P w K mg base 11 "read_lines" ["read", "text"] (spLinesX T C f0 F) := by
  refine D.okX sc_read_lines (fun vs H Q E h => ?_) (fun cdv f A outer s H vs Q E hr h => ?_)
  · obtain ⟨z, rfl, _⟩ := h
    rfl
  · obtain ⟨z, rfl, z2, ez, hz, hR, q, qe⟩ := h
    cases ez
    refine ⟨_, (pss_cons (ps_set (i := 2) sc_read_lines.nd rfl (.inl rfl) (pe_callO G_split_lines (hr.mono (by decide)) (by rfl) (pa_cons (pv 1) pa_nil)))
   (pss_one (ps_ret (pe_callTy (call_tupU K rfl) (by rfl) (mb _ (by decide)) (by decide +kernel) (pa_cons (pe_lcX (own := [("at", 3), ("words", 4)]) (tt := tYes) rfl rfl rfl (takes_of rfl rfl rfl rfl) sc_read_lines.nd (pi_enum1 (by rfl) (mb _ (by decide)) (pa_cons (pv 2) pa_nil)) (blkOk_by (N := N_read_lines) (sc := defScope s_read_lines) (by decide +kernel)) (fun _ _ _ _ _ _ => (pg_tupU (n := 2) K rfl rfl (pgs_cons (pg_name (i := 3) sc_read_lines.nd rfl (Or.inl rfl)) (pgs_cons (pg_name (i := 4) sc_read_lines.nd rfl (Or.inl rfl)) pgs_nil)))) (fun _ _ _ _ _ _ => pts_nil) (fun _ _ _ _ _ _ _ tk => (pe_callX G_read_line (hr.mono (by decide)) (by rfl) tk (pa_cons (pv 0) (pa_cons (pv 4) (pa_cons (pv 3) pa_nil)))))) pa_nil))))), ?_⟩
    walk_at "rdn"
    refine rd_seq ?_
    walk_at "rdn"
    refine ⟨z, rfl, hz, hR.1, fun p ys H1 x1 hp hyl hys => ?_⟩
    obtain ⟨hRl, hRw⟩ := hR
    dsimp only at q qe
    generalize rowsF z = rows at q qe hRl hRw hyl hys
    walk_at "rd"
    refine rd_enum1 ?_
    walk_at "rd"
    refine ⟨p, ys, rfl, SqL.of hp, ?_⟩
    refine lcg_genP T (walk_enum1 (xs := ys)) (fun H' e => SqL.of (lst.x hp e)) (Nat.lt_of_le_of_lt (show ys.length ≤ 40 by omega) (by decide)) (fun i => ∀ ws, rows[i]? = some ws → F ws = true) (fun i x H3 H4 hi x3 hpr hx F go => ?_) (fun D zs H3 nD x3 hD hzl hall => ?_)
    · obtain ⟨tq, v1, v2, rfl, ntq, rfl, e1v, e2v⟩ := hx
      cases Option.some.inj e1v
      obtain ⟨a, ws, rfl, hws, ha⟩ := hys i v2 e2v
      obtain ⟨hne, hww⟩ := hRw ws (List.mem_of_getElem? hws)
      obtain ⟨h, t, rfl⟩ : ∃ h t, ws = h :: t := by
        cases ws with
        | nil => exact absurd rfl hne
        | cons h t => exact ⟨h, t, rfl⟩
      obtain ⟨ntq, x5, htq⟩ := alT (T := T) ntq [V.int ((i : Nat) + 1), .ref a]
      have ha := lst.x (lst.x ha x3) x5
      have x3 := x3.trans x5
      generalize upd H3 tq _ = H5 at x5 htq ha x3 ⊢
      refine rd_gtup (SqT.of htq) rfl (rd_gcons (rd_name (rd_gcons (rd_name (rd_gnil ?_)))))
      refine ⟨rfl, ?_⟩
      walk_at "rd"
      refine ⟨f0, a, i + 1, _, rfl, oneS_eq _ _, mono_ln _, by omega, a, h, t, rfl, ha, hww, fun kb v H6 x6 => ?_, fun kb H6 x6 => ⟨rfl, fun dd nd => ?_⟩⟩
      · refine go _ _ (fun ws2 h2 => ?_) (x5.trans x6)
        rw [hws] at h2
        cases Option.some.inj h2
        exact kb
      · refine qe (i + 1) ?_ dd _ (x1.trans (x3.trans x6)) nd
        rw [fb_some (k := 1) hws kb fun j ws2 hj h2 => hpr j hj ws2 h2]
        congr 1
        omega
    · walk_at "rd"
      refine rd_tupL (SqL.of hD) fun l2 nl2 => ?_
      obtain ⟨nl2, x7, hl2⟩ := alT (T := T) nl2 zs
      exact q (fb_none fun j ws hj => hall j (by rw [hyl]; exact (List.getElem?_eq_some_iff.mp hj).1) ws hj) _ _ (x1.trans (x3.trans x7))
theorem ok_read_table {C fw : Addr} (D : Def K mg "read_table" s_read_table ["text"]) (m_read_wait : mg "read_wait" = some (.ref fw)) (G_read_lines : OkX P w K mg base 11 "read_lines" ["read", "text"] (spLinesX T C fw waitF)) : OkX P w K mg base 12 "read_table" ["text"] (spTxt T C fun z => fb waitF (rowsF z) 1) := by
  refine D.okX sc_read_table (fun vs H Q E h => ?_) (fun cdv f A outer s H vs Q E hr h => ?_)
  · obtain ⟨z, rfl, _⟩ := h
    rfl
  · obtain ⟨z, rfl, h⟩ := h
    refine ⟨_, (pss_one (ps_ret (pe_callX G_read_lines (hr.mono (by decide)) (by rfl) (takes_of rfl rfl rfl rfl) (pa_cons (pe_glF (by rfl) m_read_wait) (pa_cons (pv 0) pa_nil))))), ?_⟩
    walk_at "rd"
    exact ⟨z, rfl, z, rfl, h⟩
theorem ok_read_plan {C fs : Addr} (D : Def K mg "read_plan" s_read_plan ["text"]) (m_read_step : mg "read_step" = some (.ref fs)) (G_read_lines : OkX P w K mg base 11 "read_lines" ["read", "text"] (spLinesX T C fs stepF)) : OkX P w K mg base 12 "read_plan" ["text"] (spTxt T C fun z => fb stepF (rowsF z) 1) := by
  refine D.okX sc_read_plan (fun vs H Q E h => ?_) (fun cdv f A outer s H vs Q E hr h => ?_)
  · obtain ⟨z, rfl, _⟩ := h
    rfl
  · obtain ⟨z, rfl, h⟩ := h
    refine ⟨_, (pss_one (ps_ret (pe_callX G_read_lines (hr.mono (by decide)) (by rfl) (takes_of rfl rfl rfl rfl) (pa_cons (pe_glF (by rfl) m_read_step) (pa_cons (pv 0) pa_nil))))), ?_⟩
    walk_at "rd"
    exact ⟨z, rfl, z, rfl, h⟩
theorem ok_read_history {C fe : Addr} (D : Def K mg "read_history" s_read_history ["text"]) (m_read_event : mg "read_event" = some (.ref fe)) (G_read_lines : OkX P w K mg base 11 "read_lines" ["read", "text"] (spLinesX T C fe eventF)) : OkX P w K mg base 12 "read_history" ["text"] (spTxt T C fun z => fb eventF (rowsF z) 1) := by
  refine D.okX sc_read_history (fun vs H Q E h => ?_) (fun cdv f A outer s H vs Q E hr h => ?_)
  · obtain ⟨z, rfl, _⟩ := h
    rfl
  · obtain ⟨z, rfl, h⟩ := h
    refine ⟨_, (pss_one (ps_ret (pe_callX G_read_lines (hr.mono (by decide)) (by rfl) (takes_of rfl rfl rfl rfl) (pa_cons (pe_glF (by rfl) m_read_event) (pa_cons (pv 0) pa_nil))))), ?_⟩
    walk_at "rd"
    exact ⟨z, rfl, z, rfl, h⟩
end

open PySem PySem.Spec PyProof.Rows L2
open PySem.W (EachIs)
section
variable {T : List (Addr × Str)} {P : Program} {w : World} {K : PySem.W.Frag} {mg : Str → Option Value} {base : Heap} {NF : Addr}
local macro_rules | `(tactic| walk_at "tr") => `(tactic| first
  | assumption
  | exact Ext.refl
  | ((with_reducible refine' Im.x (T := T) (H := ?trH) ?tra ?tre); (case tre => assumption); (case tra => walk_at "tr"))
  | ((with_reducible refine' Im.y (T := T) (H := ?trH) ?tra ?tre ?trt); (case tre => assumption); (case trt => walk_at "tr"); (case tra => walk_at "tr"))
  | ((with_reducible refine' ImAll.x (T := T) (H := ?trH) ?tra ?tre); (case tre => assumption); (case tra => walk_at "tr"))
  | ((with_reducible refine' ImAll.y (T := T) (H := ?trH) ?tra ?tre ?trt); (case tre => assumption); (case trt => walk_at "tr"); (case tra => walk_at "tr"))
  | ((with_reducible refine' Ls.x (T := T) (H := ?trH) ?tra ?tre); (case tre => assumption); (case tra => walk_at "tr"))
  | ((with_reducible refine' Ls.y (T := T) (H := ?trH) ?tra ?tre ?trn ?trt); (case tre => assumption); (case trt => walk_at "tr"); (case trn => walk_at "tr"); (case tra => walk_at "tr"))
  | ((with_reducible refine' SqP.x (T := T) (H := ?trH) ?tra ?tre); (case tre => assumption); (case tra => walk_at "tr"))
  | ((with_reducible refine' SqP.y (T := T) (H := ?trH) ?tra ?tre ?trt); (case tre => assumption); (case trt => walk_at "tr"); (case tra => walk_at "tr"))
  | ((with_reducible refine' StAt.x (T := T) (H := ?trH) ?tra ?tre); (case tre => assumption); (case tra => walk_at "tr"))
  | ((with_reducible refine' StAt.y (T := T) (H := ?trH) ?tra ?tre ?trt); (case tre => assumption); (case trt => walk_at "tr"); (case tra => walk_at "tr"))
  | ((with_reducible refine' Pools.ext0 (T := T) (H := ?trH) ?tra ?tre); (case tre => assumption); (case tra => walk_at "tr"))
  | ((with_reducible refine' Pools.ext (T := T) (H := ?trH) ?tra ?tre ?trt); (case tre => assumption); (case trt => walk_at "tr"); (case tra => walk_at "tr"))
  | ((with_reducible refine' CL.x (T := T) (H := ?trH) ?tra ?tre); (case tre => assumption); (case tra => walk_at "tr"))
  | ((with_reducible refine' CL.y (T := T) (H := ?trH) ?tra ?tre); (case tre => assumption); (case tra => walk_at "tr"))
  | ((with_reducible refine' Tape.ext (T := T) (H := ?trH) ?tra ?tre); (case tre => assumption); (case tra => walk_at "tr"))
  | ((with_reducible refine' lst.x (T := T) (H := ?trH) ?tra ?tre); (case tre => assumption); (case tra => walk_at "tr"))
  | ((with_reducible refine' lst.y (T := T) (H := ?trH) ?tra ?tre ?trn); (case tre => assumption); (case trn => walk_at "tr"); (case tra => walk_at "tr"))
  | ((with_reducible refine' tup.x (T := T) (H := ?trH) ?tra ?tre); (case tre => assumption); (case tra => walk_at "tr"))
  | ((with_reducible refine' tup.y (T := T) (H := ?trH) ?tra ?tre ?trt); (case tre => assumption); (case trt => walk_at "tr"); (case tra => walk_at "tr"))
  | ((with_reducible refine' frz.x (T := T) (H := ?trH) ?tra ?tre); (case tre => assumption); (case tra => walk_at "tr"))
  | ((with_reducible refine' frz.y (T := T) (H := ?trH) ?tra ?tre ?trt); (case tre => assumption); (case trt => walk_at "tr"); (case tra => walk_at "tr"))
  | ((with_reducible refine' Im.z (T := T) (H := ?trH) ?tra ?tre ?trt); (case tre => assumption); (case trt => assumption); (case tra => walk_at "tr"))
  | ((with_reducible refine' ImAll.z (T := T) (H := ?trH) ?tra ?tre ?trt); (case tre => assumption); (case trt => assumption); (case tra => walk_at "tr"))
  | ((with_reducible refine' StAt.z (T := T) (H := ?trH) ?tra ?tre ?trt); (case tre => assumption); (case trt => assumption); (case tra => walk_at "tr"))
  | ((with_reducible refine' SqP.z (T := T) (H := ?trH) ?tra ?tre ?trt); (case tre => assumption); (case trt => assumption); (case tra => walk_at "tr"))
  | ((with_reducible refine' tup.z (T := T) (H := ?trH) ?tra ?tre ?trt); (case tre => assumption); (case trt => assumption); (case tra => walk_at "tr"))
  | ((with_reducible refine' Ls.z (T := T) (H := ?trH) ?tra ?tre ?trt ?trn); (case tre => assumption); (case trt => assumption); (case trn => assumption); (case tra => walk_at "tr"))
  | ((with_reducible refine' lst.z (T := T) (H := ?trH) ?tra ?tre ?trn); (case tre => assumption); (case trn => assumption); (case tra => walk_at "tr"))
  | ((with_reducible refine' CL.z (T := T) (H := ?trH) ?tra ?tre ?trn); (case tre => assumption); (case trn => assumption); (case tra => walk_at "tr"))
  | ((with_reducible refine' Tape.ne1 (H := ?trH) ?trt ?trn); (case trn => assumption); (case trt => walk_at "tr"))
  | ((with_reducible refine' Ext.trans (H1 := ?trH) ?tra (Ext.any ?tre)); (case tre => assumption); (case tra => walk_at "tr"))
  | ((with_reducible refine' Ext.trans (H1 := ?trH) ?tra ?tre); (case tre => assumption); (case tra => walk_at "tr"))
  | ((with_reducible refine' Ext.back1 (T := T) (H1 := ?trH) ?tre ?trn ?tra); (case tra => assumption); (case trn => walk_at "tr"); (case tre => walk_at "tr"))
  | ((with_reducible refine' Ext.back0 (T := T) (H1 := ?trH) ?tre ?tra); (case tra => assumption); (case tre => walk_at "tr"))
  | ((with_reducible refine' SqT.of ?tra); (case tra => walk_at "tr"))
  | ((with_reducible refine' SqL.of ?tra); (case tra => walk_at "tr")))

theorem Ext.news {as : List Addr} {H H' : Hp} (e : Ext T as H H') (h : ∀ a ∈ as, Nw H a) : Ext T [] H H' := ⟨fun b o _ hn hb => by
  by_cases hm : b ∈ as
  · obtain ⟨ps, e1⟩ := h b hm o hb
    exact absurd e1 (hn ps)
  · exact e.keep b o hm hn hb, e.tabs⟩
/-- a list of new empty lists -/
theorem lcg_lists (T : List (Addr × Str)) {σ : L2.St} {H : Hp} {Q : VK} {te : TE} {n k : Nat} (hn : n < sizeLine)
    (step : ∀ (i : Nat) H', i < n → ∀ F : VK, (∀ p, H' p = none → F (.ref p) (upd H' p (.lst []))) → te ((wipe σ [k]).set k (some (.int (0 + (i : Int))))) H' F)
    (q : ∀ D H2 (as : List Addr), Ext T [] H H2 → H2 D = some (.lst (as.map V.ref)) → as.length = n → as.Nodup → D ∉ as → Nw H D → (∀ a ∈ as, Nw H a ∧ H2 a = some (.lst [])) → Q (.ref D) H2) : LcG (Itr 0 n) (gName k) tYes te [k] σ H Q := fun D hD => by
  refine lc_it walk_range (fun i H2 => Ext T [] H H2 ∧ ∃ as : List Addr, H2 D = some (.lst (as.map V.ref)) ∧ as.length = i ∧ as.Nodup ∧ D ∉ as ∧ ∀ a ∈ as, Nw H a ∧ H2 a = some (.lst [])) ⟨.new hD, [], upd_same, rfl, List.nodup_nil, by simp, fun a h => by simp at h⟩ (fun _ _ _ _ => True.intro) (fun i x H1 H' hi h y => ?_) (fun H1 h => ?_)
  · obtain ⟨e1, e2⟩ := y
    subst e1
    subst e2
    obtain ⟨h1, as, h3, h4, h5, h6, h7⟩ := h
    refine ⟨wipe1, step i H' hi _ fun p hp => ?_⟩
    have hpD : D ≠ p := fun z => by
      rw [← z, h3] at hp
      cases hp
    have hpn : p ∉ as := fun z => by
      rw [(h7 p z).2] at hp
      cases hp
    have x1 : Ext T [] H' (upd H' p (.lst [])) := .new hp
    have h3' : upd H' p (.lst []) D = some (.lst (as.map V.ref)) := by rw [upd_ne hpD]; exact h3
    refine ⟨as.map V.ref, h3', by rw [List.length_map]; omega, (h1.trans x1).own (.of hD) h3', as ++ [p], by rw [List.map_append]; exact upd_same, by rw [List.length_append, h4]; rfl, ?_, ?_, fun a ha => ?_⟩
    · rw [List.nodup_append]
      refine ⟨h5, by simp, fun a ha b hb => ?_⟩
      rw [List.mem_singleton.mp hb]
      intro z
      exact hpn (z ▸ ha)
    · rw [List.mem_append, List.mem_singleton]
      exact fun z => z.elim h6 hpD
    · rcases List.mem_append.mp ha with ha | ha
      · have hne : a ≠ D := fun z => h6 (z ▸ ha)
        refine ⟨(h7 a ha).1, ?_⟩
        rw [upd_ne hne]
        exact x1.lst (by simp) (h7 a ha).2
      · rw [List.mem_singleton.mp ha]
        refine ⟨h1.back (by simp) (.of hp), ?_⟩
        rw [upd_ne (Ne.symm hpD)]
        exact upd_same
  · obtain ⟨h1, as, h3, h4, h5, h6, h7⟩ := h
    exact q D H1 as h1 h3 h4 h5 h6 (.of hD) h7
theorem oG_lt {b : Bool} {g n : Nat} (h : oG b g = some n) : n = g := by
  unfold oG at h
  split at h
  · exact (Option.some.inj h).symm
  · cases h
theorem plc_lt {ws : List Str} {n : Nat} (h : plc ws = some n) : n = 3 := by
  unfold plc at h
  split at h
  · exact (Option.some.inj h).symm
  · cases h
theorem caseF_lt {ws : List Str} {g : Nat} (h : caseF ws = some g) : g < 8 := by
  cases ws with
  | nil => cases h
  | cons w t =>
    unfold caseF at h
    dsimp only at h
    split at h
    · unfold zoneG at h
      split at h
      · split at h
        · rw [oG_lt h]; decide
        · rw [plc_lt h]; decide
      · rw [plc_lt h]; decide
    split at h
    · unfold anchorG at h
      split at h
      · rw [oG_lt h]; decide
      · rw [plc_lt h]; decide
    split at h
    · unfold setG at h
      split at h
      · rw [oG_lt h]; decide
      · rw [plc_lt h]; decide
    split at h
    · unfold onG at h
      split at h
      · rw [oG_lt h]; decide
      · rw [plc_lt h]; decide
    split at h
    · unfold deedG at h
      split at h
      · rw [oG_lt h]; decide
      · rw [plc_lt h]; decide
    split at h
    · unfold beforeG at h
      split at h
      · rw [oG_lt h]; decide
      · rw [plc_lt h]; decide
    split at h
    · unfold endG at h
      split at h
      · rw [oG_lt h]; decide
      · rw [plc_lt h]; decide
    rw [plc_lt h]
    decide
theorem rd_raiseL {C : Addr} {fld : Str} {W : WX} {ta : TA} {D : Ends} {σ : L2.St} {H : Hp} (q : ta σ H fun vs H1 => ∃ v, vs = [v] ∧ ShowV v ∧ ∀ d, H1 d = none → W (.ref C) (some d) σ (upd H1 d (.xd [(fld, v)]))) : tRaiseSup C fld W ta D σ H := q
/-- the number of the first wrong line of a case -/
def cb : List (List Str) → Nat → Nat → Option Nat
  | [], last, k => if last = 7 then none else some k
  | ws :: r, last, k => match caseF ws with
    | none => some k
    | some g => if g < last ∨ last = 7 then some k else cb r g (k + 1)
def caseB (z : Str) : Option Nat := cb (rowsF z) 0 1
def GrpsX (H : Hp) (as : List Addr) (last n : Nat) : Prop := ∀ (j : Nat) a, as[j]? = some a → ∃ xs, H a = some (.lst xs) ∧ xs.length ≤ n ∧ (j = 5 → ∀ v ∈ xs, Pr2 H v) ∧ (j = 7 → last = 7 → xs ≠ [])
theorem Pr2.ext {T : List (Addr × Str)} {ms : List Addr} {H H' : Hp} {v : V} (h : Pr2 H v) (x : Ext T ms H H') (l : Lsts H ms) : Pr2 H' v := by
  obtain ⟨p, a, b, rfl, hp⟩ := h
  exact ⟨p, a, b, rfl, SqP.ext hp x l⟩
def spGroups (T : List (Addr × Str)) (C : Addr) : Sp := fun vs H Q E => ∃ z : Str, vs = [.str z] ∧ z.length ≤ 50000 ∧ RowsW (rowsF z) ∧ (caseB z = none → ∀ g as H', Ext T [] H H' → H' g = some (.lst (as.map V.ref)) → as.length = 8 → GrpsX H' as 7 40 → Q (.ref g) H') ∧
  (∀ k, caseB z = some k → ∀ d H', Ext T [] H H' → H' d = none → E (.ref C) (some d) (upd H' d (.xd [(lineS, .int (k : Int))])))
theorem ok_read_groups {C fI fc : Addr} (D : Def K mg "read_groups" s_read_groups ["text"]) (mb : ∀ x ∈ bltns, mg x = none) (M : Cst mg) (T_BadText : ExcT P K mg "BadText" "line" C fI) (m_read_case_line : mg "read_case_line" = some (.ref fc)) (G_split_lines : Ok P w K mg base 1 "split_lines" ["text"] (spSplitL T)) (G_read_line : OkX P w K mg base 10 "read_line" ["read", "words", "at"] (spLine NF C (oneS fc (spLnC T NF)))) :
    OkX P w K mg base 11 "read_groups" ["text"] (spGroups T C) := by
  refine D.okX sc_read_groups (fun vs H Q E h => ?_) (fun cdv f A outer s H vs Q E hr h => ?_)
  · obtain ⟨z, rfl, _⟩ := h
    rfl
  · obtain ⟨z, rfl, hz, hR, q, qe⟩ := h
    refine ⟨_, (pss_cons (ps_set (i := 1) sc_read_groups.nd rfl (.inl rfl) (pe_callO G_split_lines (hr.mono (by decide)) (by rfl) (pa_cons (pv 0) pa_nil)))
   (pss_cons (ps_setLc (i := 2) (own := [("_", 8)]) (g := gName 8) (tt := tYes) rfl sc_read_groups.nd rfl rfl (sw_true rfl rfl rfl (by decide +kernel)) (pi_range1 (by rfl) (mb _ (by decide)) (pa_cons (pe_op (op_plus K rfl) (pe_glI (by rfl) M.c_END) pe_int) pa_nil)) (blkOk_by (N := N_read_groups) (sc := defScope s_read_groups) (by decide +kernel)) (fun _ _ _ _ _ => (pg_name (i := 8) sc_read_groups.nd rfl (Or.inl rfl))) (fun _ _ _ _ _ => pts_nil) (fun _ _ _ _ _ => (pe_lst pa_nil)))
   (pss_cons (ps_set (i := 3) sc_read_groups.nd rfl (.inl rfl) (pe_glI (by rfl) M.c_ZONES))
   (pss_cons (ps_for (passes_of rfl) rfl (pi_enum1 (by rfl) (mb _ (by decide)) (pa_cons (pv 1) pa_nil)) (pg_tupU (n := 2) K rfl rfl (pgs_cons (pg_name (i := 4) sc_read_groups.nd rfl (.inl rfl)) (pgs_cons (pg_name (i := 5) sc_read_groups.nd rfl (.inl rfl)) pgs_nil))) (pss_cons (ps_asg (pe_callX G_read_line (hr.mono (by decide)) (by rfl) (takes_of rfl rfl rfl rfl) (pa_cons (pe_glF (by rfl) m_read_case_line) (pa_cons (pv 5) (pa_cons (pv 4) pa_nil)))) (pg_tupU (n := 2) K rfl rfl (pgs_cons (pg_name (i := 6) sc_read_groups.nd rfl (.inl rfl)) (pgs_cons (pg_name (i := 7) sc_read_groups.nd rfl (.inl rfl)) pgs_nil))))
   (pss_cons (ps_if (PW.pt (pw_or (pt_cmpR op_lt (pv 6) (pv 3) (nomark _)) (pw_or1 (pt_cmpR (op_eqU K rfl hr.units) (pv 3) (pe_glI (by rfl) M.c_END) (nomark _))))) (pss_one (ps_raiseSup rfl FO_BadText T_BadText.toSupTxt hr (takes_of rfl rfl rfl rfl) (pa_cons (pv 4) pa_nil))) pss_nil)
   (pss_cons (ps_expr (pe_bm PySem.F.plainAttrs_list PySem.F.slot_list_append PySem.F.type_list_append mt_append (pe_ix (ix_U K rfl) (pv 2) (pv 6) (fun _ _ => rfl)) (pa_cons (pv 7) pa_nil)))
   (pss_one (ps_set (i := 3) sc_read_groups.nd rfl (.inl rfl) (pv 6)))))))
   (pss_cons (ps_if (pt_cmpR (op_neU K rfl hr.units) (pv 3) (pe_glI (by rfl) M.c_END) (nomark _)) (pss_one (ps_raiseSup rfl FO_BadText T_BadText.toSupTxt hr (takes_of rfl rfl rfl rfl) (pa_cons (pe_op (op_plus K rfl) (pe_callB (call_lenU K rfl) (by rfl) (mb _ (by decide)) (by decide +kernel) (pa_cons (pv 1) pa_nil)) pe_int) pa_nil))) pss_nil)
   (pss_one (ps_ret (pv 2)))))))), ?_⟩
    walk_at "rdn"
    refine rd_seq ?_
    walk_at "rdn"
    refine ⟨z, rfl, hz, hR.1, fun p ys H1 x1 hp hyl hys => ?_⟩
    obtain ⟨hRl, hRw⟩ := hR
    unfold caseB at q qe
    generalize rowsF z = rows at q qe hRl hRw hyl hys
    walk_at "rdn"
    refine rd_seq ?_
    walk_at "rd"
    refine ⟨by decide, by decide, ?_⟩
    rw [show ((7 : Int) + 1).toNat = 8 from rfl]
    refine lcg_lists T (n := 8) (by decide) (fun i H' hi F go => ?_) (fun gr H2 as x2 hg hal hnd hga nwg hnew => ?_)
    · walk_at "rd"
      refine ⟨by walk_at "sz", fun p np => ?_⟩
      exact go p np
    have hal : as.length = 8 := hal
    have hp2 := lst.x hp x2
    have hys2 : ∀ (i : Nat) (y : V), ys[i]? = some y → ∃ (a : Addr) (h : Str) (t : List Str), y = V.ref a ∧ rows[i]? = some (h :: t) ∧ WsOk (h :: t) ∧ a ∉ as ∧ H2 a = some (.lst (V.str h :: t.map V.str)) := fun i y hy => by
      obtain ⟨a, ws, h1, h2, h3⟩ := hys i y hy
      obtain ⟨hne, hww⟩ := hRw ws (List.mem_of_getElem? h2)
      obtain ⟨h, t, rfl⟩ : ∃ h t, ws = h :: t := by
        cases ws with
        | nil => exact absurd rfl hne
        | cons h t => exact ⟨h, t, rfl⟩
      exact ⟨a, h, t, h1, h2, hww, fun z => (hnew a z).1.lst h3 rfl, lst.x h3 x2⟩
    have hpa : p ∉ as := fun z => (hnew p z).1.lst hp rfl
    have h0 : GrpsX H2 as 0 0 := fun j a ha => ⟨[], (hnew a (List.mem_of_getElem? ha)).2, Nat.le_refl _, fun _ => fun v hv => (by simp at hv), fun _ => fun h => absurd h (by decide)⟩
    have hX : ∀ H', Ext T as H2 H' → Ext T [] H H' := fun H' e => x1.trans ((x2.any.trans e).news fun a ha => (hnew a ha).1)
    clear hys hp x1 x2 hnew
    walk_at "rdn"
    refine rd_seq ?_
    walk_at "rd"
    refine rd_enum1 ?_
    walk_at "rd"
    refine ⟨p, ys, rfl, SqL.of hp2, ?_⟩
    refine forg_it (walk_enum1 (xs := ys)) (fun i σ H' => ∃ (last : Nat) (o4 o5 o6 o7 : Option V), σ = [some (.str z), some (.ref p), some (.ref gr), some (.int (last : Int)), o4, o5, o6, o7, none] ∧ Ext T as H2 H' ∧ GrpsX H' as last i ∧ cb rows 0 1 = cb (rows.drop i) last (i + 1)) ⟨0, none, none, none, none, rfl, .refl, h0, rfl⟩ (fun i σ H' hi h => ?_) (fun i x σ H' H'' hi h hx => ?_) (fun σ H' h => ?_)
    · obtain ⟨_, _, _, _, _, _, e, _⟩ := h
      exact SqL.of (e.lst hpa hp2)
    · obtain ⟨last, o4, o5, o6, o7, rfl, e3, hG, hcb⟩ := h
      obtain ⟨tq, v1, v2, rfl, ntq, rfl, e1v, e2v⟩ := hx
      cases Option.some.inj e1v
      obtain ⟨a, h, t, rfl, hr0, hww, haa, ha⟩ := hys2 i v2 e2v
      have hdr : rows.drop i = (h :: t) :: rows.drop (i + 1) := by
        obtain ⟨hil, he⟩ := List.getElem?_eq_some_iff.mp hr0
        rw [List.drop_eq_getElem_cons hil, he]
      rw [hdr] at hcb
      obtain ⟨ntq, x5, htq⟩ := alT (T := T) ntq [V.int ((i : Nat) + 1), .ref a]
      have ha := lst.x (e3.lst haa ha) x5
      have e5 : Ext T as H2 (upd H' tq _) := e3.trans x5.any
      have hG : GrpsX (upd H' tq _) as last i := fun j b hb => by
        obtain ⟨xs, g1, g2, g3, g4⟩ := hG j b hb
        exact ⟨xs, lst.x g1 x5, g2, fun hj v hv => (g3 hj v hv).ext x5 .nil, g4⟩
      generalize upd H' tq _ = H5 at x5 htq ha e5 hG ⊢
      refine rd_gtup (SqT.of htq) rfl (rd_gcons (rd_name (rd_gcons (rd_name (rd_gnil ?_)))))
      clear x5 e3 htq
      walk_at "rdn"
      refine rd_seq ?_
      walk_at "rd"
      have hi40 : i < 40 := by omega
      refine ⟨fc, a, i + 1, _, rfl, oneS_eq _ _, mono_lnC, by omega, a, h, t, rfl, ha, hww, fun g kb pt u H6 x6 hpt hu => ?_, fun kb H6 x6 => ⟨rfl, fun dd nd => ?_⟩⟩
      rotate_left
      · refine qe (i + 1) ?_ dd _ (hX _ (e5.trans x6.any)) nd
        rw [hcb]
        show (match caseF (h :: t) with | none => _ | some g => _) = _
        rw [kb]
      have hcb2 : cb rows 0 1 = if g < last ∨ last = 7 then some (i + 1) else cb (rows.drop (i + 1)) g (i + 1 + 1) := by
        rw [hcb]
        show (match caseF (h :: t) with | none => _ | some g => _) = _
        rw [kb]
      have hg8 := caseF_lt kb
      have e6 := e5.trans x6.any
      have hG : GrpsX H6 as last i := fun j b hb => by
        obtain ⟨xs, g1, g2, g3, g4⟩ := hG j b hb
        exact ⟨xs, lst.x g1 x6, g2, fun hj v hv => (g3 hj v hv).ext x6 .nil, g4⟩
      clear e5 x6 ha
      refine rd_gtup (SqT.of hpt) rfl (rd_gcons (rd_name (rd_gcons (rd_name (rd_gnil ?_)))))
      have hbad : g < last ∨ last = 7 → ∀ d, H6 d = none → E (.ref C) (some d) (upd H6 d (.xd [(lineS, .int ((i + 1 : Nat) : Int))])) := fun hc d nd => qe (i + 1) (by rw [hcb2, if_pos hc]) d _ (hX _ e6) nd
      walk_at "rdn"
      refine rd_seq ?_
      walk_at "rd"
      refine rd_ite (fun c1 => ?_) (fun c1 => ?_)
      · walk_at "rd"
        refine rd_raiseL ?_
        walk_at "rd"
        exact ⟨_, rfl, show_nat (i := i + 1) (by omega), hbad (.inl (by omega))⟩
      walk_at "rd"
      refine rd_ite (fun c2 => ?_) (fun c2 => ?_)
      · walk_at "rd"
        refine rd_raiseL ?_
        walk_at "rd"
        exact ⟨_, rfl, show_nat (i := i + 1) (by omega), hbad (.inr (by omega))⟩
      walk_at "rd"
      have hn1 : ¬ g < last := by omega
      have hn2 : ¬ last = 7 := by omega
      rw [if_neg (fun z => z.elim hn1 hn2)] at hcb2
      have hg6 := e6.lst hga hg
      have hgi : g < as.length := by
        rw [hal]
        exact hg8
      have hat : (as.map V.ref)[g]? = some (V.ref as[g]) := by
        rw [List.getElem?_map, List.getElem?_eq_getElem hgi]
        rfl
      refine rd_ixL (SqL.of hg6) (atI_nat hat) ?_
      obtain ⟨xs, hxs, hxl, hx5, hx7⟩ := hG g as[g] (List.getElem?_eq_getElem hgi)
      walk_at "rd"
      have e7 : Ext T as H2 (upd H6 as[g] (.lst (xs ++ [u]))) := e6.trans (.mut (List.getElem_mem hgi) hxs)
      have lo : Lsts H6 [as[g]] := fun b hb => by
        rw [List.mem_singleton.mp hb]
        exact ⟨_, hxs⟩
      have eo : Ext T [as[g]] H6 (upd H6 as[g] (.lst (xs ++ [u]))) := .mut (by simp) hxs
      have hG7 : GrpsX (upd H6 as[g] (.lst (xs ++ [u]))) as g (i + 1) := fun j b hb => by
        by_cases hj : g = j
        · subst hj
          rw [List.getElem?_eq_getElem hgi] at hb
          cases Option.some.inj hb
          refine ⟨xs ++ [u], upd_same, by rw [List.length_append]; show _ + 1 ≤ _; omega, fun h5 v hv => ?_, fun _ _ => by simp⟩
          rcases List.mem_append.mp hv with hv | hv
          · exact (hx5 h5 v hv).ext eo lo
          · rw [List.mem_singleton.mp hv]
            exact (hu h5).ext eo lo
        · have hne : b ≠ as[g] := fun z => by
            have hb2 := (List.getElem?_eq_some_iff.mp hb).2
            exact hj ((List.getElem_inj hnd).mp (hb2.trans z)).symm
          obtain ⟨zs, g1, g2, g3, g4⟩ := hG j b hb
          exact ⟨zs, by rw [upd_ne hne]; exact g1, by omega, fun h5 v hv => (g3 h5 v hv).ext eo lo, fun h7 h8 => absurd (h8.trans h7.symm) hj⟩
      exact ⟨g, some (.int ((i : Nat) + 1)), some (.ref a), some (.int ((g : Nat) : Int)), some u, rfl, e7, hG7, hcb2⟩
    · obtain ⟨last, o4, o5, o6, o7, rfl, e3, hG, hcb⟩ := h
      rw [hyl, List.drop_length] at hcb
      walk_at "rd"
      have hcb : cb rows 0 1 = if last = 7 then none else some (rows.length + 1) := hcb
      by_cases c : last = 7
      · rw [if_pos c] at hcb
        rw [decide_eq_true (show ((last : Nat) : Int) = 7 by omega)]
        walk_at "rd"
        refine q hcb gr as H' (hX H' e3) (e3.lst hga hg) hal fun j b hb => ?_
        obtain ⟨xs, g1, g2, g3, g4⟩ := hG j b hb
        exact ⟨xs, g1, by omega, g3, fun h7 _ => g4 h7 c⟩
      · rw [if_neg c] at hcb
        rw [decide_eq_false (show ¬ ((last : Nat) : Int) = 7 by omega)]
        walk_at "rd"
        refine rd_raiseL ?_
        have hp3 := e3.lst hpa hp2
        walk_at "rd"
        refine ⟨_, rfl, ?_, fun d nd => ?_⟩
        · have := show_nat (i := rows.length + 1) (by omega)
          rw [hyl]
          exact this
        · have := qe (rows.length + 1) hcb d _ (hX H' e3) nd
          rw [hyl]
          exact this
end

open PySem PySem.Spec PyProof.Rows L2
open PySem.W (EachIs)
section
variable {T : List (Addr × Str)} {P : Program} {w : World} {K : PySem.W.Frag} {mg : Str → Option Value} {base : Heap} {NF : Addr}
local macro_rules | `(tactic| walk_at "tr") => `(tactic| first
  | assumption
  | exact Ext.refl
  | ((with_reducible refine' Im.x (T := T) (H := ?trH) ?tra ?tre); (case tre => assumption); (case tra => walk_at "tr"))
  | ((with_reducible refine' Im.y (T := T) (H := ?trH) ?tra ?tre ?trt); (case tre => assumption); (case trt => walk_at "tr"); (case tra => walk_at "tr"))
  | ((with_reducible refine' ImAll.x (T := T) (H := ?trH) ?tra ?tre); (case tre => assumption); (case tra => walk_at "tr"))
  | ((with_reducible refine' ImAll.y (T := T) (H := ?trH) ?tra ?tre ?trt); (case tre => assumption); (case trt => walk_at "tr"); (case tra => walk_at "tr"))
  | ((with_reducible refine' Ls.x (T := T) (H := ?trH) ?tra ?tre); (case tre => assumption); (case tra => walk_at "tr"))
  | ((with_reducible refine' Ls.y (T := T) (H := ?trH) ?tra ?tre ?trn ?trt); (case tre => assumption); (case trt => walk_at "tr"); (case trn => walk_at "tr"); (case tra => walk_at "tr"))
  | ((with_reducible refine' SqP.x (T := T) (H := ?trH) ?tra ?tre); (case tre => assumption); (case tra => walk_at "tr"))
  | ((with_reducible refine' SqP.y (T := T) (H := ?trH) ?tra ?tre ?trt); (case tre => assumption); (case trt => walk_at "tr"); (case tra => walk_at "tr"))
  | ((with_reducible refine' StAt.x (T := T) (H := ?trH) ?tra ?tre); (case tre => assumption); (case tra => walk_at "tr"))
  | ((with_reducible refine' StAt.y (T := T) (H := ?trH) ?tra ?tre ?trt); (case tre => assumption); (case trt => walk_at "tr"); (case tra => walk_at "tr"))
  | ((with_reducible refine' Pools.ext0 (T := T) (H := ?trH) ?tra ?tre); (case tre => assumption); (case tra => walk_at "tr"))
  | ((with_reducible refine' Pools.ext (T := T) (H := ?trH) ?tra ?tre ?trt); (case tre => assumption); (case trt => walk_at "tr"); (case tra => walk_at "tr"))
  | ((with_reducible refine' CL.x (T := T) (H := ?trH) ?tra ?tre); (case tre => assumption); (case tra => walk_at "tr"))
  | ((with_reducible refine' CL.y (T := T) (H := ?trH) ?tra ?tre); (case tre => assumption); (case tra => walk_at "tr"))
  | ((with_reducible refine' Tape.ext (T := T) (H := ?trH) ?tra ?tre); (case tre => assumption); (case tra => walk_at "tr"))
  | ((with_reducible refine' lst.x (T := T) (H := ?trH) ?tra ?tre); (case tre => assumption); (case tra => walk_at "tr"))
  | ((with_reducible refine' lst.y (T := T) (H := ?trH) ?tra ?tre ?trn); (case tre => assumption); (case trn => walk_at "tr"); (case tra => walk_at "tr"))
  | ((with_reducible refine' tup.x (T := T) (H := ?trH) ?tra ?tre); (case tre => assumption); (case tra => walk_at "tr"))
  | ((with_reducible refine' tup.y (T := T) (H := ?trH) ?tra ?tre ?trt); (case tre => assumption); (case trt => walk_at "tr"); (case tra => walk_at "tr"))
  | ((with_reducible refine' frz.x (T := T) (H := ?trH) ?tra ?tre); (case tre => assumption); (case tra => walk_at "tr"))
  | ((with_reducible refine' frz.y (T := T) (H := ?trH) ?tra ?tre ?trt); (case tre => assumption); (case trt => walk_at "tr"); (case tra => walk_at "tr"))
  | ((with_reducible refine' Im.z (T := T) (H := ?trH) ?tra ?tre ?trt); (case tre => assumption); (case trt => assumption); (case tra => walk_at "tr"))
  | ((with_reducible refine' ImAll.z (T := T) (H := ?trH) ?tra ?tre ?trt); (case tre => assumption); (case trt => assumption); (case tra => walk_at "tr"))
  | ((with_reducible refine' StAt.z (T := T) (H := ?trH) ?tra ?tre ?trt); (case tre => assumption); (case trt => assumption); (case tra => walk_at "tr"))
  | ((with_reducible refine' SqP.z (T := T) (H := ?trH) ?tra ?tre ?trt); (case tre => assumption); (case trt => assumption); (case tra => walk_at "tr"))
  | ((with_reducible refine' tup.z (T := T) (H := ?trH) ?tra ?tre ?trt); (case tre => assumption); (case trt => assumption); (case tra => walk_at "tr"))
  | ((with_reducible refine' Ls.z (T := T) (H := ?trH) ?tra ?tre ?trt ?trn); (case tre => assumption); (case trt => assumption); (case trn => assumption); (case tra => walk_at "tr"))
  | ((with_reducible refine' lst.z (T := T) (H := ?trH) ?tra ?tre ?trn); (case tre => assumption); (case trn => assumption); (case tra => walk_at "tr"))
  | ((with_reducible refine' CL.z (T := T) (H := ?trH) ?tra ?tre ?trn); (case tre => assumption); (case trn => assumption); (case tra => walk_at "tr"))
  | ((with_reducible refine' Tape.ne1 (H := ?trH) ?trt ?trn); (case trn => assumption); (case trt => walk_at "tr"))
  | ((with_reducible refine' Ext.trans (H1 := ?trH) ?tra (Ext.any ?tre)); (case tre => assumption); (case tra => walk_at "tr"))
  | ((with_reducible refine' Ext.trans (H1 := ?trH) ?tra ?tre); (case tre => assumption); (case tra => walk_at "tr"))
  | ((with_reducible refine' Ext.back1 (T := T) (H1 := ?trH) ?tre ?trn ?tra); (case tra => assumption); (case trn => walk_at "tr"); (case tre => walk_at "tr"))
  | ((with_reducible refine' Ext.back0 (T := T) (H1 := ?trH) ?tre ?tra); (case tra => assumption); (case tre => walk_at "tr"))
  | ((with_reducible refine' SqT.of ?tra); (case tra => walk_at "tr"))
  | ((with_reducible refine' SqL.of ?tra); (case tra => walk_at "tr")))

theorem ok_read_case {C : Addr} (D : Def K mg "read_case" s_read_case ["text"]) (mb : ∀ x ∈ bltns, mg x = none) (M : Cst mg) (G_read_groups : OkX P w K mg base 11 "read_groups" ["text"] (spGroups T C)) : OkX P w K mg base 12 "read_case" ["text"] (spTxt T C caseB) := by
  refine D.okX sc_read_case (fun vs H Q E h => ?_) (fun cdv f A outer s H vs Q E hr h => ?_)
  · obtain ⟨z, rfl, _⟩ := h
    rfl
  · obtain ⟨z, rfl, hz, hR, q, qe⟩ := h
    refine ⟨_, (pss_cons (ps_set (i := 1) sc_read_case.nd rfl (.inl rfl) (pe_callX G_read_groups (hr.mono (by decide)) (by rfl) (takes_of rfl rfl rfl rfl) (pa_cons (pv 0) pa_nil)))
   (pss_cons (ps_set (i := 2) sc_read_case.nd rfl (.inl rfl) (pe_tup (pa_cons (pe_callTy (call_tupU K rfl) (by rfl) (mb _ (by decide)) (by decide +kernel) (pa_cons (pe_ix (ix_U K rfl) (pv 1) (pe_glI (by rfl) M.c_ZONES) (fun _ _ => rfl)) pa_nil)) (pa_cons (pe_callTy (call_tupU K rfl) (by rfl) (mb _ (by decide)) (by decide +kernel) (pa_cons (pe_ix (ix_U K rfl) (pv 1) (pe_glI (by rfl) M.c_ANCHORS) (fun _ _ => rfl)) pa_nil)) (pa_cons (pe_callTy (call_tupU K rfl) (by rfl) (mb _ (by decide)) (by decide +kernel) (pa_cons (pe_ix (ix_U K rfl) (pv 1) (pe_glI (by rfl) M.c_SETS) (fun _ _ => rfl)) pa_nil)) pa_nil)))))
   (pss_cons (ps_set (i := 3) sc_read_case.nd rfl (.inl rfl) (pe_tup (pa_cons (pe_callTy (call_tupU K rfl) (by rfl) (mb _ (by decide)) (by decide +kernel) (pa_cons (pe_ix (ix_U K rfl) (pv 1) (pe_glI (by rfl) M.c_ITEMS) (fun _ _ => rfl)) pa_nil)) (pa_cons (pe_callTy (call_tupU K rfl) (by rfl) (mb _ (by decide)) (by decide +kernel) (pa_cons (pe_ix (ix_U K rfl) (pv 1) (pe_glI (by rfl) M.c_SERVERS) (fun _ _ => rfl)) pa_nil)) pa_nil))))
   (pss_cons (ps_set (i := 4) sc_read_case.nd rfl (.inl rfl) (pe_callTy (call_tupU K rfl) (by rfl) (mb _ (by decide)) (by decide +kernel) (pa_cons (pe_lc (own := [("deed", 6), ("_", 7)]) (tt := tYes) rfl sc_read_case.nd (pi_seq K rfl (pe_ix (ix_U K rfl) (pv 1) (pe_glI (by rfl) M.c_DEEDS) (fun _ _ => rfl))) (blkOk_by (N := N_read_case) (sc := defScope s_read_case) (by decide +kernel)) (fun _ _ _ _ _ => (pg_tupU (n := 2) K rfl rfl (pgs_cons (pg_name (i := 6) sc_read_case.nd rfl (Or.inl rfl)) (pgs_cons (pg_name (i := 7) sc_read_case.nd rfl (Or.inl rfl)) pgs_nil)))) (fun _ _ _ _ _ => pts_nil) (fun _ _ _ _ _ => (pv 6))) pa_nil)))
   (pss_cons (ps_set (i := 5) sc_read_case.nd rfl (.inl rfl) (pe_callTy (call_tupU K rfl) (by rfl) (mb _ (by decide)) (by decide +kernel) (pa_cons (pe_lc (own := [("_", 7), ("pair", 8)]) (tt := tYes) rfl sc_read_case.nd (pi_seq K rfl (pe_ix (ix_U K rfl) (pv 1) (pe_glI (by rfl) M.c_DEEDS) (fun _ _ => rfl))) (blkOk_by (N := N_read_case) (sc := defScope s_read_case) (by decide +kernel)) (fun _ _ _ _ _ => (pg_tupU (n := 2) K rfl rfl (pgs_cons (pg_name (i := 7) sc_read_case.nd rfl (Or.inl rfl)) (pgs_cons (pg_name (i := 8) sc_read_case.nd rfl (Or.inl rfl)) pgs_nil)))) (fun _ _ _ _ _ => pts_nil) (fun _ _ _ _ _ => (pv 8))) pa_nil)))
   (pss_one (ps_ret (pe_tup (pa_cons (pv 2) (pa_cons (pv 3) (pa_cons (pv 4) (pa_cons (pv 5) (pa_cons (pe_callTy (call_tupU K rfl) (by rfl) (mb _ (by decide)) (by decide +kernel) (pa_cons (pe_ix (ix_U K rfl) (pv 1) (pe_glI (by rfl) M.c_PAIRS) (fun _ _ => rfl)) pa_nil)) (pa_cons (pe_ix (ix_U K rfl) (pe_ix (ix_U K rfl) (pv 1) (pe_glI (by rfl) M.c_END) (fun _ _ => rfl)) pe_int (fun _ _ => rfl)) pa_nil)))))))))))))), ?_⟩
    walk_at "rdn"
    refine rd_seq ?_
    walk_at "rdn"
    refine ⟨z, rfl, hz, hR, fun kb g as H1 x1 hg hal hG => ?_, qe⟩
    have q := q kb
    obtain ⟨a0, a1, a2, a3, a4, a5, a6, a7, rfl⟩ : ∃ a0 a1 a2 a3 a4 a5 a6 a7, as = [a0, a1, a2, a3, a4, a5, a6, a7] := by
      match as, hal with
      | [a0, a1, a2, a3, a4, a5, a6, a7], _ => exact ⟨_, _, _, _, _, _, _, _, rfl⟩
    have hg : H1 g = some (.lst [V.ref a0, .ref a1, .ref a2, .ref a3, .ref a4, .ref a5, .ref a6, .ref a7]) := hg
    obtain ⟨z0, h0, _⟩ := hG 0 a0 rfl
    obtain ⟨z1, h1, _⟩ := hG 1 a1 rfl
    obtain ⟨z2, h2, _⟩ := hG 2 a2 rfl
    obtain ⟨z3, h3, _⟩ := hG 3 a3 rfl
    obtain ⟨z4, h4, _⟩ := hG 4 a4 rfl
    obtain ⟨z5, h5, hl5, hp5, _⟩ := hG 5 a5 rfl
    obtain ⟨z6, h6, _⟩ := hG 6 a6 rfl
    obtain ⟨z7, h7, _, _, hn7⟩ := hG 7 a7 rfl
    have hp5 := hp5 rfl
    obtain ⟨e7, r7, rfl⟩ : ∃ e r, z7 = e :: r := by
      cases z7 with
      | nil => exact absurd rfl (hn7 rfl rfl)
      | cons e r => exact ⟨e, r, rfl⟩
    clear hG
    have y : Ext T [] H1 H1 := .refl
    walk_at "rdn"
    refine rd_seq ?_
    walk_at "rd"
    refine rd_tupL (SqL.of h0) fun p0 np0 => ?_
    obtain ⟨np0, y0, _⟩ := alT (T := T) np0 z0
    have y := y.trans y0
    generalize upd H1 p0 _ = K0 at y y0 ⊢
    walk_at "rd"
    refine rd_ixL (i := 1) (SqL.of (lst.x hg y)) (v := .ref a1) rfl ?_
    walk_at "rd"
    refine rd_tupL (SqL.of (lst.x h1 y)) fun p1 np1 => ?_
    obtain ⟨np1, y1, _⟩ := alT (T := T) np1 z1
    have y := y.trans y1
    generalize upd K0 p1 _ = K1 at y y1 ⊢
    walk_at "rd"
    refine rd_ixL (i := 2) (SqL.of (lst.x hg y)) (v := .ref a2) rfl ?_
    walk_at "rd"
    refine rd_tupL (SqL.of (lst.x h2 y)) fun p2 np2 => ?_
    obtain ⟨np2, y2, _⟩ := alT (T := T) np2 z2
    have y := y.trans y2
    generalize upd K1 p2 _ = K2 at y y2 ⊢
    walk_at "rd"
    refine ⟨by walk_at "sz", fun pr npr => ?_⟩
    obtain ⟨npr, y3, _⟩ := alT (T := T) npr [V.ref p0, .ref p1, .ref p2]
    have y := y.trans y3
    generalize upd K2 pr _ = K3 at y y3 ⊢
    clear y0 y1 y2 y3
    walk_at "rdn"
    refine rd_seq ?_
    walk_at "rd"
    refine rd_ixL (i := 3) (SqL.of (lst.x hg y)) (v := .ref a3) rfl ?_
    walk_at "rd"
    refine rd_tupL (SqL.of (lst.x h3 y)) fun p3 np3 => ?_
    obtain ⟨np3, y4, _⟩ := alT (T := T) np3 z3
    have y := y.trans y4
    generalize upd K3 p3 _ = K4 at y y4 ⊢
    walk_at "rd"
    refine rd_ixL (i := 4) (SqL.of (lst.x hg y)) (v := .ref a4) rfl ?_
    walk_at "rd"
    refine rd_tupL (SqL.of (lst.x h4 y)) fun p4 np4 => ?_
    obtain ⟨np4, y5, _⟩ := alT (T := T) np4 z4
    have y := y.trans y5
    generalize upd K4 p4 _ = K5 at y y5 ⊢
    walk_at "rd"
    refine ⟨by walk_at "sz", fun ps nps => ?_⟩
    obtain ⟨nps, y6, _⟩ := alT (T := T) nps [V.ref p3, .ref p4]
    have y := y.trans y6
    generalize upd K5 ps _ = K6 at y y6 ⊢
    clear y4 y5 y6
    have hg6 := lst.x hg y
    have h56 := lst.x h5 y
    walk_at "rdn"
    refine rd_seq ?_
    walk_at "rd"
    refine lcg_gen T (walk_list (xs := z5)) (fun H' e => SqL.of (lst.x h56 e)) (Nat.lt_of_le_of_lt (show z5.length ≤ 40 from hl5) (by decide)) (fun i D H y => True) (fun i D H1 H2 y xs x hD h => h) (fun i x D H3' H4 hi x3 nD hD hx F go => ?_) (fun D zs K7 nD y7 hD hzl hzs => ?_)
    · obtain ⟨rfl, hx⟩ := hx
      obtain ⟨pq, u1, u2, rfl, hpq⟩ := (hp5 x (List.mem_of_getElem? hx)).ext (y.trans x3) .nil
      refine rd_gtup (SqT.of hpq) rfl (rd_gcons (rd_name (rd_gcons (rd_name (rd_gnil ?_)))))
      refine ⟨rfl, ?_⟩
      walk_at "rd"
      exact go _ _ trivial .refl
    walk_at "rd"
    refine rd_tupL (SqL.of hD) fun pd npd => ?_
    obtain ⟨npd, y8, _⟩ := alT (T := T) npd zs
    have y := y.trans (y7.trans y8)
    generalize upd K7 pd _ = K8 at y y8 ⊢
    clear y7 y8 hg6 h56 hD hzs nD
    have hg8 := lst.x hg y
    have h58 := lst.x h5 y
    walk_at "rdn"
    refine rd_seq ?_
    walk_at "rd"
    refine lcg_gen T (walk_list (xs := z5)) (fun H' e => SqL.of (lst.x h58 e)) (Nat.lt_of_le_of_lt (show z5.length ≤ 40 from hl5) (by decide)) (fun i D H y => True) (fun i D H1 H2 y xs x hD h => h) (fun i x D H3' H4 hi x3 nD hD hx F go => ?_) (fun D zb K9 nD y9 hD hzl2 hzs => ?_)
    · obtain ⟨rfl, hx⟩ := hx
      obtain ⟨pq, u1, u2, rfl, hpq⟩ := (hp5 x (List.mem_of_getElem? hx)).ext (y.trans x3) .nil
      refine rd_gtup (SqT.of hpq) rfl (rd_gcons (rd_name (rd_gcons (rd_name (rd_gnil ?_)))))
      refine ⟨rfl, ?_⟩
      walk_at "rd"
      exact go _ _ trivial .refl
    walk_at "rd"
    refine rd_tupL (SqL.of hD) fun pb npb => ?_
    obtain ⟨npb, ya, _⟩ := alT (T := T) npb zb
    have y := y.trans (y9.trans ya)
    generalize upd K9 pb _ = Ka at y ya ⊢
    clear y9 ya hg8 h58 hD hzs nD
    walk_at "rd"
    refine rd_ixL (i := 6) (SqL.of (lst.x hg y)) (v := .ref a6) rfl ?_
    walk_at "rd"
    refine rd_tupL (SqL.of (lst.x h6 y)) fun p6 np6 => ?_
    obtain ⟨np6, yb, _⟩ := alT (T := T) np6 z6
    have y := y.trans yb
    generalize upd Ka p6 _ = Kb at y yb ⊢
    walk_at "rd"
    refine rd_ixL (i := 7) (SqL.of (lst.x hg y)) (v := .ref a7) rfl ?_
    walk_at "rd"
    refine rd_ixL (i := 0) (SqL.of (lst.x h7 y)) (v := e7) (show atI (e7 :: r7) ((0 : Nat) : Int) = some e7 from atI_nat rfl) ?_
    walk_at "rd"
    refine ⟨by walk_at "sz", fun pf npf => ?_⟩
    obtain ⟨npf, yc, _⟩ := alT (T := T) npf [V.ref pr, .ref ps, .ref pd, .ref pb, .ref p6, e7]
    exact q _ _ (x1.trans (y.trans yc))
end

/-! s.replace(y, z, 1) of written texts, where a token is out; calls without arguments; calls of defs that a relation holds -/
section
open PySem Builtin Builtin.Str
/-- the first y of x is z -/
def repl1 (x y z : Str) : Str := if ((occurrences x y 0 x.length 1).isEmpty || (y.length == 0 && z.length == 0)) = true then x else glued z (partsBetween x (occurrences x y 0 x.length 1) y.length)
theorem gives_repl1 (x y z : Str) (t u v c : Tok)
    (hf : (u == 0 || v == 0) = false ∧ (u == v) = false ∧ (y == z) = false ∧ tooLong (x.length + (occurrences x y 0 x.length 1).length * z.length) = false) :
    Gives («str.replace» ⟨[.str x t, .str y u, .str z v, .int 1 c], []⟩) (if ((occurrences x y 0 x.length 1).isEmpty || (y.length == 0 && z.length == 0)) = true then .val (.str x t) else .str (glued z (partsBetween x (occurrences x y 0 x.length 1) y.length))) := by
  show Gives (if ((occurrences x y 0 x.length 1).isEmpty || (y.length == 0 && z.length == 0)) = true then (do rule "str.replace.nothing"; ret (.str x t)) else
          (do let same ← isSame (.str y u) (.str z v)
              if same = true then (do rule "str.replace.old-is-new"; ret (.str x t)) else
              if tooLong (x.length + (occurrences x y 0 x.length 1).length * z.length) = true then unsupported "str.replace:memory" else
              retStr (glued z (partsBetween x (occurrences x y 0 x.length 1) y.length)))) _
  obtain ⟨h0, huv, hyz, hl⟩ := hf
  cases hc : ((occurrences x y 0 x.length 1).isEmpty || (y.length == 0 && z.length == 0))
  · rw [isSame_str_other y z u v h0 huv hyz, hl]
    exact .of_eq rfl
  · exact .rule (.of_eq rfl)
end
section
open PySem PySem.Spec PyProof.Rows L2 CwR
section
variable {prog : Program} {w : World} {A : Around} {E : Value → Shared → Prop} {s : Shared} {x y z : Str} {t u v c : Tok} {Q : Value → Shared → Prop}
theorem call_repl1 (hu : u ≠ 0) (hv : v ≠ 0) (huv : u ≠ v) (hyz : (y == z) = false) (hl : Builtin.Str.tooLong (x.length + (Builtin.Str.occurrences x y 0 x.length 1).length * z.length) = false) (hb : (repl1 x y z).length ≤ sizeLine)
    (hq : ∀ t' k, Q (.str (repl1 x y z) t') { s with toks := k }) : wpAny (model prog w) A (call (.builtin "str.replace") [.str x t, .str y u, .str z v, .int 1 c]) Q E s := by
  refine call_gives F.slot_str_replace (typeIs_str _ _ _) F.entry_str_replace (F.args_str_replace_4 _ _ _ _) (gives_repl1 x y z t u v c ⟨by simp [hu, hv], by simp [huv], hyz, hl⟩) ?_
  have hq' := hq
  have hb' := hb
  unfold repl1 at hq' hb'
  cases hc : ((Builtin.Str.occurrences x y 0 x.length 1).isEmpty || (y.length == 0 && z.length == 0))
  · rw [hc] at hq' hb'
    simp only [Bool.false_eq_true, if_false] at hq' hb' ⊢
    exact ⟨hb', hq' _ _⟩
  · rw [hc] at hq' hb'
    simp only [if_true] at hq' ⊢
    exact hq' t s.toks
end
def tRepl1 (to : TE) (y z : Str) : TE := fun σ H Q => to σ H fun v H1 => ∃ x, v = .str x ∧ Builtin.Str.tooLong (x.length + (Builtin.Str.occurrences x y 0 x.length 1).length * z.length) = false ∧ (repl1 x y z).length ≤ sizeLine ∧ Q (.str (repl1 x y z)) H1
section
variable {X : Cx} {o e : Expr} {te to : TE} {y z : Str} {j k m : Nat} {c0 c1 c2 apos pos p p' : Pos}
theorem pet_repl1 (ho : PE X o to) (hyz : (y == z) = false := by decide)
    (hst : starEach [.Constant (.str y) j c0, .Constant (.str z) k c1, .Constant (.int 1) m c2] X.env = [(false, eval (.Constant (.str y) j c0) X.env), (false, eval (.Constant (.str z) k c1) X.env), (false, eval (.Constant (.int 1) m c2) X.env)] := by rfl)
    (hbase : attributeBase o "replace" X.env (eval o X.env) = eval o X.env := by rfl) (hline : (apos.endLine == pos.line) = true := by rfl) :
    PET X (.Call (.Attribute o "replace" apos) [.Constant (.str y) j c0, .Constant (.str z) k c1, .Constant (.int 1) m c2] [] pos) (tRepl1 to y z) := by
  intro pins s σ H Q h0 I h
  refine wpAny_Call_method_lateS hbase (by rw [hst]; rfl) hline ?_
  rw [hst]
  refine (wpAny_mono (PySem.wpAny_toks (ho.run pins s σ H _ I h)) (fun v s1 q => ?_) fun _ _ z => z.2)
  obtain ⟨hk, v', H1, I1, r1, x, e1, hl, hb, q⟩ := q
  subst e1
  obtain ⟨tx, e2⟩ := r1
  subst e2
  refine ⟨"str", _, PySem.F.plainAttrs_str, PySem.F.slot_str_replace, PySem.F.type_str_replace, typeIs_str _ _ _, (fun _ e => nomatch e), Calls.callWith_builtin rfl (Calls.evalArgs_plain (Calls.spliced_cons ?_))⟩
  show wpAny _ _ (eval (.Constant (.str y) j c0) X.env) _ _ _
  refine Calls.Constant_str ?_
  refine Calls.spliced_cons ?_
  show wpAny _ _ (eval (.Constant (.str z) k c1) X.env) _ _ _
  refine Calls.Constant_str ?_
  refine Calls.spliced_cons ?_
  show wpAny _ _ (eval (.Constant (.int 1) m c2) X.env) _ _ _
  refine thn ((pe_int (X := X) (i := 1) (j := m) (pos := c2)).run pins { s1 with toks := s1.toks + 1 + 1 } σ H1 (fun v H2 => v = .int 1 ∧ H2 = H1) (I1.tok _) ⟨rfl, rfl⟩) fun u s2 hu => ?_
  obtain ⟨_, _, I2, r2, rfl, rfl⟩ := hu
  obtain ⟨t2, rfl⟩ := r2
  refine Calls.spliced_nil ?_
  exact call_repl1 (by show s1.toks ≠ 0; omega) (by show s1.toks + 1 ≠ 0; omega) (by show s1.toks ≠ s1.toks + 1; omega) hyz hl hb fun t' k => ⟨.str (repl1 x y z), _, I2.tok k, ⟨t', rfl⟩, q⟩
/-- name = o.split(written text): a token is out behind it -/
theorem pss_setT {i : Nat} {x : Str} {rest : List Stmt} {u : TS} {spos ppos : Pos} (hN : X.N.Nodup) (hi : X.N[i]? = some x) (hx : Loc X.env.scope x) (ho : PE X o to) (h : PSsT X rest u)
    (hs : starEach [.Constant (.str y) j c0] X.env = [(false, eval (.Constant (.str y) j c0) X.env)] := by rfl) (hbase : attributeBase o "split" X.env (eval o X.env) = eval o X.env := by rfl) (hline : (apos.endLine == pos.line) = true := by rfl)
    (hsw : swapsWith (.Call (.Attribute o "split" apos) [.Constant (.str y) j c0] [] pos) (some (.Name x ppos)) spos.line X.env = pure false := by rfl) (hf : X.fn x = true ∨ X.env.scope.names.lookup x = some .local := by first | exact .inl rfl | exact .inr rfl | assumption) :
    PSs X (.Assign [.Name x ppos] (.Call (.Attribute o "split" apos) [.Constant (.str y) j c0] [] pos) spos :: rest) (tSeq (tAsg (tM1 rSplit to (tC (.str y))) (gName i)) u) := by
  refine ⟨fun pins s σ H D I hq => ?_⟩
  refine wpAny_execs_cons (thn (Q := fun fl s' => SP X pins { D with nx := u D } fl s' ∧ 1 ≤ s'.toks) (wpAny_Assign_Name ?_ hsw) fun fl s1 q => ?_)
  · refine PySem.Call_method1 hbase hs hline (thn (ho.run pins s σ H _ I hq) fun v s1 ⟨x1, H1, I1, r1, q1⟩ => ?_)
    obtain ⟨⟨a, rfl⟩, q1⟩ := q1
    obtain ⟨t, rfl⟩ := _root_.id r1
    refine ⟨"str", _, F.plainAttrs_str, F.slot_str_split, F.type_str_split, typeIs_str _ _ _, (fun _ e => nomatch e), Calls.callWith_builtin rfl (Calls.evalArgs_plain (Calls.spliced_cons ?_))⟩
    refine Calls.Constant_str (Calls.spliced_nil ?_)
    have I2 : Inv X pins σ H1 { s1 with toks := s1.toks + 1 } := I1.tok _
    refine wpAny_mono (PySem.wpAny_toks (mt_splitU (X := X) pins { s1 with toks := s1.toks + 1 } σ H1 _ [.str y] _ [.str y s1.toks] _ I2 r1 (.cons ⟨_, rfl⟩ .nil) q1)) (fun v2 s2 q2 => ?_) fun _ _ z => z.2
    obtain ⟨hk, y2, H2, I3, r3, q3⟩ := q2
    refine wpAny_mono (PySem.wpAny_toks (store_ok (Q := fun _ s3 => SP X pins { D with nx := u D } .next s3) I3 hN hi hx r3 (fun s3 I4 => ⟨_, H2, I4, q3⟩) hf)) (fun _ s3 q4 => ⟨q4.2, ?_⟩) fun _ _ z => z.2
    have h1 : s1.toks + 1 ≤ s2.toks := hk
    have h2 := q4.1
    omega
  · obtain ⟨q, hk⟩ := q
    cases fl with
    | next =>
      obtain ⟨σ', H', I', q⟩ := q
      exact h pins s1 σ' H' D hk I' q
    | ret v => exact q
    | brk => exact q
    | cont => exact q
end
section
variable {X : Cx} {k i : Nat} {sp : Sp} {x : Str} {p pos : Pos} {e : Expr} {es : List Expr} {t : TA} {W : WX}
/-- the i-th slot holds a def of which R tells the promise -/
def tCallR (i : Nat) (R : Addr → Sp → Prop) (W : WX) (t : TA) : TE := fun σ H Q => ∃ f sp, σ[i]? = some (some (.ref f)) ∧ R f sp ∧ t σ H fun vs H1 => sp vs H1 Q (WE W σ)
theorem rd_callR {R : Addr → Sp → Prop} {σ : L2.St} {H : Hp} {Q : VK} {f : Addr} (h1 : σ[i]? = some (some (.ref f))) (h2 : R f sp) (q : t σ H fun vs H1 => sp vs H1 Q (WE W σ)) : tCallR i R W t σ H Q := ⟨f, sp, h1, h2, q⟩
theorem pe_callR {CX : CXT} {R : Addr → Sp → Prop} (A : ∀ f sp, R f sp → HeldE CX X.prog X.w X.K X.mg X.base k f sp) (hr : Room k X.A) (hN : X.N[i]? = some x) (hv : Vis X.env.scope x) (hx : ∀ σ, PassesAt CX X σ (WE W σ)) (ha : PA X (e :: es) t)
    (hdb : (x == ("__debug__" : Str)) = false := by decide) (hcd : (x == ("__classdict__" : Str)) = false := by decide)
    (he : starEach (e :: es) X.env = (false, eval e X.env) :: starEach es X.env := by rfl) (hpl : (backTo pos (starEach es X.env)).any (·.1) = false := by rfl) : PE X (.Call (.Name x p) (e :: es) [] pos) (tCallR i R W t) := by
  refine ⟨fun pins s σ H Q I h => ?_⟩
  obtain ⟨f, sp, h1, h2, h3⟩ := h
  have g := (pe_callE (S := fun g => if g = f then some sp else none) (W := W) (i := i) (t := t) (p := p) (pos := pos) (fun g sp' hg => by
    split at hg
    · rename_i e0
      subst e0
      cases Option.some.inj hg
      exact A _ _ h2
    · cases hg) hr hN hv hx ha hdb hcd he hpl).run pins s σ H Q I
  exact g ⟨f, sp, h1, if_pos rfl, h3⟩
/-- a def without parameters -/
theorem pe_call0O (h : Ok X.prog X.w X.K X.mg X.base k x [] sp) (hr : Room k X.A) (hg : Gl X x) (hdb : (x == ("__debug__" : Str)) = false := by decide) : PE X (.Call (.Name x p) [] [] pos) (fun σ H Q => sp [] H Q (fun _ _ _ => False)) := by
  obtain ⟨f, fd, F, hm, hk, hb⟩ := h
  exact pe_call0 F hr hg hm hk hb .nil (fun _ _ _ _ _ _ _ z => z.elim) hdb
end
end

open PySem PySem.Spec PyProof.Rows L2
open PySem.W (EachIs)
section
variable {T : List (Addr × Str)} {P : Program} {w : World} {K : PySem.W.Frag} {mg : Str → Option Value} {base : Heap} {NF : Addr}
local macro_rules | `(tactic| walk_at "tr") => `(tactic| first
  | assumption
  | exact Ext.refl
  | ((with_reducible refine' Im.x (T := T) (H := ?trH) ?tra ?tre); (case tre => assumption); (case tra => walk_at "tr"))
  | ((with_reducible refine' Im.y (T := T) (H := ?trH) ?tra ?tre ?trt); (case tre => assumption); (case trt => walk_at "tr"); (case tra => walk_at "tr"))
  | ((with_reducible refine' ImAll.x (T := T) (H := ?trH) ?tra ?tre); (case tre => assumption); (case tra => walk_at "tr"))
  | ((with_reducible refine' ImAll.y (T := T) (H := ?trH) ?tra ?tre ?trt); (case tre => assumption); (case trt => walk_at "tr"); (case tra => walk_at "tr"))
  | ((with_reducible refine' Ls.x (T := T) (H := ?trH) ?tra ?tre); (case tre => assumption); (case tra => walk_at "tr"))
  | ((with_reducible refine' Ls.y (T := T) (H := ?trH) ?tra ?tre ?trn ?trt); (case tre => assumption); (case trt => walk_at "tr"); (case trn => walk_at "tr"); (case tra => walk_at "tr"))
  | ((with_reducible refine' SqP.x (T := T) (H := ?trH) ?tra ?tre); (case tre => assumption); (case tra => walk_at "tr"))
  | ((with_reducible refine' SqP.y (T := T) (H := ?trH) ?tra ?tre ?trt); (case tre => assumption); (case trt => walk_at "tr"); (case tra => walk_at "tr"))
  | ((with_reducible refine' StAt.x (T := T) (H := ?trH) ?tra ?tre); (case tre => assumption); (case tra => walk_at "tr"))
  | ((with_reducible refine' StAt.y (T := T) (H := ?trH) ?tra ?tre ?trt); (case tre => assumption); (case trt => walk_at "tr"); (case tra => walk_at "tr"))
  | ((with_reducible refine' Pools.ext0 (T := T) (H := ?trH) ?tra ?tre); (case tre => assumption); (case tra => walk_at "tr"))
  | ((with_reducible refine' Pools.ext (T := T) (H := ?trH) ?tra ?tre ?trt); (case tre => assumption); (case trt => walk_at "tr"); (case tra => walk_at "tr"))
  | ((with_reducible refine' CL.x (T := T) (H := ?trH) ?tra ?tre); (case tre => assumption); (case tra => walk_at "tr"))
  | ((with_reducible refine' CL.y (T := T) (H := ?trH) ?tra ?tre); (case tre => assumption); (case tra => walk_at "tr"))
  | ((with_reducible refine' Tape.ext (T := T) (H := ?trH) ?tra ?tre); (case tre => assumption); (case tra => walk_at "tr"))
  | ((with_reducible refine' lst.x (T := T) (H := ?trH) ?tra ?tre); (case tre => assumption); (case tra => walk_at "tr"))
  | ((with_reducible refine' lst.y (T := T) (H := ?trH) ?tra ?tre ?trn); (case tre => assumption); (case trn => walk_at "tr"); (case tra => walk_at "tr"))
  | ((with_reducible refine' tup.x (T := T) (H := ?trH) ?tra ?tre); (case tre => assumption); (case tra => walk_at "tr"))
  | ((with_reducible refine' tup.y (T := T) (H := ?trH) ?tra ?tre ?trt); (case tre => assumption); (case trt => walk_at "tr"); (case tra => walk_at "tr"))
  | ((with_reducible refine' frz.x (T := T) (H := ?trH) ?tra ?tre); (case tre => assumption); (case tra => walk_at "tr"))
  | ((with_reducible refine' frz.y (T := T) (H := ?trH) ?tra ?tre ?trt); (case tre => assumption); (case trt => walk_at "tr"); (case tra => walk_at "tr"))
  | ((with_reducible refine' Im.z (T := T) (H := ?trH) ?tra ?tre ?trt); (case tre => assumption); (case trt => assumption); (case tra => walk_at "tr"))
  | ((with_reducible refine' ImAll.z (T := T) (H := ?trH) ?tra ?tre ?trt); (case tre => assumption); (case trt => assumption); (case tra => walk_at "tr"))
  | ((with_reducible refine' StAt.z (T := T) (H := ?trH) ?tra ?tre ?trt); (case tre => assumption); (case trt => assumption); (case tra => walk_at "tr"))
  | ((with_reducible refine' SqP.z (T := T) (H := ?trH) ?tra ?tre ?trt); (case tre => assumption); (case trt => assumption); (case tra => walk_at "tr"))
  | ((with_reducible refine' tup.z (T := T) (H := ?trH) ?tra ?tre ?trt); (case tre => assumption); (case trt => assumption); (case tra => walk_at "tr"))
  | ((with_reducible refine' Ls.z (T := T) (H := ?trH) ?tra ?tre ?trt ?trn); (case tre => assumption); (case trt => assumption); (case trn => assumption); (case tra => walk_at "tr"))
  | ((with_reducible refine' lst.z (T := T) (H := ?trH) ?tra ?tre ?trn); (case tre => assumption); (case trn => assumption); (case tra => walk_at "tr"))
  | ((with_reducible refine' CL.z (T := T) (H := ?trH) ?tra ?tre ?trn); (case tre => assumption); (case trn => assumption); (case tra => walk_at "tr"))
  | ((with_reducible refine' Tape.ne1 (H := ?trH) ?trt ?trn); (case trn => assumption); (case trt => walk_at "tr"))
  | ((with_reducible refine' Ext.trans (H1 := ?trH) ?tra (Ext.any ?tre)); (case tre => assumption); (case tra => walk_at "tr"))
  | ((with_reducible refine' Ext.trans (H1 := ?trH) ?tra ?tre); (case tre => assumption); (case tra => walk_at "tr"))
  | ((with_reducible refine' Ext.back1 (T := T) (H1 := ?trH) ?tre ?trn ?tra); (case tra => assumption); (case trn => walk_at "tr"); (case tre => walk_at "tr"))
  | ((with_reducible refine' Ext.back0 (T := T) (H1 := ?trH) ?tre ?tra); (case tra => assumption); (case tre => walk_at "tr"))
  | ((with_reducible refine' SqT.of ?tra); (case tra => walk_at "tr"))
  | ((with_reducible refine' SqL.of ?tra); (case tra => walk_at "tr")))

/-- what is to be seen of the class of the errors -/
structure ErrIs3 (K : PySem.W.Frag) (mg : Str → Option Value) (C CN CA : Addr) : Prop where
  gN : mg "NeverdarkError" = some (.ref CN)
  gA : mg "NotAllowed" = some (.ref CA)
  kN : PySem.W.kitOne K (.ref C) (.ref CN) = some true
  kA : PySem.W.kitOne K (.ref C) (.ref CA) = some false
def spTold (T : List (Addr × Str)) (R : Addr → (Str → Option Nat) → Prop) : Sp := fun vs H Q _ => ∃ (f : Addr) (z : Str) (B : Str → Option Nat), vs = [.ref f, .str z] ∧ R f B ∧ z.length ≤ 50000 ∧ RowsW (rowsF z) ∧ ∀ H', Ext T [] H H' → Q (.int (((B z).getD 0 : Nat) : Int)) H'
theorem ok_law_told {C fI CN CA : Addr} {R : Addr → (Str → Option Nat) → Prop} (D : Def K mg "_law_told" s_law_told ["read", "text"]) (mb : ∀ x ∈ bltns, mg x = none) (T_BadText : ExcT P K mg "BadText" "line" C fI) (EI : ErrIs3 K mg C CN CA) (A_read : ∀ f sp, (∃ B, R f B ∧ sp = spTxt T C B) → HeldE (L2.CX P w) P w K mg base 12 f sp) : Ok P w K mg base 13 "_law_told" ["read", "text"] (spTold T R) := by
  have gC_NeverdarkError := EI.gN
  have gC_NotAllowed := EI.gA
  refine D.ok sc_law_told (fun vs H Q E h => ?_) (fun cdv f A outer s H vs Q E hr h => ?_)
  · obtain ⟨f, z, B, rfl, _⟩ := h
    rfl
  · obtain ⟨f, z, B, rfl, hR, hz, hW, q⟩ := h
    refine ⟨_, (pss_cons (ps_try_as (i := 2) rfl rfl sc_law_told.nd rfl rfl ⟨rfl, by decide, .inl T_BadText.gC⟩ takes0 (fun W pn xe tk _ => (pss_one (ps_expr (pe_callR A_read (hr.mono (by decide)) (i := 0) rfl (by first | exact .inl rfl | exact .inr (.inl rfl)) (fun σ => passAt tk σ) (pa_cons (pv 1) pa_nil))))) (fun a oe cls d pn hz hf => (pss_one (ps_ret (pe_ifExp (PW.pt (pw_and (pt_E (pe_callB (call_isX T_BadText hz hf) (by rfl) (mb _ (by decide)) (by decide +kernel) (pa_cons (pv 2) (pa_cons (pe_cls (by rfl) gC_NeverdarkError) pa_nil)))) (pw_and1 (pt_not (pt_E (pe_callB (call_isX T_BadText hz hf) (by rfl) (mb _ (by decide)) (by decide +kernel) (pa_cons (pv 2) (pa_cons (pe_cls (by rfl) gC_NotAllowed) pa_nil)))))))) (pe_xf T_BadText.xf T_BadText.noN hz hf (pv 2)) (pe_un un_neg pe_int))))))
   (pss_one (ps_ret pe_int))), ?_⟩
    refine rd_seq ?_
    walk_at "rd"
    refine rd_callR (f := f) rfl ⟨B, hR, rfl⟩ ?_
    walk_at "rd"
    refine ⟨z, rfl, hz, hW, fun hb v H1 x1 => ?_, fun k hb d H1 x1 nd => ?_⟩
    · walk_at "rd"
      have q := q H1 x1
      rw [hb] at q
      exact q
    · refine ⟨true, T_BadText.te, fun _ a na => ?_, fun h => nomatch h⟩
      have e2 : Ext T [] H1 (upd H1 d (.xd [(lineS, .int (k : Int))])) := .new nd
      have hd : (upd H1 d (.xd [(lineS, .int (k : Int))])) d = some (.xd [(lineS, .int (k : Int))]) := upd_same
      generalize upd H1 d (.xd [(lineS, .int (k : Int))]) = H2 at e2 hd ⊢
      walk_at "rd"
      refine ⟨.ref CN, .ref CN, true, d, _, rfl, rfl, rfl, hd, (fun u r => r), EI.kN, ?_⟩
      walk_at "rd"
      refine ⟨.ref CA, .ref CA, false, d, _, rfl, rfl, rfl, hd, (fun u r => r), EI.kA, ?_⟩
      walk_at "rd"
      refine rd_xf ?_
      walk_at "rd"
      refine ⟨rfl, rfl, d, _, .int (k : Int), rfl, hd, rfl, ?_⟩
      walk_at "rd"
      have q := q H2 (x1.trans e2)
      rw [hb] at q
      exact q
/-- the three kinds of texts of lines -/
inductive Kd where
  | tb | pl | hi
def kdS : Kd → Str
  | .tb => Str.ofString "table"
  | .pl => Str.ofString "plan"
  | .hi => Str.ofString "history"
def kdF : Kd → List Str → Bool
  | .tb => waitF
  | .pl => stepF
  | .hi => eventF
def itS : Str := Str.ofString "a,b2 life 5 by - from 0 to 90"
def itC : Str := Str.ofString "a,b2 life 5 by k from 0 to 90"
def kdL : Kd → List Str
  | .tb => [Str.ofString "wait 2 1 30", Str.ofString "wait 0 0 0", Str.ofString "wait 99999 1 2"]
  | .pl => [Str.ofString "at 5 put keys . = " ++ itS, Str.ofString "at 7 on s1 land", Str.ofString "at 0 off s1 shop.land", Str.ofString "at 3 put hosts land = - life 1"]
  | .hi => [Str.ofString "go 5", Str.ofString "fill set www.land a 3 0 99999", Str.ofString "ask . a", Str.ofString "drop hosts x", Str.ofString "plant link x = " ++ itS, Str.ofString "lose . k1", Str.ofString "fill keys ."]
def spRight (T : List (Addr × Str)) : Sp := fun vs H Q _ => ∃ k : Kd, vs = [.str (kdS k)] ∧ ∀ p H', Ext T [] H H' → Nw H p → H' p = some (.lst ((kdL k).map V.str)) → Q (.ref p) H'
theorem ok_law_right (D : Def K mg "_law_right" s_law_right ["kind"]) (mb : ∀ x ∈ bltns, mg x = none) : Ok P w K mg base 1 "_law_right" ["kind"] (spRight T) := by
  refine D.ok sc_law_right (fun vs H Q E h => ?_) (fun cdv f A outer s H vs Q E hr h => ?_)
  · obtain ⟨k, rfl, _⟩ := h
    rfl
  · obtain ⟨k, rfl, q⟩ := h
    refine ⟨_, (pss_cons (ps_set (i := 1) sc_law_right.nd rfl (.inl rfl) pe_str)
   (pss_cons (ps_if (pt_cmpR (op_eqU K rfl hr.units) (pv 0) pe_str (nomark _)) (pss_one (ps_ret (pe_lst (pa_cons pe_str (pa_cons pe_str (pa_cons pe_str pa_nil)))))) pss_nil)
   (pss_cons (ps_if (pt_cmpR (op_eqU K rfl hr.units) (pv 0) pe_str (nomark _)) (pss_one (ps_ret (pe_lst (pa_cons (pe_op (op_plus K rfl) pe_str (pv 1)) (pa_cons pe_str (pa_cons pe_str (pa_cons pe_str pa_nil))))))) pss_nil)
   (pss_cons (ps_if (pt_cmpR (op_eqU K rfl hr.units) (pv 0) pe_str (nomark _)) (pss_one (ps_ret (pe_lst (pa_cons pe_str (pa_cons pe_str (pa_cons pe_str (pa_cons pe_str (pa_cons (pe_op (op_plus K rfl) pe_str (pv 1)) (pa_cons pe_str (pa_cons pe_str pa_nil)))))))))) pss_nil)
   (pss_one (ps_ret (pe_lst pa_nil))))))), ?_⟩
    cases k with
    | tb =>
      walk_at "rd"
      rw [show decide (kdS .tb = Str.ofString "table") = true from decide_eq_true rfl]
      walk_at "rd"
      refine ⟨by walk_at "sz", fun p np => ?_⟩
      obtain ⟨np, x1, hp⟩ := alL (T := T) np [V.str (Str.ofString "wait 2 1 30"), .str (Str.ofString "wait 0 0 0"), .str (Str.ofString "wait 99999 1 2")]
      exact q p _ x1 np hp
    | pl =>
      walk_at "rd"
      rw [show decide (kdS .pl = Str.ofString "table") = false from decide_eq_false (by decide +kernel)]
      walk_at "rd"
      rw [show decide (kdS .pl = Str.ofString "plan") = true from decide_eq_true rfl]
      walk_at "rd"
      refine rd_plusS (by decide +kernel) ?_
      walk_at "rd"
      refine ⟨by walk_at "sz", fun p np => ?_⟩
      obtain ⟨np, x1, hp⟩ := alL (T := T) np [V.str (Str.ofString "at 5 put keys . = " ++ itS), .str (Str.ofString "at 7 on s1 land"), .str (Str.ofString "at 0 off s1 shop.land"), .str (Str.ofString "at 3 put hosts land = - life 1")]
      exact q p _ x1 np hp
    | hi =>
      walk_at "rd"
      rw [show decide (kdS .hi = Str.ofString "table") = false from decide_eq_false (by decide +kernel)]
      walk_at "rd"
      rw [show decide (kdS .hi = Str.ofString "plan") = false from decide_eq_false (by decide +kernel)]
      walk_at "rd"
      rw [show decide (kdS .hi = Str.ofString "history") = true from decide_eq_true rfl]
      walk_at "rd"
      refine rd_plusS (by decide +kernel) ?_
      walk_at "rd"
      refine ⟨by walk_at "sz", fun p np => ?_⟩
      obtain ⟨np, x1, hp⟩ := alL (T := T) np [V.str (Str.ofString "go 5"), .str (Str.ofString "fill set www.land a 3 0 99999"), .str (Str.ofString "ask . a"), .str (Str.ofString "drop hosts x"), .str (Str.ofString "plant link x = " ++ itS), .str (Str.ofString "lose . k1"), .str (Str.ofString "fill keys .")]
      exact q p _ x1 np hp
/-- the lines of a case, group by group -/
def grL : List (List Str) := [[Str.ofString "zone . lag 5", Str.ofString "zone a.b lag 0"], [Str.ofString "anchor k1"], [Str.ofString "set . a", Str.ofString "set a.b k9"], [Str.ofString "keys . = " ++ itC, Str.ofString "set a.b k9 = " ++ itC, Str.ofString "hosts b = s life 7"], [Str.ofString "on s1 b"], [Str.ofString "deed 1 5 put link b = " ++ itC, Str.ofString "deed 0 0 on s1 b"], [Str.ofString "before 1 2"], [Str.ofString "end 40"]]
def spLGr (T : List (Addr × Str)) : Sp := fun vs H Q _ => vs = [] ∧ ∀ p (as : List Addr) H', Ext T [] H H' → H' p = some (.lst (as.map V.ref)) → as.length = 8 → (∀ (j : Nat) a ls, as[j]? = some a → grL[j]? = some ls → H' a = some (.lst (ls.map V.str))) → Nw H p → (∀ a ∈ as, Nw H a) → Q (.ref p) H'
theorem ok_law_groups (D : Def K mg "_law_groups" s_law_groups []) (mb : ∀ x ∈ bltns, mg x = none) : Ok P w K mg base 1 "_law_groups" [] (spLGr T) := by
  refine D.ok sc_law_groups (fun vs H Q E h => ?_) (fun cdv f A outer s H vs Q E hr h => ?_)
  · obtain ⟨rfl, _⟩ := h
    rfl
  · obtain ⟨rfl, q⟩ := h
    refine ⟨_, (pss_cons (ps_set (i := 0) sc_law_groups.nd rfl (.inl rfl) pe_str)
   (pss_one (ps_ret (pe_lst (pa_cons (pe_lst (pa_cons pe_str (pa_cons pe_str pa_nil))) (pa_cons (pe_lst (pa_cons pe_str pa_nil)) (pa_cons (pe_lst (pa_cons pe_str (pa_cons pe_str pa_nil))) (pa_cons (pe_lst (pa_cons (pe_op (op_plus K rfl) pe_str (pv 0)) (pa_cons (pe_op (op_plus K rfl) pe_str (pv 0)) (pa_cons pe_str pa_nil)))) (pa_cons (pe_lst (pa_cons pe_str pa_nil)) (pa_cons (pe_lst (pa_cons (pe_op (op_plus K rfl) pe_str (pv 0)) (pa_cons pe_str pa_nil))) (pa_cons (pe_lst (pa_cons pe_str pa_nil)) (pa_cons (pe_lst (pa_cons pe_str pa_nil)) pa_nil)))))))))))), ?_⟩
    walk_at "rd"
    refine ⟨by walk_at "sz", fun p0 np0 => ?_⟩
    obtain ⟨np0, x0, h0⟩ := alL (T := T) np0 [V.str (Str.ofString "zone . lag 5"), .str (Str.ofString "zone a.b lag 0")]
    generalize upd H p0 _ = H0 at x0 h0 ⊢
    walk_at "rd"
    refine ⟨by walk_at "sz", fun p1 np1 => ?_⟩
    obtain ⟨np1, x1, h1⟩ := alL (T := T) np1 [V.str (Str.ofString "anchor k1")]
    have np1 := x0.back0 np1
    have h0 := lst.x h0 x1
    have x := x0.trans x1
    generalize upd H0 p1 _ = H1 at x h0 h1 ⊢
    walk_at "rd"
    refine ⟨by walk_at "sz", fun p2 np2 => ?_⟩
    obtain ⟨np2, x2, h2⟩ := alL (T := T) np2 [V.str (Str.ofString "set . a"), .str (Str.ofString "set a.b k9")]
    have np2 := x.back0 np2
    have h0 := lst.x h0 x2
    have h1 := lst.x h1 x2
    have x := x.trans x2
    generalize upd H1 p2 _ = H2 at x h0 h1 h2 ⊢
    walk_at "rd"
    refine rd_plusS (by decide +kernel) ?_
    walk_at "rd"
    refine rd_plusS (by decide +kernel) ?_
    walk_at "rd"
    refine ⟨by walk_at "sz", fun p3 np3 => ?_⟩
    obtain ⟨np3, x3, h3⟩ := alL (T := T) np3 [V.str (Str.ofString "keys . = " ++ Str.ofString "a,b2 life 5 by k from 0 to 90"), .str (Str.ofString "set a.b k9 = " ++ Str.ofString "a,b2 life 5 by k from 0 to 90"), .str (Str.ofString "hosts b = s life 7")]
    have np3 := x.back0 np3
    have h0 := lst.x h0 x3
    have h1 := lst.x h1 x3
    have h2 := lst.x h2 x3
    have x := x.trans x3
    generalize upd H2 p3 _ = H3 at x h0 h1 h2 h3 ⊢
    walk_at "rd"
    refine ⟨by walk_at "sz", fun p4 np4 => ?_⟩
    obtain ⟨np4, x4, h4⟩ := alL (T := T) np4 [V.str (Str.ofString "on s1 b")]
    have np4 := x.back0 np4
    have h0 := lst.x h0 x4
    have h1 := lst.x h1 x4
    have h2 := lst.x h2 x4
    have h3 := lst.x h3 x4
    have x := x.trans x4
    generalize upd H3 p4 _ = H4 at x h0 h1 h2 h3 h4 ⊢
    walk_at "rd"
    refine rd_plusS (by decide +kernel) ?_
    walk_at "rd"
    refine ⟨by walk_at "sz", fun p5 np5 => ?_⟩
    obtain ⟨np5, x5, h5⟩ := alL (T := T) np5 [V.str (Str.ofString "deed 1 5 put link b = " ++ Str.ofString "a,b2 life 5 by k from 0 to 90"), .str (Str.ofString "deed 0 0 on s1 b")]
    have np5 := x.back0 np5
    have h0 := lst.x h0 x5
    have h1 := lst.x h1 x5
    have h2 := lst.x h2 x5
    have h3 := lst.x h3 x5
    have h4 := lst.x h4 x5
    have x := x.trans x5
    generalize upd H4 p5 _ = H5 at x h0 h1 h2 h3 h4 h5 ⊢
    walk_at "rd"
    refine ⟨by walk_at "sz", fun p6 np6 => ?_⟩
    obtain ⟨np6, x6, h6⟩ := alL (T := T) np6 [V.str (Str.ofString "before 1 2")]
    have np6 := x.back0 np6
    have h0 := lst.x h0 x6
    have h1 := lst.x h1 x6
    have h2 := lst.x h2 x6
    have h3 := lst.x h3 x6
    have h4 := lst.x h4 x6
    have h5 := lst.x h5 x6
    have x := x.trans x6
    generalize upd H5 p6 _ = H6 at x h0 h1 h2 h3 h4 h5 h6 ⊢
    walk_at "rd"
    refine ⟨by walk_at "sz", fun p7 np7 => ?_⟩
    obtain ⟨np7, x7, h7⟩ := alL (T := T) np7 [V.str (Str.ofString "end 40")]
    have np7 := x.back0 np7
    have h0 := lst.x h0 x7
    have h1 := lst.x h1 x7
    have h2 := lst.x h2 x7
    have h3 := lst.x h3 x7
    have h4 := lst.x h4 x7
    have h5 := lst.x h5 x7
    have h6 := lst.x h6 x7
    have x := x.trans x7
    generalize upd H6 p7 _ = H7 at x h0 h1 h2 h3 h4 h5 h6 h7 ⊢
    walk_at "rd"
    refine ⟨by walk_at "sz", fun p np => ?_⟩
    obtain ⟨np, x8, hp⟩ := alL (T := T) np [V.ref p0, .ref p1, .ref p2, .ref p3, .ref p4, .ref p5, .ref p6, .ref p7]
    have np := x.back0 np
    refine q p [p0, p1, p2, p3, p4, p5, p6, p7] _ (x.trans x8) hp rfl (fun j a ls hj hl => ?_) np (fun a ha => ?_)
    rotate_left
    · simp only [List.mem_cons, List.not_mem_nil, or_false] at ha
      rcases ha with rfl | rfl | rfl | rfl | rfl | rfl | rfl | rfl <;> assumption
    match j, hj, hl with
    | 0, hj, hl => cases Option.some.inj hj; cases Option.some.inj hl; exact lst.x h0 x8
    | 1, hj, hl => cases Option.some.inj hj; cases Option.some.inj hl; exact lst.x h1 x8
    | 2, hj, hl => cases Option.some.inj hj; cases Option.some.inj hl; exact lst.x h2 x8
    | 3, hj, hl => cases Option.some.inj hj; cases Option.some.inj hl; exact lst.x h3 x8
    | 4, hj, hl => cases Option.some.inj hj; cases Option.some.inj hl; exact lst.x h4 x8
    | 5, hj, hl => cases Option.some.inj hj; cases Option.some.inj hl; exact lst.x h5 x8
    | 6, hj, hl => cases Option.some.inj hj; cases Option.some.inj hl; exact lst.x h6 x8
    | 7, hj, hl => cases Option.some.inj hj; cases Option.some.inj hl; exact lst.x h7 x8
    | n + 8, hj, hl => cases hj
end

open PySem PySem.Spec PyProof.Rows L2
open PySem.W (EachIs)
open CwR
section
variable {T : List (Addr × Str)} {P : Program} {w : World} {K : PySem.W.Frag} {mg : Str → Option Value} {base : Heap} {NF : Addr}
local macro_rules | `(tactic| walk_at "tr") => `(tactic| first
  | assumption
  | exact Ext.refl
  | ((with_reducible refine' Im.x (T := T) (H := ?trH) ?tra ?tre); (case tre => assumption); (case tra => walk_at "tr"))
  | ((with_reducible refine' Im.y (T := T) (H := ?trH) ?tra ?tre ?trt); (case tre => assumption); (case trt => walk_at "tr"); (case tra => walk_at "tr"))
  | ((with_reducible refine' ImAll.x (T := T) (H := ?trH) ?tra ?tre); (case tre => assumption); (case tra => walk_at "tr"))
  | ((with_reducible refine' ImAll.y (T := T) (H := ?trH) ?tra ?tre ?trt); (case tre => assumption); (case trt => walk_at "tr"); (case tra => walk_at "tr"))
  | ((with_reducible refine' Ls.x (T := T) (H := ?trH) ?tra ?tre); (case tre => assumption); (case tra => walk_at "tr"))
  | ((with_reducible refine' Ls.y (T := T) (H := ?trH) ?tra ?tre ?trn ?trt); (case tre => assumption); (case trt => walk_at "tr"); (case trn => walk_at "tr"); (case tra => walk_at "tr"))
  | ((with_reducible refine' SqP.x (T := T) (H := ?trH) ?tra ?tre); (case tre => assumption); (case tra => walk_at "tr"))
  | ((with_reducible refine' SqP.y (T := T) (H := ?trH) ?tra ?tre ?trt); (case tre => assumption); (case trt => walk_at "tr"); (case tra => walk_at "tr"))
  | ((with_reducible refine' StAt.x (T := T) (H := ?trH) ?tra ?tre); (case tre => assumption); (case tra => walk_at "tr"))
  | ((with_reducible refine' StAt.y (T := T) (H := ?trH) ?tra ?tre ?trt); (case tre => assumption); (case trt => walk_at "tr"); (case tra => walk_at "tr"))
  | ((with_reducible refine' Pools.ext0 (T := T) (H := ?trH) ?tra ?tre); (case tre => assumption); (case tra => walk_at "tr"))
  | ((with_reducible refine' Pools.ext (T := T) (H := ?trH) ?tra ?tre ?trt); (case tre => assumption); (case trt => walk_at "tr"); (case tra => walk_at "tr"))
  | ((with_reducible refine' CL.x (T := T) (H := ?trH) ?tra ?tre); (case tre => assumption); (case tra => walk_at "tr"))
  | ((with_reducible refine' CL.y (T := T) (H := ?trH) ?tra ?tre); (case tre => assumption); (case tra => walk_at "tr"))
  | ((with_reducible refine' Tape.ext (T := T) (H := ?trH) ?tra ?tre); (case tre => assumption); (case tra => walk_at "tr"))
  | ((with_reducible refine' lst.x (T := T) (H := ?trH) ?tra ?tre); (case tre => assumption); (case tra => walk_at "tr"))
  | ((with_reducible refine' lst.y (T := T) (H := ?trH) ?tra ?tre ?trn); (case tre => assumption); (case trn => walk_at "tr"); (case tra => walk_at "tr"))
  | ((with_reducible refine' tup.x (T := T) (H := ?trH) ?tra ?tre); (case tre => assumption); (case tra => walk_at "tr"))
  | ((with_reducible refine' tup.y (T := T) (H := ?trH) ?tra ?tre ?trt); (case tre => assumption); (case trt => walk_at "tr"); (case tra => walk_at "tr"))
  | ((with_reducible refine' frz.x (T := T) (H := ?trH) ?tra ?tre); (case tre => assumption); (case tra => walk_at "tr"))
  | ((with_reducible refine' frz.y (T := T) (H := ?trH) ?tra ?tre ?trt); (case tre => assumption); (case trt => walk_at "tr"); (case tra => walk_at "tr"))
  | ((with_reducible refine' Im.z (T := T) (H := ?trH) ?tra ?tre ?trt); (case tre => assumption); (case trt => assumption); (case tra => walk_at "tr"))
  | ((with_reducible refine' ImAll.z (T := T) (H := ?trH) ?tra ?tre ?trt); (case tre => assumption); (case trt => assumption); (case tra => walk_at "tr"))
  | ((with_reducible refine' StAt.z (T := T) (H := ?trH) ?tra ?tre ?trt); (case tre => assumption); (case trt => assumption); (case tra => walk_at "tr"))
  | ((with_reducible refine' SqP.z (T := T) (H := ?trH) ?tra ?tre ?trt); (case tre => assumption); (case trt => assumption); (case tra => walk_at "tr"))
  | ((with_reducible refine' tup.z (T := T) (H := ?trH) ?tra ?tre ?trt); (case tre => assumption); (case trt => assumption); (case tra => walk_at "tr"))
  | ((with_reducible refine' Ls.z (T := T) (H := ?trH) ?tra ?tre ?trt ?trn); (case tre => assumption); (case trt => assumption); (case trn => assumption); (case tra => walk_at "tr"))
  | ((with_reducible refine' lst.z (T := T) (H := ?trH) ?tra ?tre ?trn); (case tre => assumption); (case trn => assumption); (case tra => walk_at "tr"))
  | ((with_reducible refine' CL.z (T := T) (H := ?trH) ?tra ?tre ?trn); (case tre => assumption); (case trn => assumption); (case tra => walk_at "tr"))
  | ((with_reducible refine' Tape.ne1 (H := ?trH) ?trt ?trn); (case trn => assumption); (case trt => walk_at "tr"))
  | ((with_reducible refine' Ext.trans (H1 := ?trH) ?tra (Ext.any ?tre)); (case tre => assumption); (case tra => walk_at "tr"))
  | ((with_reducible refine' Ext.trans (H1 := ?trH) ?tra ?tre); (case tre => assumption); (case tra => walk_at "tr"))
  | ((with_reducible refine' Ext.back1 (T := T) (H1 := ?trH) ?tre ?trn ?tra); (case tra => assumption); (case trn => walk_at "tr"); (case tre => walk_at "tr"))
  | ((with_reducible refine' Ext.back0 (T := T) (H1 := ?trH) ?tre ?tra); (case tra => assumption); (case tre => walk_at "tr"))
  | ((with_reducible refine' SqT.of ?tra); (case tra => walk_at "tr"))
  | ((with_reducible refine' SqL.of ?tra); (case tra => walk_at "tr")))

abbrev wsL (z : Str) : List Str := Txt.split z (Str.ofString " ")
abbrev w0 (z : Str) : Str := (wsL z).headD Str.empty
/-- the nine first ways to spoil a line -/
def spo (z : Str) : Nat → Str
  | 0 => Str.ofString ""
  | 1 => Str.ofString " " ++ z
  | 2 => z ++ Str.ofString " "
  | 3 => repl1 z (Str.ofString " ") (Str.ofString "  ")
  | 4 => (w0 z ++ Str.ofString "s ") ++ Txt.join (Str.ofString " ") ((wsL z).drop 1)
  | 5 => w0 z
  | 6 => z ++ Str.ofString " A"
  | 7 => Txt.upper (w0 z) ++ cutS z (some ((w0 z).length : Int)) none
  | _ => z ++ Str.ofString " 1 abcde"
def bads : List Str := [Str.ofString "01", Str.ofString "-1", Str.ofString "123456", Str.ofString "1x", Str.ofString "+2", Str.ofString "a..b", Str.ofString "abcdefghi.b", Str.ofString "a.b.c.d.e", Str.ofString "B"]
/-- a word of the line is another -/
def spo9 (z b : Str) (a : Nat) : Str := Txt.join (Str.ofString " ") (((wsL z).take a ++ [b ++ Str.ofString "..."]) ++ (wsL z).drop (a + 1))
def spoL (z : Str) : List Str := (List.range 9).map (spo z) ++ bads.flatMap fun b => (List.range ((wsL z).length - 1)).map fun a => spo9 z b (1 + a)
def end3 : Str := Str.ofString "end 3"
def allL : List Str := kdL .tb ++ (kdL .pl ++ (kdL .hi ++ (grL.flatten ++ [end3])))
def lnB (z : Str) : Bool := decide (z.length ≤ 80) && (decide (2 ≤ (wsL z).length) && (decide ((wsL z).length ≤ 20) && ((wsL z).all (fun w => decide (w.length ≤ 40)) && (!Builtin.Str.tooLong (z.length + (Builtin.Str.occurrences z (Str.ofString " ") 0 z.length 1).length * (Str.ofString "  ").length) && (decide ((spo z 3).length ≤ 1000) && (decide ((Txt.upper (w0 z)).length ≤ 500) && decide ((cutS z (some ((w0 z).length : Int)) none).length ≤ 500)))))))
theorem lnB_all : allL.all lnB = true := by decide +kernel
structure Ln (z : Str) : Prop where
  len : z.length ≤ 80
  two : 2 ≤ (wsL z).length
  few : (wsL z).length ≤ 20
  ws : ∀ w ∈ wsL z, w.length ≤ 40
  big : Builtin.Str.tooLong (z.length + (Builtin.Str.occurrences z (Str.ofString " ") 0 z.length 1).length * (Str.ofString "  ").length) = false
  rep : (spo z 3).length ≤ 1000
  up : (Txt.upper (w0 z)).length ≤ 500
  cut : (cutS z (some ((w0 z).length : Int)) none).length ≤ 500
theorem ln_of {z : Str} (h : z ∈ allL) : Ln z := by
  have e := List.all_eq_true.mp lnB_all z h
  unfold lnB at e
  rw [Bool.and_eq_true, Bool.and_eq_true, Bool.and_eq_true, Bool.and_eq_true, Bool.and_eq_true, Bool.and_eq_true, Bool.and_eq_true, decide_eq_true_eq, decide_eq_true_eq, decide_eq_true_eq, decide_eq_true_eq, decide_eq_true_eq, decide_eq_true_eq, Bool.not_eq_true', List.all_eq_true] at e
  obtain ⟨h1, h2, h3, h4, h5, h6, h7, h8⟩ := e
  exact ⟨h1, h2, h3, fun w hw => of_decide_eq_true (h4 w hw), h5, h6, h7, h8⟩
end

open PySem PySem.Spec PyProof.Rows L2
open PySem.W (EachIs)
open CwR
section
variable {T : List (Addr × Str)} {P : Program} {w : World} {K : PySem.W.Frag} {mg : Str → Option Value} {base : Heap} {NF : Addr}
local macro_rules | `(tactic| walk_at "tr") => `(tactic| first
  | assumption
  | exact Ext.refl
  | ((with_reducible refine' Im.x (T := T) (H := ?trH) ?tra ?tre); (case tre => assumption); (case tra => walk_at "tr"))
  | ((with_reducible refine' Im.y (T := T) (H := ?trH) ?tra ?tre ?trt); (case tre => assumption); (case trt => walk_at "tr"); (case tra => walk_at "tr"))
  | ((with_reducible refine' ImAll.x (T := T) (H := ?trH) ?tra ?tre); (case tre => assumption); (case tra => walk_at "tr"))
  | ((with_reducible refine' ImAll.y (T := T) (H := ?trH) ?tra ?tre ?trt); (case tre => assumption); (case trt => walk_at "tr"); (case tra => walk_at "tr"))
  | ((with_reducible refine' Ls.x (T := T) (H := ?trH) ?tra ?tre); (case tre => assumption); (case tra => walk_at "tr"))
  | ((with_reducible refine' Ls.y (T := T) (H := ?trH) ?tra ?tre ?trn ?trt); (case tre => assumption); (case trt => walk_at "tr"); (case trn => walk_at "tr"); (case tra => walk_at "tr"))
  | ((with_reducible refine' SqP.x (T := T) (H := ?trH) ?tra ?tre); (case tre => assumption); (case tra => walk_at "tr"))
  | ((with_reducible refine' SqP.y (T := T) (H := ?trH) ?tra ?tre ?trt); (case tre => assumption); (case trt => walk_at "tr"); (case tra => walk_at "tr"))
  | ((with_reducible refine' StAt.x (T := T) (H := ?trH) ?tra ?tre); (case tre => assumption); (case tra => walk_at "tr"))
  | ((with_reducible refine' StAt.y (T := T) (H := ?trH) ?tra ?tre ?trt); (case tre => assumption); (case trt => walk_at "tr"); (case tra => walk_at "tr"))
  | ((with_reducible refine' Pools.ext0 (T := T) (H := ?trH) ?tra ?tre); (case tre => assumption); (case tra => walk_at "tr"))
  | ((with_reducible refine' Pools.ext (T := T) (H := ?trH) ?tra ?tre ?trt); (case tre => assumption); (case trt => walk_at "tr"); (case tra => walk_at "tr"))
  | ((with_reducible refine' CL.x (T := T) (H := ?trH) ?tra ?tre); (case tre => assumption); (case tra => walk_at "tr"))
  | ((with_reducible refine' CL.y (T := T) (H := ?trH) ?tra ?tre); (case tre => assumption); (case tra => walk_at "tr"))
  | ((with_reducible refine' Tape.ext (T := T) (H := ?trH) ?tra ?tre); (case tre => assumption); (case tra => walk_at "tr"))
  | ((with_reducible refine' lst.x (T := T) (H := ?trH) ?tra ?tre); (case tre => assumption); (case tra => walk_at "tr"))
  | ((with_reducible refine' lst.y (T := T) (H := ?trH) ?tra ?tre ?trn); (case tre => assumption); (case trn => walk_at "tr"); (case tra => walk_at "tr"))
  | ((with_reducible refine' tup.x (T := T) (H := ?trH) ?tra ?tre); (case tre => assumption); (case tra => walk_at "tr"))
  | ((with_reducible refine' tup.y (T := T) (H := ?trH) ?tra ?tre ?trt); (case tre => assumption); (case trt => walk_at "tr"); (case tra => walk_at "tr"))
  | ((with_reducible refine' frz.x (T := T) (H := ?trH) ?tra ?tre); (case tre => assumption); (case tra => walk_at "tr"))
  | ((with_reducible refine' frz.y (T := T) (H := ?trH) ?tra ?tre ?trt); (case tre => assumption); (case trt => walk_at "tr"); (case tra => walk_at "tr"))
  | ((with_reducible refine' Im.z (T := T) (H := ?trH) ?tra ?tre ?trt); (case tre => assumption); (case trt => assumption); (case tra => walk_at "tr"))
  | ((with_reducible refine' ImAll.z (T := T) (H := ?trH) ?tra ?tre ?trt); (case tre => assumption); (case trt => assumption); (case tra => walk_at "tr"))
  | ((with_reducible refine' StAt.z (T := T) (H := ?trH) ?tra ?tre ?trt); (case tre => assumption); (case trt => assumption); (case tra => walk_at "tr"))
  | ((with_reducible refine' SqP.z (T := T) (H := ?trH) ?tra ?tre ?trt); (case tre => assumption); (case trt => assumption); (case tra => walk_at "tr"))
  | ((with_reducible refine' tup.z (T := T) (H := ?trH) ?tra ?tre ?trt); (case tre => assumption); (case trt => assumption); (case tra => walk_at "tr"))
  | ((with_reducible refine' Ls.z (T := T) (H := ?trH) ?tra ?tre ?trt ?trn); (case tre => assumption); (case trt => assumption); (case trn => assumption); (case tra => walk_at "tr"))
  | ((with_reducible refine' lst.z (T := T) (H := ?trH) ?tra ?tre ?trn); (case tre => assumption); (case trn => assumption); (case tra => walk_at "tr"))
  | ((with_reducible refine' CL.z (T := T) (H := ?trH) ?tra ?tre ?trn); (case tre => assumption); (case trn => assumption); (case tra => walk_at "tr"))
  | ((with_reducible refine' Tape.ne1 (H := ?trH) ?trt ?trn); (case trn => assumption); (case trt => walk_at "tr"))
  | ((with_reducible refine' Ext.trans (H1 := ?trH) ?tra (Ext.any ?tre)); (case tre => assumption); (case tra => walk_at "tr"))
  | ((with_reducible refine' Ext.trans (H1 := ?trH) ?tra ?tre); (case tre => assumption); (case tra => walk_at "tr"))
  | ((with_reducible refine' Ext.back1 (T := T) (H1 := ?trH) ?tre ?trn ?tra); (case tra => assumption); (case trn => walk_at "tr"); (case tre => walk_at "tr"))
  | ((with_reducible refine' Ext.back0 (T := T) (H1 := ?trH) ?tre ?tra); (case tra => assumption); (case tre => walk_at "tr"))
  | ((with_reducible refine' SqT.of ?tra); (case tra => walk_at "tr"))
  | ((with_reducible refine' SqL.of ?tra); (case tra => walk_at "tr")))

theorem rd_repl1 {to : TE} {y z : Str} {σ : L2.St} {H : Hp} {Q : VK} (q : to σ H fun v H1 => ∃ x, v = .str x ∧ Builtin.Str.tooLong (x.length + (Builtin.Str.occurrences x y 0 x.length 1).length * z.length) = false ∧ (repl1 x y z).length ≤ sizeLine ∧ Q (.str (repl1 x y z)) H1) : tRepl1 to y z σ H Q := q
theorem sum_le40 : ∀ {ls : List Str}, (∀ w ∈ ls, w.length ≤ 60) → (ls.map (·.length)).sum ≤ 60 * ls.length
  | [], _ => Nat.le_refl _
  | x :: r, h => by
    have := sum_le40 fun y hy => h y (List.mem_cons_of_mem _ hy)
    have := h x List.mem_cons_self
    simp only [List.map_cons, List.sum_cons, List.length_cons]
    omega
theorem rd_m0U {r : V → List V → Hp → VK → Prop} {to : TE} {σ : L2.St} {H : Hp} {Q : VK} (q : to σ H fun x H1 => (∃ a, x = .str a) ∧ r x [] H1 Q) : tM0 r to σ H Q := q
def spSpoilt (T : List (Addr × Str)) : Sp := fun vs H Q _ => ∃ (l t : Addr) (z : Str), vs = [.ref t, .str z] ∧ Tape l H t ∧ z ∈ allL ∧ ∀ y H', y ∈ spoL z → Ext T [t] H H' → Tape l H' t → Q (.str y) H'
theorem spo_in {z : Str} {i : Nat} (h : i < 9) : spo z i ∈ spoL z := List.mem_append_left _ (List.mem_map.mpr ⟨i, List.mem_range.mpr h, rfl⟩)
theorem spo9_in {z b : Str} {a : Nat} (hb : b ∈ bads) (h : a < (wsL z).length - 1) : spo9 z b (1 + a) ∈ spoL z := List.mem_append_right _ (List.mem_flatMap.mpr ⟨b, hb, List.mem_map.mpr ⟨a, List.mem_range.mpr h, rfl⟩⟩)
theorem ok_law_spoilt (D : Def K mg "_law_spoilt" s_law_spoilt ["tape", "line"]) (mb : ∀ x ∈ bltns, mg x = none) (G_law_take : Ok P w K mg base 2 "_law_take" ["tape", "many"] (spTake T)) : Ok P w K mg base 3 "_law_spoilt" ["tape", "line"] (spSpoilt T) := by
  refine D.ok sc_law_spoilt (fun vs H Q E h => ?_) (fun cdv f A outer s H vs Q E hr h => ?_)
  · obtain ⟨l, t, z, rfl, _⟩ := h
    rfl
  · obtain ⟨l, t, z, rfl, hT, hz, q⟩ := h
    refine ⟨_, (pss_setT (i := 2) sc_law_spoilt.nd rfl (.inl rfl) (pv 1)
   (psst_cons (PST.of (ps_set (i := 3) sc_law_spoilt.nd rfl (.inl rfl) (pe_callO G_law_take (hr.mono (by decide)) (by rfl) (pa_cons (pv 0) (pa_cons pe_int pa_nil)))))
   (psst_cons (PST.of (ps_if (pt_cmpR (op_eqU K rfl hr.units) (pv 3) pe_int (nomark _)) (pss_one (ps_ret pe_str)) pss_nil))
   (psst_cons (PST.of (ps_if (pt_cmpR (op_eqU K rfl hr.units) (pv 3) pe_int (nomark _)) (pss_one (ps_ret (pe_op (op_plus K rfl) pe_str (pv 1)))) pss_nil))
   (psst_cons (PST.of (ps_if (pt_cmpR (op_eqU K rfl hr.units) (pv 3) pe_int (nomark _)) (pss_one (ps_ret (pe_op (op_plus K rfl) (pv 1) pe_str))) pss_nil))
   (psst_cons (pst_if (pt_cmpR (op_eqU K rfl hr.units) (pv 3) pe_int (nomark _)) (psst_one (pst_ret (pet_repl1 (pv 1) (by decide +kernel)))) (PSsT.of pss_nil))
   (PSsT.of (pss_cons (ps_if (pt_cmpR (op_eqU K rfl hr.units) (pv 3) pe_int (nomark _)) (pss_one (ps_ret (pe_op (op_plus K rfl) (pe_op (op_plus K rfl) (pe_ix (ix_U K rfl) (pv 2) pe_int (fun _ _ => rfl)) pe_str) (pe_m1 PySem.F.slot_str_join PySem.F.type_str_join (mt_joinU K rfl) pe_str (pe_slice (sl_U K rfl) (pv 2) (po_some pe_int) po_none))))) pss_nil)
   (pss_cons (ps_if (pt_cmpR (op_eqU K rfl hr.units) (pv 3) pe_int (nomark _)) (pss_one (ps_ret (pe_ix (ix_U K rfl) (pv 2) pe_int (fun _ _ => rfl)))) pss_nil)
   (pss_cons (ps_if (pt_cmpR (op_eqU K rfl hr.units) (pv 3) pe_int (nomark _)) (pss_one (ps_ret (pe_op (op_plus K rfl) (pv 1) pe_str))) pss_nil)
   (pss_cons (ps_if (pt_cmpR (op_eqU K rfl hr.units) (pv 3) pe_int (nomark _)) (pss_one (ps_ret (pe_op (op_plus K rfl) (pe_m0 PySem.F.slot_str_upper PySem.F.type_str_upper mt_upper (pe_ix (ix_U K rfl) (pv 2) pe_int (fun _ _ => rfl))) (pe_slice (sl_U K rfl) (pv 1) (po_some (pe_callB (call_lenU K rfl) (by rfl) (mb _ (by decide)) (by decide +kernel) (pa_cons (pe_ix (ix_U K rfl) (pv 2) pe_int (fun _ _ => rfl)) pa_nil))) po_none)))) pss_nil)
   (pss_cons (ps_if (pt_cmpR (op_eqU K rfl hr.units) (pv 3) pe_int (nomark _)) (pss_one (ps_ret (pe_op (op_plus K rfl) (pv 1) pe_str))) pss_nil)
   (pss_cons (ps_set (i := 4) sc_law_spoilt.nd rfl (.inl rfl) (pe_ix (ix_U K rfl) (pe_lst (pa_cons pe_str (pa_cons pe_str (pa_cons pe_str (pa_cons pe_str (pa_cons pe_str (pa_cons pe_str (pa_cons pe_str (pa_cons pe_str (pa_cons pe_str pa_nil)))))))))) (pe_callO G_law_take (hr.mono (by decide)) (by rfl) (pa_cons (pv 0) (pa_cons pe_int pa_nil))) (fun _ _ => rfl)))
   (pss_cons (ps_set (i := 5) sc_law_spoilt.nd rfl (.inl rfl) (pe_op (op_plus K rfl) pe_int (pe_callO G_law_take (hr.mono (by decide)) (by rfl) (pa_cons (pv 0) (pa_cons (pe_op op_sub (pe_callB (call_lenU K rfl) (by rfl) (mb _ (by decide)) (by decide +kernel) (pa_cons (pv 2) pa_nil)) pe_int) pa_nil)))))
   (pss_one (ps_ret (pe_m1 PySem.F.slot_str_join PySem.F.type_str_join (mt_joinU K rfl) pe_str (pe_op (op_plus K rfl) (pe_op (op_plus K rfl) (pe_slice (sl_U K rfl) (pv 2) po_none (po_some (pv 5))) (pe_lst (pa_cons (pe_op (op_plus K rfl) (pv 4) pe_str) pa_nil))) (pe_slice (sl_U K rfl) (pv 2) (po_some (pe_op (op_plus K rfl) (pv 5) pe_int)) po_none))))))))))))))))))), ?_⟩
    obtain ⟨k1, k2, k3, k4, k5, k6, k7, k8⟩ := ln_of hz
    obtain ⟨x0, xr, hx⟩ : ∃ x r, wsL z = x :: r := by
      cases hw : wsL z with
      | nil => rw [hw] at k2; exact absurd k2 (by decide)
      | cons x r => exact ⟨x, r, rfl⟩
    have hw0 : w0 z = x0 := by unfold w0; rw [hx]; rfl
    have hx0 : x0.length ≤ 40 := k4 x0 (by rw [hx]; exact List.mem_cons_self)
    refine rd_seq ?_
    walk_at "rd"
    refine rd_split (b := Str.ofString " ") (by decide +kernel) (Nat.le_trans (show z.length + 2 ≤ 82 by omega) (by decide)) fun pw npw => ?_
    have hne : pw ≠ t := hT.ne1 (.of npw)
    obtain ⟨npw, x1, hpw⟩ := alL (T := T) npw ((wsL z).map V.str)
    have hT := hT.ext x1
    have e0 : Ext T [t] H (upd H pw (.lst ((wsL z).map V.str))) := x1.any
    generalize upd H pw _ = H1 at x1 hpw hT e0 ⊢
    walk_at "rdn"
    refine rd_seq ?_
    walk_at "rd"
    refine ⟨l, t, 12, rfl, by decide, by decide, hT, fun m H2 b0 b1 e2 T2 => ?_⟩
    obtain ⟨m, rfl⟩ := Int.eq_ofNat_of_zero_le b0
    have hpw := e2.lst (show pw ∉ [t] by simpa using hne) hpw
    have e2 := e0.trans e2
    clear e0 x1 hT npw
    have hat0 : atI ((wsL z).map V.str) ((0 : Nat) : Int) = some (V.str x0) := atI_nat (by rw [hx]; rfl)
    have hml : ((wsL z).map V.str).length ≤ 20 := by rw [List.length_map]; exact k3
    have n1 : (Str.ofString " ").length = 1 := by decide +kernel
    have n2 : (Str.ofString "s ").length = 2 := by decide +kernel
    have n3 : (Str.ofString " A").length = 2 := by decide +kernel
    have n4 : (Str.ofString " 1 abcde").length = 8 := by decide +kernel
    have n5 : (Str.ofString "...").length = 3 := by decide +kernel
    walk_at "rd"
    refine rd_ite (fun c => ?_) (fun c0 => ?_)
    · walk_at "rd"
      exact q _ _ (spo_in (i := 0) (by decide)) e2 T2
    walk_at "rd"
    refine rd_ite (fun c => ?_) (fun c1 => ?_)
    · walk_at "rd"
      exact q _ _ (spo_in (i := 1) (by decide)) e2 T2
    walk_at "rd"
    refine rd_ite (fun c => ?_) (fun c2 => ?_)
    · walk_at "rd"
      exact q _ _ (spo_in (i := 2) (by decide)) e2 T2
    walk_at "rd"
    refine rd_ite (fun c => ?_) (fun c3 => ?_)
    · walk_at "rd"
      refine rd_repl1 ?_
      walk_at "rd"
      exact ⟨k5, Nat.le_trans k6 (by decide), q _ _ (spo_in (i := 3) (by decide)) e2 T2⟩
    walk_at "rd"
    refine rd_ite (fun c => ?_) (fun c4 => ?_)
    · walk_at "rd"
      refine rd_ixL (SqL.of hpw) hat0 ?_
      walk_at "rd"
      refine rd_slL (SqL.of hpw) fun p1 np1 => ?_
      have ec : cutV ((wsL z).map V.str) (some 1) none = ((wsL z).drop 1).map V.str := by
        rw [cutV_strs _ (by decide)]
        rfl
      rw [ec]
      have hne1 : p1 ≠ t := T2.ne1 (.of np1)
      obtain ⟨np1, x3, hp1⟩ := alL (T := T) np1 (((wsL z).drop 1).map V.str)
      have T3 := T2.ext x3
      have e3 := e2.trans x3.any
      generalize upd H2 p1 _ = H3 at x3 hp1 T3 e3 ⊢
      walk_at "rd"
      have hsl : (((wsL z).drop 1).map (·.length)).sum ≤ 60 * ((wsL z).drop 1).length := sum_le40 fun w hw => Nat.le_trans (k4 w (List.mem_of_mem_drop hw)) (by decide)
      have hdl : ((wsL z).drop 1).length ≤ 20 := by rw [List.length_drop]; omega
      refine rd_join (SqL.of hp1) (by rw [n1]; omega) ?_
      walk_at "rd"
      refine rd_plusS ?_ ?_
      · have hj : (Txt.join (Str.ofString " ") ((wsL z).drop 1)).length ≤ 2000 := by
          rw [join_jn (s := 32) (by decide +kernel)]
          have := jn_len 32 ((wsL z).drop 1)
          omega
        refine Nat.le_trans (?_ : _ ≤ 10000) (by decide)
        rw [app_len2]
        omega
      · rw [show x0 = w0 z from hw0.symm]
        exact q _ _ (spo_in (i := 4) (by decide)) e3 T3
    walk_at "rd"
    refine rd_ite (fun c => ?_) (fun c5 => ?_)
    · walk_at "rd"
      refine rd_ixL (SqL.of hpw) hat0 ?_
      rw [show x0 = w0 z from hw0.symm]
      exact q _ _ (spo_in (i := 5) (by decide)) e2 T2
    walk_at "rd"
    refine rd_ite (fun c => ?_) (fun c6 => ?_)
    · walk_at "rd"
      exact q _ _ (spo_in (i := 6) (by decide)) e2 T2
    walk_at "rd"
    refine rd_ite (fun c => ?_) (fun c7 => ?_)
    · walk_at "rd"
      refine rd_m0U ?_
      walk_at "rd"
      refine rd_ixL (SqL.of hpw) hat0 ?_
      refine ⟨⟨_, rfl⟩, x0, rfl, rfl, by omega, ?_⟩
      walk_at "rd"
      refine rd_ixL (SqL.of hpw) hat0 ?_
      walk_at "rd"
      rw [hw0] at k7 k8
      refine rd_plusS (Nat.le_trans (Nat.add_le_add k7 k8) (by decide)) ?_
      rw [show x0 = w0 z from hw0.symm]
      exact q _ _ (spo_in (i := 7) (by decide)) e2 T2
    walk_at "rd"
    refine rd_ite (fun c => ?_) (fun c8 => ?_)
    · walk_at "rd"
      exact q _ _ (spo_in (i := 8) (by decide)) e2 T2
    walk_at "rdn"
    refine rd_seq ?_
    walk_at "rd"
    refine ⟨by walk_at "sz", fun p9 np9 => ?_⟩
    have hne9 : p9 ≠ t := T2.ne1 (.of np9)
    obtain ⟨np9, x3, hp9⟩ := alL (T := T) np9 [V.str (Str.ofString "01"), .str (Str.ofString "-1"), .str (Str.ofString "123456"), .str (Str.ofString "1x"), .str (Str.ofString "+2"), .str (Str.ofString "a..b"), .str (Str.ofString "abcdefghi.b"), .str (Str.ofString "a.b.c.d.e"), .str (Str.ofString "B")]
    have hpw := lst.x hpw x3
    have T3 := T2.ext x3
    have e3 := e2.trans x3.any
    generalize upd H2 p9 _ = H3 at x3 hpw hp9 T3 e3 ⊢
    have hp9 : H3 p9 = some (.lst (bads.map V.str)) := hp9
    walk_at "rd"
    refine ⟨l, t, 9, rfl, by decide, by decide, T3, fun i9 H4 a0 a1 e4 T4 => ?_⟩
    obtain ⟨i9, rfl⟩ := Int.eq_ofNat_of_zero_le a0
    have hp9 := e4.lst (show p9 ∉ [t] by simpa using hne9) hp9
    have hpw := e4.lst (show pw ∉ [t] by simpa using hne) hpw
    have e4 := e3.trans e4
    have hi9 : i9 < bads.length := by show i9 < 9; omega
    have hb9 : (bads.map V.str)[i9]? = some (V.str bads[i9]) := by rw [List.getElem?_map, List.getElem?_eq_getElem hi9]; rfl
    walk_at "rd"
    refine rd_ixL (SqL.of hp9) (atI_nat hb9) ?_
    have hbm : bads[i9] ∈ bads := List.getElem_mem hi9
    have hbl : ∀ b ∈ bads, b.length ≤ 40 := by decide +kernel
    have hbl := hbl _ hbm
    generalize bads[i9] = bd at hbm hbl ⊢
    walk_at "rdn"
    refine rd_seq ?_
    walk_at "rd"
    refine ⟨l, t, _, rfl, ?_, ?_, T4, fun at9 H5 a2 a3 e5 T5 => ?_⟩
    · rw [List.length_map]
      omega
    · rw [List.length_map]
      omega
    obtain ⟨a9, rfl⟩ := Int.eq_ofNat_of_zero_le a2
    have ha9 : a9 < (wsL z).length - 1 := by
      rw [List.length_map] at a3
      omega
    have hpw := e5.lst (show pw ∉ [t] by simpa using hne) hpw
    have e5 := e4.trans e5
    clear a3
    walk_at "rd"
    refine rd_slL (SqL.of hpw) fun p1 np1 => ?_
    have ec : cutV ((wsL z).map V.str) none (some (1 + (a9 : Int))) = ((wsL z).take (1 + a9)).map V.str := by
      rw [cutV_to _ (by omega), List.map_take, show (1 + (a9 : Int)).toNat = 1 + a9 by omega]
    rw [ec]
    have hne1 : p1 ≠ t := T5.ne1 (.of np1)
    obtain ⟨np1, x6, hp1⟩ := alL (T := T) np1 (((wsL z).take (1 + a9)).map V.str)
    have hpw := lst.x hpw x6
    have T6 := T5.ext x6
    have e6 := e5.trans x6.any
    generalize upd H5 p1 _ = H6 at x6 hpw hp1 T6 e6 ⊢
    walk_at "rd"
    refine ⟨by walk_at "sz", fun p2 np2 => ?_⟩
    obtain ⟨np2, x7, hp2⟩ := alL (T := T) np2 [V.str (bd ++ Str.ofString "...")]
    have hpw := lst.x hpw x7
    have hp1 := lst.x hp1 x7
    have T7 := T6.ext x7
    have e7 := e6.trans x7.any
    generalize upd H6 p2 _ = H7 at x7 hpw hp1 hp2 T7 e7 ⊢
    have ht1 : ((wsL z).take (1 + a9)).length ≤ 20 := by rw [List.length_take]; omega
    have ht2 : ((wsL z).drop (a9 + 2)).length ≤ 20 := by rw [List.length_drop]; omega
    refine rd_catA (T := T) hp1 hp2 (by rw [List.length_map]; show _ + 1 ≤ 1000; omega) fun p3 H8 np3 x8 hp3 => ?_
    have hpw := lst.x hpw x8
    have T8 := T7.ext x8
    have e8 := e7.trans x8.any
    walk_at "rd"
    refine rd_slL (SqL.of hpw) fun p4 np4 => ?_
    have ec : cutV ((wsL z).map V.str) (some (1 + (a9 : Int) + 1)) none = ((wsL z).drop (1 + a9 + 1)).map V.str := by
      rw [cutV_strs _ (by omega), show (1 + (a9 : Int) + 1).toNat = 1 + a9 + 1 by omega]
    rw [ec]
    obtain ⟨np4, x9, hp4⟩ := alL (T := T) np4 (((wsL z).drop (1 + a9 + 1)).map V.str)
    have hp3 := lst.x hp3 x9
    have T9 := T8.ext x9
    have e9 := e8.trans x9.any
    generalize upd H8 p4 _ = H9 at x9 hp3 hp4 T9 e9 ⊢
    have ht2 : ((wsL z).drop (1 + a9 + 1)).length ≤ 20 := by rw [List.length_drop]; omega
    refine rd_catA (T := T) hp3 hp4 (by rw [List.length_append, List.length_map, List.length_map]; show _ + 1 + _ ≤ 1000; omega) fun p5 Ha np5 xa hp5 => ?_
    have Ta := T9.ext xa
    have ea := e9.trans xa.any
    have ey : (((wsL z).take (1 + a9)).map V.str ++ [V.str (bd ++ Str.ofString "...")]) ++ ((wsL z).drop (1 + a9 + 1)).map V.str = (((wsL z).take (1 + a9) ++ [bd ++ Str.ofString "..."]) ++ (wsL z).drop (1 + a9 + 1)).map V.str := by
      rw [List.map_append, List.map_append]
      rfl
    rw [ey] at hp5
    have hall : ∀ w ∈ ((wsL z).take (1 + a9) ++ [bd ++ Str.ofString "..."]) ++ (wsL z).drop (1 + a9 + 1), w.length ≤ 60 := fun w hw => by
      rcases List.mem_append.mp hw with hw | hw
      · rcases List.mem_append.mp hw with hw | hw
        · exact Nat.le_trans (k4 w (List.mem_of_mem_take hw)) (by decide)
        · rw [List.mem_singleton.mp hw, app_len2, n5]
          omega
      · exact Nat.le_trans (k4 w (List.mem_of_mem_drop hw)) (by decide)
    have hsl := sum_le40 hall
    have hsn : (((wsL z).take (1 + a9) ++ [bd ++ Str.ofString "..."]) ++ (wsL z).drop (1 + a9 + 1)).length ≤ 50 := by
      rw [List.length_append, List.length_append]
      show _ + 1 + _ ≤ 50
      omega
    walk_at "rd"
    refine rd_join (SqL.of hp5) (by rw [n1]; omega) ?_
    exact q _ _ (spo9_in hbm ha9) ea Ta
end

open PySem PySem.Spec PyProof.Rows L2
open PySem.W (EachIs)
section
variable {T : List (Addr × Str)} {P : Program} {w : World} {K : PySem.W.Frag} {mg : Str → Option Value} {base : Heap} {NF : Addr}
local macro_rules | `(tactic| walk_at "tr") => `(tactic| first
  | assumption
  | exact Ext.refl
  | ((with_reducible refine' Im.x (T := T) (H := ?trH) ?tra ?tre); (case tre => assumption); (case tra => walk_at "tr"))
  | ((with_reducible refine' Im.y (T := T) (H := ?trH) ?tra ?tre ?trt); (case tre => assumption); (case trt => walk_at "tr"); (case tra => walk_at "tr"))
  | ((with_reducible refine' ImAll.x (T := T) (H := ?trH) ?tra ?tre); (case tre => assumption); (case tra => walk_at "tr"))
  | ((with_reducible refine' ImAll.y (T := T) (H := ?trH) ?tra ?tre ?trt); (case tre => assumption); (case trt => walk_at "tr"); (case tra => walk_at "tr"))
  | ((with_reducible refine' Ls.x (T := T) (H := ?trH) ?tra ?tre); (case tre => assumption); (case tra => walk_at "tr"))
  | ((with_reducible refine' Ls.y (T := T) (H := ?trH) ?tra ?tre ?trn ?trt); (case tre => assumption); (case trt => walk_at "tr"); (case trn => walk_at "tr"); (case tra => walk_at "tr"))
  | ((with_reducible refine' SqP.x (T := T) (H := ?trH) ?tra ?tre); (case tre => assumption); (case tra => walk_at "tr"))
  | ((with_reducible refine' SqP.y (T := T) (H := ?trH) ?tra ?tre ?trt); (case tre => assumption); (case trt => walk_at "tr"); (case tra => walk_at "tr"))
  | ((with_reducible refine' StAt.x (T := T) (H := ?trH) ?tra ?tre); (case tre => assumption); (case tra => walk_at "tr"))
  | ((with_reducible refine' StAt.y (T := T) (H := ?trH) ?tra ?tre ?trt); (case tre => assumption); (case trt => walk_at "tr"); (case tra => walk_at "tr"))
  | ((with_reducible refine' Pools.ext0 (T := T) (H := ?trH) ?tra ?tre); (case tre => assumption); (case tra => walk_at "tr"))
  | ((with_reducible refine' Pools.ext (T := T) (H := ?trH) ?tra ?tre ?trt); (case tre => assumption); (case trt => walk_at "tr"); (case tra => walk_at "tr"))
  | ((with_reducible refine' CL.x (T := T) (H := ?trH) ?tra ?tre); (case tre => assumption); (case tra => walk_at "tr"))
  | ((with_reducible refine' CL.y (T := T) (H := ?trH) ?tra ?tre); (case tre => assumption); (case tra => walk_at "tr"))
  | ((with_reducible refine' Tape.ext (T := T) (H := ?trH) ?tra ?tre); (case tre => assumption); (case tra => walk_at "tr"))
  | ((with_reducible refine' lst.x (T := T) (H := ?trH) ?tra ?tre); (case tre => assumption); (case tra => walk_at "tr"))
  | ((with_reducible refine' lst.y (T := T) (H := ?trH) ?tra ?tre ?trn); (case tre => assumption); (case trn => walk_at "tr"); (case tra => walk_at "tr"))
  | ((with_reducible refine' tup.x (T := T) (H := ?trH) ?tra ?tre); (case tre => assumption); (case tra => walk_at "tr"))
  | ((with_reducible refine' tup.y (T := T) (H := ?trH) ?tra ?tre ?trt); (case tre => assumption); (case trt => walk_at "tr"); (case tra => walk_at "tr"))
  | ((with_reducible refine' frz.x (T := T) (H := ?trH) ?tra ?tre); (case tre => assumption); (case tra => walk_at "tr"))
  | ((with_reducible refine' frz.y (T := T) (H := ?trH) ?tra ?tre ?trt); (case tre => assumption); (case trt => walk_at "tr"); (case tra => walk_at "tr"))
  | ((with_reducible refine' Im.z (T := T) (H := ?trH) ?tra ?tre ?trt); (case tre => assumption); (case trt => assumption); (case tra => walk_at "tr"))
  | ((with_reducible refine' ImAll.z (T := T) (H := ?trH) ?tra ?tre ?trt); (case tre => assumption); (case trt => assumption); (case tra => walk_at "tr"))
  | ((with_reducible refine' StAt.z (T := T) (H := ?trH) ?tra ?tre ?trt); (case tre => assumption); (case trt => assumption); (case tra => walk_at "tr"))
  | ((with_reducible refine' SqP.z (T := T) (H := ?trH) ?tra ?tre ?trt); (case tre => assumption); (case trt => assumption); (case tra => walk_at "tr"))
  | ((with_reducible refine' tup.z (T := T) (H := ?trH) ?tra ?tre ?trt); (case tre => assumption); (case trt => assumption); (case tra => walk_at "tr"))
  | ((with_reducible refine' Ls.z (T := T) (H := ?trH) ?tra ?tre ?trt ?trn); (case tre => assumption); (case trt => assumption); (case trn => assumption); (case tra => walk_at "tr"))
  | ((with_reducible refine' lst.z (T := T) (H := ?trH) ?tra ?tre ?trn); (case tre => assumption); (case trn => assumption); (case tra => walk_at "tr"))
  | ((with_reducible refine' CL.z (T := T) (H := ?trH) ?tra ?tre ?trn); (case tre => assumption); (case trn => assumption); (case tra => walk_at "tr"))
  | ((with_reducible refine' Tape.ne1 (H := ?trH) ?trt ?trn); (case trn => assumption); (case trt => walk_at "tr"))
  | ((with_reducible refine' Ext.trans (H1 := ?trH) ?tra (Ext.any ?tre)); (case tre => assumption); (case tra => walk_at "tr"))
  | ((with_reducible refine' Ext.trans (H1 := ?trH) ?tra ?tre); (case tre => assumption); (case tra => walk_at "tr"))
  | ((with_reducible refine' Ext.back1 (T := T) (H1 := ?trH) ?tre ?trn ?tra); (case tra => assumption); (case trn => walk_at "tr"); (case tre => walk_at "tr"))
  | ((with_reducible refine' Ext.back0 (T := T) (H1 := ?trH) ?tre ?tra); (case tra => assumption); (case tre => walk_at "tr"))
  | ((with_reducible refine' SqT.of ?tra); (case tra => walk_at "tr"))
  | ((with_reducible refine' SqL.of ?tra); (case tra => walk_at "tr")))

/-- the words of the right lines -/
def kdW : Kd → List (List Str)
  | .tb => [[Str.ofString "wait", Str.ofString "2", Str.ofString "1", Str.ofString "30"],
  [Str.ofString "wait", Str.ofString "0", Str.ofString "0", Str.ofString "0"],
  [Str.ofString "wait", Str.ofString "99999", Str.ofString "1", Str.ofString "2"]]
  | .pl => [[Str.ofString "at", Str.ofString "5", Str.ofString "put", Str.ofString "keys", Str.ofString ".", Str.ofString "=", Str.ofString "a,b2", Str.ofString "life", Str.ofString "5", Str.ofString "by", Str.ofString "-", Str.ofString "from", Str.ofString "0", Str.ofString "to", Str.ofString "90"],
  [Str.ofString "at", Str.ofString "7", Str.ofString "on", Str.ofString "s1", Str.ofString "land"],
  [Str.ofString "at", Str.ofString "0", Str.ofString "off", Str.ofString "s1", Str.ofString "shop.land"],
  [Str.ofString "at", Str.ofString "3", Str.ofString "put", Str.ofString "hosts", Str.ofString "land", Str.ofString "=", Str.ofString "-", Str.ofString "life", Str.ofString "1"]]
  | .hi => [[Str.ofString "go", Str.ofString "5"],
  [Str.ofString "fill", Str.ofString "set", Str.ofString "www.land", Str.ofString "a", Str.ofString "3", Str.ofString "0", Str.ofString "99999"],
  [Str.ofString "ask", Str.ofString ".", Str.ofString "a"],
  [Str.ofString "drop", Str.ofString "hosts", Str.ofString "x"],
  [Str.ofString "plant", Str.ofString "link", Str.ofString "x", Str.ofString "=", Str.ofString "a,b2", Str.ofString "life", Str.ofString "5", Str.ofString "by", Str.ofString "-", Str.ofString "from", Str.ofString "0", Str.ofString "to", Str.ofString "90"],
  [Str.ofString "lose", Str.ofString ".", Str.ofString "k1"],
  [Str.ofString "fill", Str.ofString "keys", Str.ofString "."]]
def grW : List (List (List Str)) := [[[Str.ofString "zone", Str.ofString ".", Str.ofString "lag", Str.ofString "5"],
  [Str.ofString "zone", Str.ofString "a.b", Str.ofString "lag", Str.ofString "0"]],
  [[Str.ofString "anchor", Str.ofString "k1"]],
  [[Str.ofString "set", Str.ofString ".", Str.ofString "a"],
  [Str.ofString "set", Str.ofString "a.b", Str.ofString "k9"]],
  [[Str.ofString "keys", Str.ofString ".", Str.ofString "=", Str.ofString "a,b2", Str.ofString "life", Str.ofString "5", Str.ofString "by", Str.ofString "k", Str.ofString "from", Str.ofString "0", Str.ofString "to", Str.ofString "90"],
  [Str.ofString "set", Str.ofString "a.b", Str.ofString "k9", Str.ofString "=", Str.ofString "a,b2", Str.ofString "life", Str.ofString "5", Str.ofString "by", Str.ofString "k", Str.ofString "from", Str.ofString "0", Str.ofString "to", Str.ofString "90"],
  [Str.ofString "hosts", Str.ofString "b", Str.ofString "=", Str.ofString "s", Str.ofString "life", Str.ofString "7"]],
  [[Str.ofString "on", Str.ofString "s1", Str.ofString "b"]],
  [[Str.ofString "deed", Str.ofString "1", Str.ofString "5", Str.ofString "put", Str.ofString "link", Str.ofString "b", Str.ofString "=", Str.ofString "a,b2", Str.ofString "life", Str.ofString "5", Str.ofString "by", Str.ofString "k", Str.ofString "from", Str.ofString "0", Str.ofString "to", Str.ofString "90"],
  [Str.ofString "deed", Str.ofString "0", Str.ofString "0", Str.ofString "on", Str.ofString "s1", Str.ofString "b"]],
  [[Str.ofString "before", Str.ofString "1", Str.ofString "2"]],
  [[Str.ofString "end", Str.ofString "40"],
  [Str.ofString "end", Str.ofString "3"]]]
def allW : List (List Str) := kdW .tb ++ (kdW .pl ++ (kdW .hi ++ grW.flatten))
def extW (ws : List Str) : List Str := [Str.ofString "", ws.headD Str.empty ++ Str.ofString "s", Txt.upper (ws.headD Str.empty), Str.ofString "A", Str.ofString "1", Str.ofString "abcde"] ++ bads.map (· ++ Str.ofString "...")
/-- the words of the spoilt lines -/
def muts (ws : List Str) : List (List Str) := [[Str.ofString ""], Str.ofString "" :: ws, ws ++ [Str.ofString ""], ws.headD Str.empty :: Str.ofString "" :: ws.drop 1, (ws.headD Str.empty ++ Str.ofString "s") :: ws.drop 1, [ws.headD Str.empty], ws ++ [Str.ofString "A"], Txt.upper (ws.headD Str.empty) :: ws.drop 1, ws ++ [Str.ofString "1", Str.ofString "abcde"]] ++
  bads.flatMap fun b => (List.range (ws.length - 1)).map fun a => (ws.take (1 + a) ++ [b ++ Str.ofString "..."]) ++ ws.drop (1 + a + 1)
def okW (w : Str) : Bool := decide (w.length ≤ 40) && (sg w).all fun c => decide (c < 128) && (decide (c ≠ 32) && decide (c ≠ 10))
def okWs (ws : List Str) : Bool := decide (2 ≤ ws.length) && (decide (ws.length ≤ 17) && (ws.all okW && (extW ws).all okW))
theorem okWs_all : allW.all okWs = true := by decide +kernel
/-- of a line and its words: two ways to spoil it that are not plain -/
def chkT (z : Str) (ws : List Str) : Bool := decide (z = jn 32 ws) && (decide (repl1 z (Str.ofString " ") (Str.ofString "  ") = jn 32 (ws.headD Str.empty :: Str.ofString "" :: ws.drop 1)) && decide (Txt.upper (ws.headD Str.empty) ++ cutS z (some ((ws.headD Str.empty).length : Int)) none = jn 32 (Txt.upper (ws.headD Str.empty) :: ws.drop 1)))
def chkTs : List Str → List (List Str) → Bool
  | [], [] => true
  | z :: r, ws :: s => chkT z ws && chkTs r s
  | _, _ => false
theorem tab_tb : chkTs (kdL .tb) (kdW .tb) = true := by decide +kernel
theorem tab_pl : chkTs (kdL .pl) (kdW .pl) = true := by decide +kernel
theorem tab_hi : chkTs (kdL .hi) (kdW .hi) = true := by decide +kernel
/-- the lines of the groups, the end's other form too -/
def grM : List (List Str) := (grL.take 7) ++ [[Str.ofString "end 40", end3]]
theorem tab_gr : (List.range 8).all (fun g => chkTs (grM.getD g []) (grW.getD g [])) = true := by decide +kernel
def chkF (F : List Str → Bool) (ws : List Str) : Bool := F ws && (muts ws).all fun m => !F m
theorem chk_tb : (kdW .tb).all (chkF waitF) = true := by decide +kernel
theorem chk_pl : (kdW .pl).all (chkF stepF) = true := by decide +kernel
theorem chk_hi : (kdW .hi).all (chkF eventF) = true := by decide +kernel
def chkC (g : Nat) (ws : List Str) : Bool := (caseF ws == some g) && (muts ws).all fun m => (caseF m).isNone
theorem chk_gr : (List.range 8).all (fun g => (grW.getD g []).all (chkC g)) = true := by decide +kernel
end

open PySem PySem.Spec PyProof.Rows L2
open PySem.W (EachIs)
section
variable {T : List (Addr × Str)} {P : Program} {w : World} {K : PySem.W.Frag} {mg : Str → Option Value} {base : Heap} {NF : Addr}
local macro_rules | `(tactic| walk_at "tr") => `(tactic| first
  | assumption
  | exact Ext.refl
  | ((with_reducible refine' Im.x (T := T) (H := ?trH) ?tra ?tre); (case tre => assumption); (case tra => walk_at "tr"))
  | ((with_reducible refine' Im.y (T := T) (H := ?trH) ?tra ?tre ?trt); (case tre => assumption); (case trt => walk_at "tr"); (case tra => walk_at "tr"))
  | ((with_reducible refine' ImAll.x (T := T) (H := ?trH) ?tra ?tre); (case tre => assumption); (case tra => walk_at "tr"))
  | ((with_reducible refine' ImAll.y (T := T) (H := ?trH) ?tra ?tre ?trt); (case tre => assumption); (case trt => walk_at "tr"); (case tra => walk_at "tr"))
  | ((with_reducible refine' Ls.x (T := T) (H := ?trH) ?tra ?tre); (case tre => assumption); (case tra => walk_at "tr"))
  | ((with_reducible refine' Ls.y (T := T) (H := ?trH) ?tra ?tre ?trn ?trt); (case tre => assumption); (case trt => walk_at "tr"); (case trn => walk_at "tr"); (case tra => walk_at "tr"))
  | ((with_reducible refine' SqP.x (T := T) (H := ?trH) ?tra ?tre); (case tre => assumption); (case tra => walk_at "tr"))
  | ((with_reducible refine' SqP.y (T := T) (H := ?trH) ?tra ?tre ?trt); (case tre => assumption); (case trt => walk_at "tr"); (case tra => walk_at "tr"))
  | ((with_reducible refine' StAt.x (T := T) (H := ?trH) ?tra ?tre); (case tre => assumption); (case tra => walk_at "tr"))
  | ((with_reducible refine' StAt.y (T := T) (H := ?trH) ?tra ?tre ?trt); (case tre => assumption); (case trt => walk_at "tr"); (case tra => walk_at "tr"))
  | ((with_reducible refine' Pools.ext0 (T := T) (H := ?trH) ?tra ?tre); (case tre => assumption); (case tra => walk_at "tr"))
  | ((with_reducible refine' Pools.ext (T := T) (H := ?trH) ?tra ?tre ?trt); (case tre => assumption); (case trt => walk_at "tr"); (case tra => walk_at "tr"))
  | ((with_reducible refine' CL.x (T := T) (H := ?trH) ?tra ?tre); (case tre => assumption); (case tra => walk_at "tr"))
  | ((with_reducible refine' CL.y (T := T) (H := ?trH) ?tra ?tre); (case tre => assumption); (case tra => walk_at "tr"))
  | ((with_reducible refine' Tape.ext (T := T) (H := ?trH) ?tra ?tre); (case tre => assumption); (case tra => walk_at "tr"))
  | ((with_reducible refine' lst.x (T := T) (H := ?trH) ?tra ?tre); (case tre => assumption); (case tra => walk_at "tr"))
  | ((with_reducible refine' lst.y (T := T) (H := ?trH) ?tra ?tre ?trn); (case tre => assumption); (case trn => walk_at "tr"); (case tra => walk_at "tr"))
  | ((with_reducible refine' tup.x (T := T) (H := ?trH) ?tra ?tre); (case tre => assumption); (case tra => walk_at "tr"))
  | ((with_reducible refine' tup.y (T := T) (H := ?trH) ?tra ?tre ?trt); (case tre => assumption); (case trt => walk_at "tr"); (case tra => walk_at "tr"))
  | ((with_reducible refine' frz.x (T := T) (H := ?trH) ?tra ?tre); (case tre => assumption); (case tra => walk_at "tr"))
  | ((with_reducible refine' frz.y (T := T) (H := ?trH) ?tra ?tre ?trt); (case tre => assumption); (case trt => walk_at "tr"); (case tra => walk_at "tr"))
  | ((with_reducible refine' Im.z (T := T) (H := ?trH) ?tra ?tre ?trt); (case tre => assumption); (case trt => assumption); (case tra => walk_at "tr"))
  | ((with_reducible refine' ImAll.z (T := T) (H := ?trH) ?tra ?tre ?trt); (case tre => assumption); (case trt => assumption); (case tra => walk_at "tr"))
  | ((with_reducible refine' StAt.z (T := T) (H := ?trH) ?tra ?tre ?trt); (case tre => assumption); (case trt => assumption); (case tra => walk_at "tr"))
  | ((with_reducible refine' SqP.z (T := T) (H := ?trH) ?tra ?tre ?trt); (case tre => assumption); (case trt => assumption); (case tra => walk_at "tr"))
  | ((with_reducible refine' tup.z (T := T) (H := ?trH) ?tra ?tre ?trt); (case tre => assumption); (case trt => assumption); (case tra => walk_at "tr"))
  | ((with_reducible refine' Ls.z (T := T) (H := ?trH) ?tra ?tre ?trt ?trn); (case tre => assumption); (case trt => assumption); (case trn => assumption); (case tra => walk_at "tr"))
  | ((with_reducible refine' lst.z (T := T) (H := ?trH) ?tra ?tre ?trn); (case tre => assumption); (case trn => assumption); (case tra => walk_at "tr"))
  | ((with_reducible refine' CL.z (T := T) (H := ?trH) ?tra ?tre ?trn); (case tre => assumption); (case trn => assumption); (case tra => walk_at "tr"))
  | ((with_reducible refine' Tape.ne1 (H := ?trH) ?trt ?trn); (case trn => assumption); (case trt => walk_at "tr"))
  | ((with_reducible refine' Ext.trans (H1 := ?trH) ?tra (Ext.any ?tre)); (case tre => assumption); (case tra => walk_at "tr"))
  | ((with_reducible refine' Ext.trans (H1 := ?trH) ?tra ?tre); (case tre => assumption); (case tra => walk_at "tr"))
  | ((with_reducible refine' Ext.back1 (T := T) (H1 := ?trH) ?tre ?trn ?tra); (case tra => assumption); (case trn => walk_at "tr"); (case tre => walk_at "tr"))
  | ((with_reducible refine' Ext.back0 (T := T) (H1 := ?trH) ?tre ?tra); (case tra => assumption); (case tre => walk_at "tr"))
  | ((with_reducible refine' SqT.of ?tra); (case tra => walk_at "tr"))
  | ((with_reducible refine' SqL.of ?tra); (case tra => walk_at "tr")))

structure WOk (w : Str) : Prop where
  len : w.length ≤ 60
  pl : ∀ c ∈ sg w, c < 128
  sp : Fr 32 w
  nl : Fr 10 w
theorem wOk_of {w : Str} (h : okW w = true) : WOk w := by
  unfold okW at h
  rw [Bool.and_eq_true, decide_eq_true_eq, List.all_eq_true] at h
  have e : ∀ c ∈ sg w, c < 128 ∧ c ≠ 32 ∧ c ≠ 10 := fun c hc => by
    have := h.2 c hc
    rw [Bool.and_eq_true, Bool.and_eq_true, decide_eq_true_eq, decide_eq_true_eq, decide_eq_true_eq] at this
    exact this
  exact ⟨Nat.le_trans h.1 (by decide), fun c hc => (e c hc).1, fun hc => (e _ hc).2.1 rfl, fun hc => (e _ hc).2.2 rfl⟩
structure YOk (y : Str) : Prop where
  ws : WsOk (wsL y)
  ne : wsL y ≠ []
  nl : Fr 10 y
  len : y.length ≤ 1500
  ok : PyData.strOk y = true
/-- a line of good words -/
theorem yOk_jn {m : List Str} (hne : m ≠ []) (hl : m.length ≤ 20) (h : ∀ w ∈ m, WOk w) : wsL (jn 32 m) = m ∧ YOk (jn 32 m) := by
  have e : wsL (jn 32 m) = m := split_jn (d := Str.ofString " ") (by decide +kernel) (by decide +kernel) hne fun w hw => (h w hw).sp
  refine ⟨e, ⟨?_, ?_, jn_fr (by decide) fun w hw => (h w hw).nl, ?_, plain_ok fun c hc => ?_⟩⟩
  · rw [e]
    exact ⟨fun w hw => ⟨Nat.le_trans (h w hw).len (by decide), plain_ok (h w hw).pl⟩, by omega⟩
  · rw [e]
    exact hne
  · have := jn_len 32 m
    have := sum_le40 (ls := m) fun w hw => (h w hw).len
    omega
  · rw [sg_jn] at hc
    rcases joinL_mem hc with e | ⟨p, hp, hc⟩
    · rw [e]
      decide
    · obtain ⟨w, hw, rfl⟩ := List.mem_map.mp hp
      exact (h w hw).pl c hc
theorem chkTs_get : ∀ {zs : List Str} {wss : List (List Str)}, chkTs zs wss = true → ∀ z ∈ zs, ∃ ws ∈ wss, chkT z ws = true
  | [], _, _, z, hz => nomatch hz
  | x :: r, [], h, z, hz => by cases h
  | x :: r, ws :: s, h, z, hz => by
    have h : (chkT x ws && chkTs r s) = true := h
    rw [Bool.and_eq_true] at h
    rcases List.mem_cons.mp hz with rfl | hz
    · exact ⟨ws, List.mem_cons_self, h.1⟩
    · obtain ⟨w, hw, e⟩ := chkTs_get h.2 z hz
      exact ⟨w, List.mem_cons_of_mem _ hw, e⟩
theorem okWs_of {ws : List Str} (h : ws ∈ allW) : 2 ≤ ws.length ∧ ws.length ≤ 17 ∧ (∀ w ∈ ws, WOk w) ∧ ∀ w ∈ extW ws, WOk w := by
  have e := List.all_eq_true.mp okWs_all ws h
  unfold okWs at e
  rw [Bool.and_eq_true, Bool.and_eq_true, Bool.and_eq_true, decide_eq_true_eq, decide_eq_true_eq, List.all_eq_true, List.all_eq_true] at e
  exact ⟨e.1, e.2.1, fun w hw => wOk_of (e.2.2.1 w hw), fun w hw => wOk_of (e.2.2.2 w hw)⟩
/-- the words of a spoilt line are good -/
theorem muts_ok {ws m : List Str} (h : ws ∈ allW) (hm : m ∈ muts ws) : m ≠ [] ∧ m.length ≤ 20 ∧ ∀ w ∈ m, WOk w := by
  obtain ⟨h1, h2, h3, h4⟩ := okWs_of h
  obtain ⟨x, y, r, rfl⟩ : ∃ x y r, ws = x :: y :: r := by
    match ws, h1 with
    | x :: y :: r, _ => exact ⟨x, y, r, rfl⟩
  have hr : ∀ w ∈ y :: r, WOk w := fun w hw => h3 w (List.mem_cons_of_mem _ hw)
  have hx : WOk x := h3 x List.mem_cons_self
  have k1 : WOk (Str.ofString "") := h4 _ (by simp [extW])
  have k2 : WOk (x ++ Str.ofString "s") := h4 _ (by simp [extW])
  have k3 : WOk (Txt.upper x) := h4 _ (by simp [extW])
  have k4 : WOk (Str.ofString "A") := h4 _ (by simp [extW])
  have k5 : WOk (Str.ofString "1") := h4 _ (by simp [extW])
  have k6 : WOk (Str.ofString "abcde") := h4 _ (by simp [extW])
  have k7 : ∀ b ∈ bads, WOk (b ++ Str.ofString "...") := fun b hb => h4 _ (List.mem_append_right _ (List.mem_map_of_mem hb))
  simp only [List.length_cons] at h2
  rcases List.mem_append.mp hm with hm | hm
  · simp only [List.mem_cons, List.not_mem_nil, or_false, List.headD_cons, List.drop_succ_cons, List.drop_zero] at hm
    rcases hm with rfl | rfl | rfl | rfl | rfl | rfl | rfl | rfl | rfl
    · exact ⟨by simp, by decide, fun w hw => by rw [List.mem_singleton.mp hw]; exact k1⟩
    · exact ⟨by simp, by simp only [List.length_cons]; omega, fun w hw => (List.mem_cons.mp hw).elim (fun e => e ▸ k1) (h3 w)⟩
    · exact ⟨by simp, by simp only [List.length_append, List.length_cons, List.length_nil]; omega, fun w hw => (List.mem_append.mp hw).elim (h3 w) fun e => by rw [List.mem_singleton.mp e]; exact k1⟩
    · exact ⟨by simp, by simp only [List.length_cons]; omega, fun w hw => (List.mem_cons.mp hw).elim (fun e => e ▸ hx) fun hw => (List.mem_cons.mp hw).elim (fun e => e ▸ k1) (hr w)⟩
    · exact ⟨by simp, by simp only [List.length_cons]; omega, fun w hw => (List.mem_cons.mp hw).elim (fun e => e ▸ k2) (hr w)⟩
    · exact ⟨by simp, by simp, fun w hw => by rw [List.mem_singleton.mp hw]; exact hx⟩
    · exact ⟨by simp, by simp only [List.length_append, List.length_cons, List.length_nil]; omega, fun w hw => (List.mem_append.mp hw).elim (h3 w) fun e => by rw [List.mem_singleton.mp e]; exact k4⟩
    · exact ⟨by simp, by simp only [List.length_cons]; omega, fun w hw => (List.mem_cons.mp hw).elim (fun e => e ▸ k3) (hr w)⟩
    · refine ⟨by simp, by simp only [List.length_append, List.length_cons, List.length_nil]; omega, fun w hw => (List.mem_append.mp hw).elim (h3 w) fun e => ?_⟩
      rcases List.mem_cons.mp e with rfl | e
      · exact k5
      · rw [List.mem_singleton.mp e]
        exact k6
  · obtain ⟨b, hb, hm⟩ := List.mem_flatMap.mp hm
    obtain ⟨a, ha, rfl⟩ := List.mem_map.mp hm
    have ha := List.mem_range.mp ha
    simp only [List.length_cons] at ha
    refine ⟨by simp, ?_, fun w hw => ?_⟩
    · rw [List.length_append, List.length_append, List.length_take, List.length_drop]
      simp only [List.length_cons, List.length_nil]
      omega
    · rcases List.mem_append.mp hw with hw | hw
      · rcases List.mem_append.mp hw with hw | hw
        · exact h3 w (List.mem_of_mem_take hw)
        · rw [List.mem_singleton.mp hw]
          exact k7 b hb
      · exact h3 w (List.mem_of_mem_drop hw)
/-- the spoilt lines are those of the spoilt words -/
theorem spo_mut {z : Str} {ws : List Str} (h : ws ∈ allW) (ht : chkT z ws = true) : wsL z = ws ∧ YOk z ∧ ∀ y ∈ spoL z, ∃ m ∈ muts ws, y = jn 32 m := by
  obtain ⟨h1, h2, h3, h4⟩ := okWs_of h
  unfold chkT at ht
  rw [Bool.and_eq_true, Bool.and_eq_true, decide_eq_true_eq, decide_eq_true_eq, decide_eq_true_eq] at ht
  obtain ⟨t1, t2, t3⟩ := ht
  have hne : ws ≠ [] := fun e => by rw [e] at h1; exact absurd h1 (by decide)
  obtain ⟨e1, e2⟩ := yOk_jn hne (by omega) h3
  rw [← t1] at e1 e2
  refine ⟨e1, e2, fun y hy => ?_⟩
  have hd : ws.drop 1 ≠ [] := fun e => by
    have := congrArg List.length e
    rw [List.length_drop] at this
    simp only [List.length_nil] at this
    omega
  have sp : Str.ofString " " = S [32] := sg_inj (by decide +kernel)
  have j2 : ∀ m, Txt.join (Str.ofString " ") m = jn 32 m := join_jn (by decide +kernel)
  have em0 : ∀ m ∈ [[Str.ofString ""], Str.ofString "" :: ws, ws ++ [Str.ofString ""], ws.headD Str.empty :: Str.ofString "" :: ws.drop 1, (ws.headD Str.empty ++ Str.ofString "s") :: ws.drop 1, [ws.headD Str.empty], ws ++ [Str.ofString "A"], Txt.upper (ws.headD Str.empty) :: ws.drop 1, ws ++ [Str.ofString "1", Str.ofString "abcde"]], m ∈ muts ws := fun m hm => List.mem_append_left _ hm
  rcases List.mem_append.mp hy with hy | hy
  · obtain ⟨i, hi, rfl⟩ := List.mem_map.mp hy
    have hi := List.mem_range.mp hi
    match i, hi with
    | 0, _ => exact ⟨[Str.ofString ""], em0 _ List.mem_cons_self, (jn_one _ _).symm⟩
    | 1, _ =>
      refine ⟨_, em0 (Str.ofString "" :: ws) (by simp), ?_⟩
      rw [jn_cons 32 _ hne, ← t1]
      show Str.ofString " " ++ z = _
      rw [sp]
      exact sg_inj (by simp only [sg_app]; rw [show sg (Str.ofString "") = [] from by decide +kernel]; simp)
    | 2, _ =>
      refine ⟨_, em0 (ws ++ [Str.ofString ""]) (by simp), ?_⟩
      rw [jn_app 32 hne (by simp), ← t1, jn_one]
      show z ++ Str.ofString " " = _
      rw [sp]
      exact sg_inj (by simp only [sg_app]; rw [show sg (Str.ofString "") = [] from by decide +kernel]; simp)
    | 3, _ => exact ⟨_, em0 (ws.headD Str.empty :: Str.ofString "" :: ws.drop 1) (by simp), t2⟩
    | 4, _ =>
      refine ⟨_, em0 ((ws.headD Str.empty ++ Str.ofString "s") :: ws.drop 1) (by simp), ?_⟩
      show (w0 z ++ Str.ofString "s ") ++ Txt.join (Str.ofString " ") ((wsL z).drop 1) = _
      unfold w0
      rw [e1, j2, jn_cons 32 _ hd]
      exact sg_inj (by simp only [sg_app]; rw [show sg (Str.ofString "s ") = sg (Str.ofString "s") ++ sg (S [32]) from by decide +kernel]; simp only [List.append_assoc])
    | 5, _ =>
      refine ⟨_, em0 [ws.headD Str.empty] (by simp), ?_⟩
      show w0 z = _
      unfold w0
      rw [e1, jn_one]
    | 6, _ =>
      refine ⟨_, em0 (ws ++ [Str.ofString "A"]) (by simp), ?_⟩
      rw [jn_app 32 hne (by simp), ← t1, jn_one]
      show z ++ Str.ofString " A" = _
      exact sg_inj (by simp only [sg_app]; rw [show sg (Str.ofString " A") = sg (S [32]) ++ sg (Str.ofString "A") from by decide +kernel])
    | 7, _ =>
      refine ⟨_, em0 (Txt.upper (ws.headD Str.empty) :: ws.drop 1) (by simp), ?_⟩
      show Txt.upper (w0 z) ++ cutS z (some ((w0 z).length : Int)) none = _
      unfold w0
      rw [e1]
      exact t3
    | 8, _ =>
      refine ⟨_, em0 (ws ++ [Str.ofString "1", Str.ofString "abcde"]) (by simp), ?_⟩
      rw [jn_app 32 hne (by simp), ← t1, jn_cons 32 _ (by simp), jn_one]
      show z ++ Str.ofString " 1 abcde" = _
      exact sg_inj (by simp only [sg_app]; rw [show sg (Str.ofString " 1 abcde") = sg (S [32]) ++ (sg (Str.ofString "1") ++ (sg (S [32]) ++ sg (Str.ofString "abcde"))) from by decide +kernel])
  · obtain ⟨b, hb, hy⟩ := List.mem_flatMap.mp hy
    obtain ⟨a, ha, rfl⟩ := List.mem_map.mp hy
    rw [e1] at ha
    refine ⟨_, List.mem_append_right _ (List.mem_flatMap.mpr ⟨b, hb, List.mem_map.mpr ⟨a, ha, rfl⟩⟩), ?_⟩
    unfold spo9
    rw [e1, j2]
theorem kdW_all {k : Kd} {ws : List Str} (h : ws ∈ kdW k) : ws ∈ allW := by
  unfold allW
  cases k with
  | tb => exact List.mem_append_left _ h
  | pl => exact List.mem_append_right _ (List.mem_append_left _ h)
  | hi => exact List.mem_append_right _ (List.mem_append_right _ (List.mem_append_left _ h))
theorem kd_line {k : Kd} {z : Str} (h : z ∈ kdL k) : (kdF k (wsL z) = true ∧ YOk z) ∧ ∀ y ∈ spoL z, kdF k (wsL y) = false ∧ YOk y := by
  have ht : chkTs (kdL k) (kdW k) = true := by
    cases k
    · exact tab_tb
    · exact tab_pl
    · exact tab_hi
  have hc : (kdW k).all (chkF (kdF k)) = true := by
    cases k
    · exact chk_tb
    · exact chk_pl
    · exact chk_hi
  obtain ⟨ws, hw, e⟩ := chkTs_get ht z h
  have ha := kdW_all hw
  obtain ⟨e1, e2, e3⟩ := spo_mut ha e
  have c := List.all_eq_true.mp hc ws hw
  unfold chkF at c
  rw [Bool.and_eq_true, List.all_eq_true] at c
  refine ⟨⟨by rw [e1]; exact c.1, e2⟩, fun y hy => ?_⟩
  obtain ⟨m, hm, rfl⟩ := e3 y hy
  obtain ⟨m1, m2, m3⟩ := muts_ok ha hm
  obtain ⟨g1, g2⟩ := yOk_jn m1 m2 m3
  have c2 := c.2 m hm
  rw [Bool.not_eq_true'] at c2
  exact ⟨by rw [g1]; exact c2, g2⟩
theorem kd_all {k : Kd} {z : Str} (h : z ∈ kdL k) : z ∈ allL := by
  unfold allL
  cases k with
  | tb => exact List.mem_append_left _ h
  | pl => exact List.mem_append_right _ (List.mem_append_left _ h)
  | hi => exact List.mem_append_right _ (List.mem_append_right _ (List.mem_append_left _ h))
end

open PySem PySem.Spec PyProof.Rows L2
open PySem.W (EachIs)
section
variable {T : List (Addr × Str)} {P : Program} {w : World} {K : PySem.W.Frag} {mg : Str → Option Value} {base : Heap} {NF : Addr}
local macro_rules | `(tactic| walk_at "tr") => `(tactic| first
  | assumption
  | exact Ext.refl
  | ((with_reducible refine' Im.x (T := T) (H := ?trH) ?tra ?tre); (case tre => assumption); (case tra => walk_at "tr"))
  | ((with_reducible refine' Im.y (T := T) (H := ?trH) ?tra ?tre ?trt); (case tre => assumption); (case trt => walk_at "tr"); (case tra => walk_at "tr"))
  | ((with_reducible refine' ImAll.x (T := T) (H := ?trH) ?tra ?tre); (case tre => assumption); (case tra => walk_at "tr"))
  | ((with_reducible refine' ImAll.y (T := T) (H := ?trH) ?tra ?tre ?trt); (case tre => assumption); (case trt => walk_at "tr"); (case tra => walk_at "tr"))
  | ((with_reducible refine' Ls.x (T := T) (H := ?trH) ?tra ?tre); (case tre => assumption); (case tra => walk_at "tr"))
  | ((with_reducible refine' Ls.y (T := T) (H := ?trH) ?tra ?tre ?trn ?trt); (case tre => assumption); (case trt => walk_at "tr"); (case trn => walk_at "tr"); (case tra => walk_at "tr"))
  | ((with_reducible refine' SqP.x (T := T) (H := ?trH) ?tra ?tre); (case tre => assumption); (case tra => walk_at "tr"))
  | ((with_reducible refine' SqP.y (T := T) (H := ?trH) ?tra ?tre ?trt); (case tre => assumption); (case trt => walk_at "tr"); (case tra => walk_at "tr"))
  | ((with_reducible refine' StAt.x (T := T) (H := ?trH) ?tra ?tre); (case tre => assumption); (case tra => walk_at "tr"))
  | ((with_reducible refine' StAt.y (T := T) (H := ?trH) ?tra ?tre ?trt); (case tre => assumption); (case trt => walk_at "tr"); (case tra => walk_at "tr"))
  | ((with_reducible refine' Pools.ext0 (T := T) (H := ?trH) ?tra ?tre); (case tre => assumption); (case tra => walk_at "tr"))
  | ((with_reducible refine' Pools.ext (T := T) (H := ?trH) ?tra ?tre ?trt); (case tre => assumption); (case trt => walk_at "tr"); (case tra => walk_at "tr"))
  | ((with_reducible refine' CL.x (T := T) (H := ?trH) ?tra ?tre); (case tre => assumption); (case tra => walk_at "tr"))
  | ((with_reducible refine' CL.y (T := T) (H := ?trH) ?tra ?tre); (case tre => assumption); (case tra => walk_at "tr"))
  | ((with_reducible refine' Tape.ext (T := T) (H := ?trH) ?tra ?tre); (case tre => assumption); (case tra => walk_at "tr"))
  | ((with_reducible refine' lst.x (T := T) (H := ?trH) ?tra ?tre); (case tre => assumption); (case tra => walk_at "tr"))
  | ((with_reducible refine' lst.y (T := T) (H := ?trH) ?tra ?tre ?trn); (case tre => assumption); (case trn => walk_at "tr"); (case tra => walk_at "tr"))
  | ((with_reducible refine' tup.x (T := T) (H := ?trH) ?tra ?tre); (case tre => assumption); (case tra => walk_at "tr"))
  | ((with_reducible refine' tup.y (T := T) (H := ?trH) ?tra ?tre ?trt); (case tre => assumption); (case trt => walk_at "tr"); (case tra => walk_at "tr"))
  | ((with_reducible refine' frz.x (T := T) (H := ?trH) ?tra ?tre); (case tre => assumption); (case tra => walk_at "tr"))
  | ((with_reducible refine' frz.y (T := T) (H := ?trH) ?tra ?tre ?trt); (case tre => assumption); (case trt => walk_at "tr"); (case tra => walk_at "tr"))
  | ((with_reducible refine' Im.z (T := T) (H := ?trH) ?tra ?tre ?trt); (case tre => assumption); (case trt => assumption); (case tra => walk_at "tr"))
  | ((with_reducible refine' ImAll.z (T := T) (H := ?trH) ?tra ?tre ?trt); (case tre => assumption); (case trt => assumption); (case tra => walk_at "tr"))
  | ((with_reducible refine' StAt.z (T := T) (H := ?trH) ?tra ?tre ?trt); (case tre => assumption); (case trt => assumption); (case tra => walk_at "tr"))
  | ((with_reducible refine' SqP.z (T := T) (H := ?trH) ?tra ?tre ?trt); (case tre => assumption); (case trt => assumption); (case tra => walk_at "tr"))
  | ((with_reducible refine' tup.z (T := T) (H := ?trH) ?tra ?tre ?trt); (case tre => assumption); (case trt => assumption); (case tra => walk_at "tr"))
  | ((with_reducible refine' Ls.z (T := T) (H := ?trH) ?tra ?tre ?trt ?trn); (case tre => assumption); (case trt => assumption); (case trn => assumption); (case tra => walk_at "tr"))
  | ((with_reducible refine' lst.z (T := T) (H := ?trH) ?tra ?tre ?trn); (case tre => assumption); (case trn => assumption); (case tra => walk_at "tr"))
  | ((with_reducible refine' CL.z (T := T) (H := ?trH) ?tra ?tre ?trn); (case tre => assumption); (case trn => assumption); (case tra => walk_at "tr"))
  | ((with_reducible refine' Tape.ne1 (H := ?trH) ?trt ?trn); (case trn => assumption); (case trt => walk_at "tr"))
  | ((with_reducible refine' Ext.trans (H1 := ?trH) ?tra (Ext.any ?tre)); (case tre => assumption); (case tra => walk_at "tr"))
  | ((with_reducible refine' Ext.trans (H1 := ?trH) ?tra ?tre); (case tre => assumption); (case tra => walk_at "tr"))
  | ((with_reducible refine' Ext.back1 (T := T) (H1 := ?trH) ?tre ?trn ?tra); (case tra => assumption); (case trn => walk_at "tr"); (case tre => walk_at "tr"))
  | ((with_reducible refine' Ext.back0 (T := T) (H1 := ?trH) ?tre ?tra); (case tra => assumption); (case tre => walk_at "tr"))
  | ((with_reducible refine' SqT.of ?tra); (case tra => walk_at "tr"))
  | ((with_reducible refine' SqL.of ?tra); (case tra => walk_at "tr")))

/-! ### the text of lines -/
theorem rowsF_join {ls : List Str} (h : ∀ l ∈ ls, YOk l) (hne : ls ≠ [Str.ofString ""]) : rowsF (jn 10 ls) = ls.map wsL := by
  cases ls with
  | nil => exact if_pos (by decide +kernel)
  | cons x r =>
    have hz : jn 10 (x :: r) ≠ Str.ofString "" := fun e => by
      cases r with
      | nil =>
        rw [jn_one] at e
        exact hne (by rw [e])
      | cons y t =>
        rw [jn_cons 10 x (by simp)] at e
        have e2 := congrArg Str.length e
        rw [app_len2, app_len2, show (Str.ofString "").length = 0 from by decide +kernel, show (S [10]).length = 1 from by decide +kernel] at e2
        omega
    unfold rowsF
    rw [if_neg hz, split_jn (d := Str.ofString "\n") (by decide +kernel) (by decide +kernel) (by simp) fun w hw => (h w hw).nl]
theorem rowsF_one : rowsF (jn 10 [Str.ofString ""]) = [] := by
  rw [jn_one]
  exact if_pos rfl
theorem rowsW_join {ls : List Str} (h : ∀ l ∈ ls, YOk l) (hl : ls.length ≤ 30) : RowsW (rowsF (jn 10 ls)) := by
  by_cases hne : ls = [Str.ofString ""]
  · rw [hne, rowsF_one]
    exact ⟨by decide, fun ws hw => nomatch hw⟩
  · rw [rowsF_join h hne]
    refine ⟨by rw [List.length_map]; omega, fun ws hw => ?_⟩
    obtain ⟨l, hl2, rfl⟩ := List.mem_map.mp hw
    exact ⟨(h l hl2).ne, (h l hl2).ws⟩
theorem ys_sum : ∀ {ls : List Str}, (∀ l ∈ ls, YOk l) → (ls.map (·.length)).sum ≤ 1500 * ls.length
  | [], _ => Nat.le_refl _
  | x :: r, h => by
    have := ys_sum fun y hy => h y (List.mem_cons_of_mem _ hy)
    have := (h x List.mem_cons_self).len
    simp only [List.map_cons, List.sum_cons, List.length_cons]
    omega
theorem jn_le {ls : List Str} (h : ∀ l ∈ ls, YOk l) (hl : ls.length ≤ 30) : (jn 10 ls).length ≤ 50000 := by
  have := jn_len 10 ls
  have := ys_sum h
  omega
theorem fb_snoc {F : List Str → Bool} {ws : List Str} : ∀ (rows : List (List Str)) (k : Nat), fb F (rows ++ [ws]) k = match fb F rows k with | some j => some j | none => if F ws = true then none else some (k + rows.length)
  | [], k => rfl
  | x :: r, k => by
    have ih := fb_snoc (F := F) (ws := ws) r (k + 1)
    show (if F x = true then fb F (r ++ [ws]) (k + 1) else some k) = match (if F x = true then fb F r (k + 1) else some k) with | some j => some j | none => _
    by_cases hx : F x = true
    · rw [if_pos hx, if_pos hx, ih]
      cases fb F r (k + 1) with
      | some j => rfl
      | none =>
        show (if F ws = true then none else some (k + 1 + r.length)) = if F ws = true then none else some (k + (r.length + 1))
        rw [show k + 1 + r.length = k + (r.length + 1) by omega]
    · rw [if_neg hx, if_neg hx]
def DueOk (F : List Str → Bool) (ls : List Str) (due : Nat) : Prop := (fb F (ls.map wsL) 1 = none ∧ due = 0) ∨ (fb F (ls.map wsL) 1 = some due ∧ 0 < due)
theorem DueOk.good {F : List Str → Bool} {ls : List Str} {due : Nat} {y : Str} (h : DueOk F ls due) (hy : F (wsL y) = true) : DueOk F (ls ++ [y]) due := by
  unfold DueOk
  rw [List.map_append, show [y].map wsL = [wsL y] from rfl, fb_snoc]
  rcases h with ⟨h1, h2⟩ | ⟨h1, h2⟩
  · rw [h1]
    exact .inl ⟨if_pos hy, h2⟩
  · rw [h1]
    exact .inr ⟨rfl, h2⟩
theorem DueOk.bad {F : List Str → Bool} {ls : List Str} {due : Nat} {y : Str} (h : DueOk F ls due) (hy : F (wsL y) = false) : DueOk F (ls ++ [y]) (if due = 0 then ls.length + 1 else due) := by
  unfold DueOk
  rw [List.map_append, show [y].map wsL = [wsL y] from rfl, fb_snoc]
  rcases h with ⟨h1, h2⟩ | ⟨h1, h2⟩
  · rw [h1, if_pos h2]
    refine .inr ⟨?_, by omega⟩
    show (if F (wsL y) = true then none else some (1 + (ls.map wsL).length)) = _
    rw [if_neg (by rw [hy]; decide), List.length_map, Nat.add_comm]
  · rw [h1]
    refine .inr ⟨?_, by split <;> omega⟩
    show some due = some _
    rw [if_neg (show ¬ due = 0 by omega)]
theorem DueOk.told {F : List Str → Bool} {ls : List Str} {due : Nat} (h : DueOk F ls due) : (fb F (ls.map wsL) 1).getD 0 = due := by
  rcases h with ⟨h1, h2⟩ | ⟨h1, h2⟩
  · rw [h1, h2]
    rfl
  · rw [h1]
    rfl
def spTexts (T : List (Addr × Str)) (R : Addr → (Str → Option Nat) → Prop) : Sp := fun vs H Q _ => ∃ (l t : Addr) (k : Kd) (f : Addr), vs = [.ref t, .str (kdS k), .ref f] ∧ R f (fun z => fb (kdF k) (rowsF z) 1) ∧ Tape l H t ∧ ∀ H', Ext T [t] H H' → Tape l H' t → Q (.bl true) H'
theorem ok_law_texts {R : Addr → (Str → Option Nat) → Prop} (D : Def K mg "_law_texts" s_law_texts ["tape", "kind", "read"]) (mb : ∀ x ∈ bltns, mg x = none) (G_law_take : Ok P w K mg base 2 "_law_take" ["tape", "many"] (spTake T)) (G_law_right : Ok P w K mg base 1 "_law_right" ["kind"] (spRight T))
    (G_law_spoilt : Ok P w K mg base 3 "_law_spoilt" ["tape", "line"] (spSpoilt T)) (G_law_told : Ok P w K mg base 13 "_law_told" ["read", "text"] (spTold T R)) : Ok P w K mg base 14 "_law_texts" ["tape", "kind", "read"] (spTexts T R) := by
  refine D.ok sc_law_texts (fun vs H Q E h => ?_) (fun cdv f A outer s H vs Q E hr h => ?_)
  · obtain ⟨l, t, k, f, rfl, _⟩ := h
    rfl
  · obtain ⟨l, t, k, f0, rfl, hR, hT, q⟩ := h
    refine ⟨_, (pss_cons (ps_set (i := 3) sc_law_texts.nd rfl (.inl rfl) (pe_callO G_law_right (hr.mono (by decide)) (by rfl) (pa_cons (pv 1) pa_nil)))
   (pss_cons (ps_set (i := 4) sc_law_texts.nd rfl (.inl rfl) (pe_lst pa_nil))
   (pss_cons (ps_set (i := 5) sc_law_texts.nd rfl (.inl rfl) pe_int)
   (pss_cons (ps_for PassesOwn.never rfl (pi_range1 (by rfl) (mb _ (by decide)) (pa_cons (pe_callO G_law_take (hr.mono (by decide)) (by rfl) (pa_cons (pv 0) (pa_cons pe_int pa_nil))) pa_nil)) (pg_name (i := 6) sc_law_texts.nd rfl (.inl rfl)) (pss_cons (ps_set (i := 7) sc_law_texts.nd rfl (.inl rfl) (pe_ix (ix_U K rfl) (pv 3) (pe_callO G_law_take (hr.mono (by decide)) (by rfl) (pa_cons (pv 0) (pa_cons (pe_callB (call_lenU K rfl) (by rfl) (mb _ (by decide)) (by decide +kernel) (pa_cons (pv 3) pa_nil)) pa_nil))) (fun _ _ => rfl)))
   (pss_cons (ps_if (pt_cmpR (op_eqU K rfl hr.units) (pe_callO G_law_take (hr.mono (by decide)) (by rfl) (pa_cons (pv 0) (pa_cons pe_int pa_nil))) pe_int (nomark _)) (pss_cons (ps_set (i := 7) sc_law_texts.nd rfl (.inl rfl) (pe_callO G_law_spoilt (hr.mono (by decide)) (by rfl) (pa_cons (pv 0) (pa_cons (pv 7) pa_nil))))
   (pss_one (ps_if (pt_cmpR (op_eqU K rfl hr.units) (pv 5) pe_int (nomark _)) (pss_one (ps_set (i := 5) sc_law_texts.nd rfl (.inl rfl) (pe_op (op_plus K rfl) (pv 6) pe_int))) pss_nil))) pss_nil)
   (pss_one (ps_expr (pe_bm PySem.F.plainAttrs_list PySem.F.slot_list_append PySem.F.type_list_append mt_append (pv 4) (pa_cons (pv 7) pa_nil)))))))
   (pss_cons (ps_if (pt_cmpR (op_eqU K rfl hr.units) (pv 4) (pe_lst (pa_cons pe_str pa_nil)) (nomark _)) (pss_one (ps_set (i := 5) sc_law_texts.nd rfl (.inl rfl) pe_int)) pss_nil)
   (pss_one (ps_ret (pe_cmpR (op_eqU K rfl hr.units) (pe_callO G_law_told (hr.mono (by decide)) (by rfl) (pa_cons (pv 2) (pa_cons (pe_m1 PySem.F.slot_str_join PySem.F.type_str_join (mt_joinU K rfl) pe_str (pv 4)) pa_nil))) (pv 5) (nomark _))))))))), ?_⟩
    walk_at "rdn"
    refine rd_seq ?_
    walk_at "rdn"
    refine ⟨k, rfl, fun pr H1 x1 npr hpr => ?_⟩
    have hner : pr ≠ t := hT.ne1 npr
    have T1 := hT.ext x1
    walk_at "rdn"
    refine rd_seq ?_
    walk_at "rd"
    refine ⟨by walk_at "sz", fun pl npl => ?_⟩
    have hnel : pl ≠ t := T1.ne1 (.of npl)
    have nen := T1.ne (.of npl)
    obtain ⟨npl, x2, hpl⟩ := alL (T := T) npl ([] : List V)
    have hprl : pr ≠ pl := fun z => npl.lst hpr z
    have hpr := lst.x hpr x2
    have T2 := T1.ext x2
    have e2 : Ext T [t] H (upd H1 pl _) := (x1.trans x2).any
    have nplH : Nw H pl := (x1.any (ms := [])).back (by simp) npl
    generalize upd H1 pl _ = H2 at x2 hpr hpl T2 e2 ⊢
    clear x1 x2 T1 npl
    walk_at "rdn"
    refine rd_seq ?_
    walk_at "rdn"
    refine rd_seq ?_
    walk_at "rd"
    refine ⟨l, t, 6, rfl, by decide, by decide, T2, fun m H3 b0 b1 e3 T3 => ?_⟩
    obtain ⟨m, rfl⟩ := Int.eq_ofNat_of_zero_le b0
    have hpr := e3.lst (show pr ∉ [t] by simpa using hner) hpr
    have hpl := e3.lst (show pl ∉ [t] by simpa using hnel) hpl
    have e3 := e2.trans e3
    clear e2 T2
    walk_at "rd"
    refine ⟨by omega, by omega, ?_⟩
    rw [Int.toNat_natCast]
    refine forg_range (fun i σ' H' => ∃ (ls : List Str) (due : Nat) (dv : Int) (x6 x7 : Option V), σ' = [some (.ref t), some (.str (kdS k)), some (.ref f0), some (.ref pr), some (.ref pl), some (.int dv), x6, x7] ∧ dv = (due : Int) ∧ Ext T [t] H H' ∧ Tape l H' t ∧ H' pr = some (.lst ((kdL k).map V.str)) ∧ H' pl = some (.lst (ls.map V.str)) ∧ ls.length = i ∧ (∀ y ∈ ls, YOk y) ∧ DueOk (kdF k) ls due)
      ⟨[], 0, 0, none, none, rfl, rfl, e3, T3, hpr, hpl, rfl, (fun y hy => nomatch hy), .inl ⟨rfl, rfl⟩⟩ (fun i σ' H' hi h => ?_) (fun σ' H' h => ?_)
    · clear hpr hpl e3 T3
      obtain ⟨ls, due, dv, x6, x7, rfl, hdv, eH, TH, hpr, hpl, hli, hys, hdue⟩ := h
      have hkl : (kdL k).length ≤ 7 := by cases k <;> decide
      have hkl1 : 1 ≤ (kdL k).length := by cases k <;> decide
      have hkm : ((kdL k).map V.str).length ≤ 7 := by rw [List.length_map]; exact hkl
      walk_at "rdn"
      refine rd_seq ?_
      walk_at "rd"
      refine ⟨l, t, _, rfl, by rw [List.length_map]; omega, by rw [List.length_map]; omega, TH, fun a H4 a0 a1 e4 T4 => ?_⟩
      obtain ⟨a, rfl⟩ := Int.eq_ofNat_of_zero_le a0
      have hpr := e4.lst (show pr ∉ [t] by simpa using hner) hpr
      have hpl := e4.lst (show pl ∉ [t] by simpa using hnel) hpl
      have e4 := eH.trans e4
      have hal : a < (kdL k).length := by
        rw [List.length_map] at a1
        omega
      have hza : ((kdL k).map V.str)[a]? = some (V.str (kdL k)[a]) := by rw [List.getElem?_map, List.getElem?_eq_getElem hal]; rfl
      refine rd_ixL (SqL.of hpr) (atI_nat hza) ?_
      have hz : (kdL k)[a] ∈ kdL k := List.getElem_mem hal
      generalize (kdL k)[a] = z at hz ⊢
      obtain ⟨⟨z1, z2⟩, z3⟩ := kd_line hz
      clear eH TH hza a1
      walk_at "rdn"
      refine rd_cut (fun σ' H' => ∃ (y : Str) (due' : Nat) (dv' : Int) (x6 : Option V), σ' = [some (.ref t), some (.str (kdS k)), some (.ref f0), some (.ref pr), some (.ref pl), some (.int dv'), x6, some (.str y)] ∧ dv' = (due' : Int) ∧ Ext T [t] H H' ∧ Tape l H' t ∧ H' pr = some (.lst ((kdL k).map V.str)) ∧ H' pl = some (.lst (ls.map V.str)) ∧ YOk y ∧ DueOk (kdF k) (ls ++ [y]) due') (fun nx' hnx => ?_) (fun σ' H' h => ?_)
      · walk_at "rd"
        refine ⟨l, t, 4, rfl, by decide, by decide, T4, fun b H5 c0 c1 e5 T5 => ?_⟩
        have hpr := e5.lst (show pr ∉ [t] by simpa using hner) hpr
        have hpl := e5.lst (show pl ∉ [t] by simpa using hnel) hpl
        have e5 := e4.trans e5
        walk_at "rd"
        refine rd_ite (fun c => ?_) (fun c => ?_)
        · walk_at "rdn"
          refine rd_seq ?_
          walk_at "rdn"
          refine ⟨l, t, z, rfl, T5, kd_all hz, fun y H6 hy e6 T6 => ?_⟩
          have hpr := e6.lst (show pr ∉ [t] by simpa using hner) hpr
          have hpl := e6.lst (show pl ∉ [t] by simpa using hnel) hpl
          have e6 := e5.trans e6
          obtain ⟨y1, y2⟩ := z3 y hy
          have hb := hdue.bad y1
          walk_at "rd"
          refine rd_ite (fun c => ?_) (fun c => ?_)
          · walk_at "rd"
            rw [if_pos (show due = 0 by omega)] at hb
            exact hnx _ _ ⟨y, ls.length + 1, _, _, rfl, by omega, e6, T6, hpr, hpl, y2, hb⟩
          · walk_at "rd"
            rw [if_neg (show ¬ due = 0 by omega)] at hb
            exact hnx _ _ ⟨y, due, dv, _, rfl, hdv, e6, T6, hpr, hpl, y2, hb⟩
        · walk_at "rd"
          exact hnx _ _ ⟨z, due, dv, _, rfl, hdv, e5, T5, hpr, hpl, z2, hdue.good z1⟩
      · obtain ⟨y, due', dv', x6, rfl, hdv', e6, T6, hpr, hpl, hy, hd'⟩ := h
        have hlm : (ls.map V.str).length ≤ 6 := by rw [List.length_map]; omega
        walk_at "rd"
        refine ⟨ls ++ [y], due', dv', _, _, rfl, hdv', e6.own nplH hpl, T6.own nen.1 nen.2, by rw [upd_ne hprl]; exact hpr, ?_, by rw [List.length_append, hli]; rfl, fun u hu => ?_, hd'⟩
        · rw [List.map_append]
          exact upd_same
        · rcases List.mem_append.mp hu with hu | hu
          · exact hys u hu
          · rw [List.mem_singleton.mp hu]
            exact hy
    · clear hpr hpl e3 T3
      obtain ⟨ls, due, dv, x6, x7, rfl, hdv, eH, TH, hpr, hpl, hli, hys, hdue⟩ := h
      have hll : ls.length ≤ 6 := by omega
      have hok := fun z hz => (hys z hz).ok
      walk_at "rdn"
      refine rd_cut (fun σ' H' => ∃ (dv' : Int) (x6 x7 : Option V), σ' = [some (.ref t), some (.str (kdS k)), some (.ref f0), some (.ref pr), some (.ref pl), some (.int dv'), x6, x7] ∧ Ext T [t] H H' ∧ Tape l H' t ∧ H' pl = some (.lst (ls.map V.str)) ∧ dv' = (((fb (kdF k) (rowsF (jn 10 ls)) 1).getD 0 : Nat) : Int)) (fun nx' hnx => ?_) (fun σ' H' h => ?_)
      · walk_at "rd"
        refine ⟨by walk_at "sz", fun p2 np2 => ?_⟩
        obtain ⟨np2, x2, hp2⟩ := alL (T := T) np2 [V.str (Str.ofString "")]
        have hpl := lst.x hpl x2
        have T7 := TH.ext x2
        have e7 := eH.trans x2.any
        generalize upd H' p2 _ = H7 at x2 hpl hp2 T7 e7 ⊢
        refine rd_eqLsG (ls_str hpl hok) (ls_str (zs := [Str.ofString ""]) hp2 (by intro z hz; rw [List.mem_singleton.mp hz]; decide +kernel)) (dep_lstr _) (dep_lstr [Str.ofString ""]) strs_eq ?_
        by_cases c : ls = [Str.ofString ""]
        · rw [decide_eq_true c]
          walk_at "rd"
          exact hnx _ _ ⟨0, _, _, rfl, e7, T7, hpl, by rw [c, rowsF_one]; rfl⟩
        · rw [decide_eq_false c]
          walk_at "rd"
          exact hnx _ _ ⟨dv, _, _, rfl, e7, T7, hpl, by rw [rowsF_join hys c, hdue.told]; exact hdv⟩
      · obtain ⟨dv', x6, x7, rfl, eH, TH, hpl, hdv'⟩ := h
        have hsum := ys_sum hys
        walk_at "rd"
        refine rd_join (SqL.of hpl) (by rw [show (Str.ofString "\n").length = 1 from by decide +kernel]; omega) ?_
        rw [join_jn (s := 10) (by decide +kernel)]
        walk_at "rd"
        refine ⟨f0, jn 10 ls, _, rfl, hR, jn_le hys (by omega), rowsW_join hys (by omega), fun H8 x8 => ?_⟩
        walk_at "rd"
        rw [decide_eq_true hdv'.symm]
        exact q _ (eH.trans x8.any) (TH.ext x8)
end

open PySem PySem.Spec PyProof.Rows L2
open PySem.W (EachIs)
section
variable {T : List (Addr × Str)} {P : Program} {w : World} {K : PySem.W.Frag} {mg : Str → Option Value} {base : Heap} {NF : Addr}
local macro_rules | `(tactic| walk_at "tr") => `(tactic| first
  | assumption
  | exact Ext.refl
  | ((with_reducible refine' Im.x (T := T) (H := ?trH) ?tra ?tre); (case tre => assumption); (case tra => walk_at "tr"))
  | ((with_reducible refine' Im.y (T := T) (H := ?trH) ?tra ?tre ?trt); (case tre => assumption); (case trt => walk_at "tr"); (case tra => walk_at "tr"))
  | ((with_reducible refine' ImAll.x (T := T) (H := ?trH) ?tra ?tre); (case tre => assumption); (case tra => walk_at "tr"))
  | ((with_reducible refine' ImAll.y (T := T) (H := ?trH) ?tra ?tre ?trt); (case tre => assumption); (case trt => walk_at "tr"); (case tra => walk_at "tr"))
  | ((with_reducible refine' Ls.x (T := T) (H := ?trH) ?tra ?tre); (case tre => assumption); (case tra => walk_at "tr"))
  | ((with_reducible refine' Ls.y (T := T) (H := ?trH) ?tra ?tre ?trn ?trt); (case tre => assumption); (case trt => walk_at "tr"); (case trn => walk_at "tr"); (case tra => walk_at "tr"))
  | ((with_reducible refine' SqP.x (T := T) (H := ?trH) ?tra ?tre); (case tre => assumption); (case tra => walk_at "tr"))
  | ((with_reducible refine' SqP.y (T := T) (H := ?trH) ?tra ?tre ?trt); (case tre => assumption); (case trt => walk_at "tr"); (case tra => walk_at "tr"))
  | ((with_reducible refine' StAt.x (T := T) (H := ?trH) ?tra ?tre); (case tre => assumption); (case tra => walk_at "tr"))
  | ((with_reducible refine' StAt.y (T := T) (H := ?trH) ?tra ?tre ?trt); (case tre => assumption); (case trt => walk_at "tr"); (case tra => walk_at "tr"))
  | ((with_reducible refine' Pools.ext0 (T := T) (H := ?trH) ?tra ?tre); (case tre => assumption); (case tra => walk_at "tr"))
  | ((with_reducible refine' Pools.ext (T := T) (H := ?trH) ?tra ?tre ?trt); (case tre => assumption); (case trt => walk_at "tr"); (case tra => walk_at "tr"))
  | ((with_reducible refine' CL.x (T := T) (H := ?trH) ?tra ?tre); (case tre => assumption); (case tra => walk_at "tr"))
  | ((with_reducible refine' CL.y (T := T) (H := ?trH) ?tra ?tre); (case tre => assumption); (case tra => walk_at "tr"))
  | ((with_reducible refine' Tape.ext (T := T) (H := ?trH) ?tra ?tre); (case tre => assumption); (case tra => walk_at "tr"))
  | ((with_reducible refine' lst.x (T := T) (H := ?trH) ?tra ?tre); (case tre => assumption); (case tra => walk_at "tr"))
  | ((with_reducible refine' lst.y (T := T) (H := ?trH) ?tra ?tre ?trn); (case tre => assumption); (case trn => walk_at "tr"); (case tra => walk_at "tr"))
  | ((with_reducible refine' tup.x (T := T) (H := ?trH) ?tra ?tre); (case tre => assumption); (case tra => walk_at "tr"))
  | ((with_reducible refine' tup.y (T := T) (H := ?trH) ?tra ?tre ?trt); (case tre => assumption); (case trt => walk_at "tr"); (case tra => walk_at "tr"))
  | ((with_reducible refine' frz.x (T := T) (H := ?trH) ?tra ?tre); (case tre => assumption); (case tra => walk_at "tr"))
  | ((with_reducible refine' frz.y (T := T) (H := ?trH) ?tra ?tre ?trt); (case tre => assumption); (case trt => walk_at "tr"); (case tra => walk_at "tr"))
  | ((with_reducible refine' Im.z (T := T) (H := ?trH) ?tra ?tre ?trt); (case tre => assumption); (case trt => assumption); (case tra => walk_at "tr"))
  | ((with_reducible refine' ImAll.z (T := T) (H := ?trH) ?tra ?tre ?trt); (case tre => assumption); (case trt => assumption); (case tra => walk_at "tr"))
  | ((with_reducible refine' StAt.z (T := T) (H := ?trH) ?tra ?tre ?trt); (case tre => assumption); (case trt => assumption); (case tra => walk_at "tr"))
  | ((with_reducible refine' SqP.z (T := T) (H := ?trH) ?tra ?tre ?trt); (case tre => assumption); (case trt => assumption); (case tra => walk_at "tr"))
  | ((with_reducible refine' tup.z (T := T) (H := ?trH) ?tra ?tre ?trt); (case tre => assumption); (case trt => assumption); (case tra => walk_at "tr"))
  | ((with_reducible refine' Ls.z (T := T) (H := ?trH) ?tra ?tre ?trt ?trn); (case tre => assumption); (case trt => assumption); (case trn => assumption); (case tra => walk_at "tr"))
  | ((with_reducible refine' lst.z (T := T) (H := ?trH) ?tra ?tre ?trn); (case tre => assumption); (case trn => assumption); (case tra => walk_at "tr"))
  | ((with_reducible refine' CL.z (T := T) (H := ?trH) ?tra ?tre ?trn); (case tre => assumption); (case trn => assumption); (case tra => walk_at "tr"))
  | ((with_reducible refine' Tape.ne1 (H := ?trH) ?trt ?trn); (case trn => assumption); (case trt => walk_at "tr"))
  | ((with_reducible refine' Ext.trans (H1 := ?trH) ?tra (Ext.any ?tre)); (case tre => assumption); (case tra => walk_at "tr"))
  | ((with_reducible refine' Ext.trans (H1 := ?trH) ?tra ?tre); (case tre => assumption); (case tra => walk_at "tr"))
  | ((with_reducible refine' Ext.back1 (T := T) (H1 := ?trH) ?tre ?trn ?tra); (case tra => assumption); (case trn => walk_at "tr"); (case tre => walk_at "tr"))
  | ((with_reducible refine' Ext.back0 (T := T) (H1 := ?trH) ?tre ?tra); (case tra => assumption); (case tre => walk_at "tr"))
  | ((with_reducible refine' SqT.of ?tra); (case tra => walk_at "tr"))
  | ((with_reducible refine' SqL.of ?tra); (case tra => walk_at "tr")))

theorem imAll_app2 {H : Hp} : ∀ {xs ys : List V} {ds es : List PyData}, ImAll H xs ds → ImAll H ys es → ImAll H (xs ++ ys) (ds ++ es)
  | _, _, _, _, .nil, h => h
  | _, _, _, _, .cons a b, h => .cons a (imAll_app2 b h)
theorem grW_all {g : Nat} {ws : List Str} (hg : g < 8) (h : ws ∈ grW.getD g []) : ws ∈ allW := by
  unfold allW
  refine List.mem_append_right _ (List.mem_append_right _ (List.mem_append_right _ (List.mem_flatten.mpr ⟨grW.getD g [], ?_, h⟩)))
  rw [List.getD_eq_getElem?_getD, List.getElem?_eq_getElem (show g < grW.length from hg)]
  exact List.getElem_mem _
theorem gr_line {g : Nat} {z : Str} (hg : g < 8) (h : z ∈ grM.getD g []) : (caseF (wsL z) = some g ∧ YOk z) ∧ ∀ y ∈ spoL z, caseF (wsL y) = none ∧ YOk y := by
  have ht := List.all_eq_true.mp tab_gr g (List.mem_range.mpr hg)
  have hc := List.all_eq_true.mp chk_gr g (List.mem_range.mpr hg)
  obtain ⟨ws, hw, e⟩ := chkTs_get ht z h
  have ha := grW_all hg hw
  obtain ⟨e1, e2, e3⟩ := spo_mut ha e
  have c := List.all_eq_true.mp hc ws hw
  unfold chkC at c
  rw [Bool.and_eq_true, List.all_eq_true, beq_iff_eq] at c
  refine ⟨⟨by rw [e1]; exact c.1, e2⟩, fun y hy => ?_⟩
  obtain ⟨m, hm, rfl⟩ := e3 y hy
  obtain ⟨m1, m2, m3⟩ := muts_ok ha hm
  obtain ⟨g1, g2⟩ := yOk_jn m1 m2 m3
  have c2 := c.2 m hm
  rw [Option.isNone_iff_eq_none] at c2
  exact ⟨by rw [g1]; exact c2, g2⟩
theorem grM_in : (List.range 8).all (fun g => (grM.getD g []).all fun z => decide (z ∈ allL)) = true := by decide +kernel
theorem gr_all {g : Nat} {z : Str} (hg : g < 8) (h : z ∈ grM.getD g []) : z ∈ allL := by
  have e := List.all_eq_true.mp (List.all_eq_true.mp grM_in g (List.mem_range.mpr hg)) z h
  exact of_decide_eq_true e
theorem grL_M : (List.range 8).all (fun g => (grL.getD g []).all fun z => decide (z ∈ grM.getD g [])) = true := by decide +kernel
theorem gr_LM {g : Nat} {z : Str} (hg : g < 8) (h : z ∈ grL.getD g []) : z ∈ grM.getD g [] := by
  have e := List.all_eq_true.mp (List.all_eq_true.mp grL_M g (List.mem_range.mpr hg)) z h
  exact of_decide_eq_true e
/-- a row of a case: its group, its line -/
def RowOk (r : Int × Str) : Prop := ∃ g : Nat, r.1 = (g : Int) ∧ g < 8 ∧ r.2 ∈ grM.getD g []
def spCL (T : List (Addr × Str)) : Sp := fun vs H Q _ => ∃ (l t : Addr), vs = [.ref t] ∧ Tape l H t ∧ ∀ p (rows : List (Int × Str)) H', (∀ r ∈ rows, RowOk r) → rows.length ≤ 8 → Ls H' p (rows.map isD) → Nw H p → Ext T [t] H H' → Tape l H' t → Q (.ref p) H'
theorem ok_law_case_lines (D : Def K mg "_law_case_lines" s_law_case_lines ["tape"]) (mb : ∀ x ∈ bltns, mg x = none) (G_law_take : Ok P w K mg base 2 "_law_take" ["tape", "many"] (spTake T)) (G_law_groups : Ok P w K mg base 1 "_law_groups" [] (spLGr T)) : Ok P w K mg base 3 "_law_case_lines" ["tape"] (spCL T) := by
  refine D.ok sc_law_case_lines (fun vs H Q E h => ?_) (fun cdv f A outer s H vs Q E hr h => ?_)
  · obtain ⟨l, t, rfl, _⟩ := h
    rfl
  · obtain ⟨l, t, rfl, hT, q⟩ := h
    refine ⟨_, (pss_cons (ps_set (i := 1) sc_law_case_lines.nd rfl (.inl rfl) (pe_call0O G_law_groups (hr.mono (by decide)) (by rfl)))
   (pss_cons (ps_set (i := 2) sc_law_case_lines.nd rfl (.inl rfl) (pe_lst pa_nil))
   (pss_cons (ps_set (i := 3) sc_law_case_lines.nd rfl (.inl rfl) pe_int)
   (pss_cons (ps_for PassesOwn.never rfl (pi_range1 (by rfl) (mb _ (by decide)) (pa_cons (pe_callO G_law_take (hr.mono (by decide)) (by rfl) (pa_cons (pv 0) (pa_cons pe_int pa_nil))) pa_nil)) (pg_name (i := 4) sc_law_case_lines.nd rfl (.inl rfl)) (pss_cons (ps_if (pt_cmpR (op_eqU K rfl hr.units) (pe_callO G_law_take (hr.mono (by decide)) (by rfl) (pa_cons (pv 0) (pa_cons pe_int pa_nil))) pe_int (nomark _)) (pss_one (ps_set (i := 3) sc_law_case_lines.nd rfl (.inl rfl) (pe_callO G_law_take (hr.mono (by decide)) (by rfl) (pa_cons (pv 0) (pa_cons pe_int pa_nil))))) (pss_one (ps_set (i := 3) sc_law_case_lines.nd rfl (.inl rfl) (pe_callB (call_min2 rfl) (by rfl) (mb _ (by decide)) (by decide +kernel) (pa_cons pe_int (pa_cons (pe_op (op_plus K rfl) (pv 3) (pe_callO G_law_take (hr.mono (by decide)) (by rfl) (pa_cons (pv 0) (pa_cons pe_int pa_nil)))) pa_nil))))))
   (pss_one (ps_expr (pe_bm PySem.F.plainAttrs_list PySem.F.slot_list_append PySem.F.type_list_append mt_append (pv 2) (pa_cons (pe_tup (pa_cons (pv 3) (pa_cons (pe_ix (ix_U K rfl) (pe_ix (ix_U K rfl) (pv 1) (pv 3) (fun _ _ => rfl)) (pe_callO G_law_take (hr.mono (by decide)) (by rfl) (pa_cons (pv 0) (pa_cons (pe_callB (call_lenU K rfl) (by rfl) (mb _ (by decide)) (by decide +kernel) (pa_cons (pe_ix (ix_U K rfl) (pv 1) (pv 3) (fun _ _ => rfl)) pa_nil)) pa_nil))) (fun _ _ => rfl)) pa_nil))) pa_nil))))))
   (pss_one (ps_ret (pv 2))))))), ?_⟩
    walk_at "rdn"
    refine rd_seq ?_
    walk_at "rdn"
    refine ⟨rfl, fun pg as H1 x1 hpg hal hgr npg nas => ?_⟩
    have hneg : pg ≠ t := hT.ne1 npg
    have hnea : ∀ a ∈ as, a ≠ t := fun a ha => hT.ne1 (nas a ha)
    have T1 := hT.ext x1
    walk_at "rdn"
    refine rd_seq ?_
    walk_at "rd"
    refine ⟨by walk_at "sz", fun pf npf => ?_⟩
    have hnef : pf ≠ t := T1.ne1 (.of npf)
    have nen := T1.ne (.of npf)
    have hpgf : pg ≠ pf := fun z => npf |> fun e => by rw [← z, hpg] at e; cases e
    obtain ⟨npf, x2, hpf⟩ := alL (T := T) npf ([] : List V)
    have npfH : Nw H pf := (x1.any (ms := [])).back (by simp) npf
    have hasf : ∀ (j : Nat) a ls, as[j]? = some a → grL[j]? = some ls → a ≠ pf := fun j a ls h1 h2 => npf.lst (hgr j a ls h1 h2)
    have hgr : ∀ (j : Nat) a ls, as[j]? = some a → grL[j]? = some ls → upd H1 pf (.lst []) a = some (.lst (ls.map V.str)) := fun j a ls h1 h2 => lst.x (hgr j a ls h1 h2) x2
    have hpg := lst.x hpg x2
    have T2 := T1.ext x2
    have e2 : Ext T [t] H (upd H1 pf _) := (x1.trans x2).any
    generalize upd H1 pf _ = H2 at x2 hpg hpf T2 e2 hgr ⊢
    clear x1 x2 T1 npf
    walk_at "rdn"
    refine rd_seq ?_
    walk_at "rdn"
    refine rd_seq ?_
    walk_at "rd"
    refine ⟨l, t, 9, rfl, by decide, by decide, T2, fun m H3 b0 b1 e3 T3 => ?_⟩
    obtain ⟨m, rfl⟩ := Int.eq_ofNat_of_zero_le b0
    have hpg := e3.lst (show pg ∉ [t] by simpa using hneg) hpg
    have hpf := e3.lst (show pf ∉ [t] by simpa using hnef) hpf
    have hgr : ∀ (j : Nat) a ls, as[j]? = some a → grL[j]? = some ls → H3 a = some (.lst (ls.map V.str)) := fun j a ls h1 h2 => e3.lst (show a ∉ [t] by simpa using hnea a (List.mem_of_getElem? h1)) (hgr j a ls h1 h2)
    have e3 := e2.trans e3
    clear e2 T2
    walk_at "rd"
    refine ⟨by omega, by omega, ?_⟩
    rw [Int.toNat_natCast]
    refine forg_range (fun i σ' H' => ∃ (rows : List (Int × Str)) (last : Nat) (x4 : Option V), σ' = [some (.ref t), some (.ref pg), some (.ref pf), some (.int (last : Int)), x4] ∧ last < 8 ∧ Ext T [t] H H' ∧ Tape l H' t ∧ H' pg = some (.lst (as.map V.ref)) ∧ (∀ (j : Nat) a ls, as[j]? = some a → grL[j]? = some ls → H' a = some (.lst (ls.map V.str))) ∧ Ls H' pf (rows.map isD) ∧ rows.length = i ∧ (∀ r ∈ rows, RowOk r))
      ⟨[], 0, none, rfl, by decide, e3, T3, hpg, hgr, ⟨[], hpf, .nil⟩, rfl, fun r hr => nomatch hr⟩ (fun i σ' H' hi h => ?_) (fun σ' H' h => ?_)
    · clear hpg hpf hgr e3 T3
      obtain ⟨rows, last, x4, rfl, hla, eH, TH, hpg, hgr, hpf, hri, hrk⟩ := h
      walk_at "rdn"
      refine rd_cut (fun σ' H' => ∃ (last : Nat) (x4 : Option V), σ' = [some (.ref t), some (.ref pg), some (.ref pf), some (.int (last : Int)), x4] ∧ last < 8 ∧ Ext T [t] H H' ∧ Tape l H' t ∧ H' pg = some (.lst (as.map V.ref)) ∧ (∀ (j : Nat) a ls, as[j]? = some a → grL[j]? = some ls → H' a = some (.lst (ls.map V.str))) ∧ Ls H' pf (rows.map isD)) (fun nx' hnx => ?_) (fun σ' H' h => ?_)
      · walk_at "rd"
        refine ⟨l, t, 6, rfl, by decide, by decide, TH, fun b H5 c0 c1 e5 T5 => ?_⟩
        have hpg := e5.lst (show pg ∉ [t] by simpa using hneg) hpg
        have hpf := hpf.y e5 (show pf ≠ t from hnef) TH
        have hgr : ∀ (j : Nat) a ls, as[j]? = some a → grL[j]? = some ls → H5 a = some (.lst (ls.map V.str)) := fun j a ls h1 h2 => e5.lst (show a ∉ [t] by simpa using hnea a (List.mem_of_getElem? h1)) (hgr j a ls h1 h2)
        have e5 := eH.trans e5
        walk_at "rd"
        refine rd_ite (fun c => ?_) (fun c => ?_)
        · walk_at "rd"
          refine ⟨l, t, 8, rfl, by decide, by decide, T5, fun d H6 d0 d1 e6 T6 => ?_⟩
          obtain ⟨d, rfl⟩ := Int.eq_ofNat_of_zero_le d0
          have hpg := e6.lst (show pg ∉ [t] by simpa using hneg) hpg
          have hpf := hpf.y e6 (show pf ≠ t from hnef) T5
          have hgr : ∀ (j : Nat) a ls, as[j]? = some a → grL[j]? = some ls → H6 a = some (.lst (ls.map V.str)) := fun j a ls h1 h2 => e6.lst (show a ∉ [t] by simpa using hnea a (List.mem_of_getElem? h1)) (hgr j a ls h1 h2)
          walk_at "rd"
          exact hnx _ _ ⟨d, _, rfl, by omega, e5.trans e6, T6, hpg, hgr, hpf⟩
        · walk_at "rd"
          refine ⟨l, t, 3, rfl, by decide, by decide, T5, fun d H6 d0 d1 e6 T6 => ?_⟩
          obtain ⟨d, rfl⟩ := Int.eq_ofNat_of_zero_le d0
          have hpg := e6.lst (show pg ∉ [t] by simpa using hneg) hpg
          have hpf := hpf.y e6 (show pf ≠ t from hnef) T5
          have hgr : ∀ (j : Nat) a ls, as[j]? = some a → grL[j]? = some ls → H6 a = some (.lst (ls.map V.str)) := fun j a ls h1 h2 => e6.lst (show a ∉ [t] by simpa using hnea a (List.mem_of_getElem? h1)) (hgr j a ls h1 h2)
          walk_at "rd"
          refine ⟨_, _, rfl, ?_⟩
          by_cases c7 : ((last : Int) + (d : Int)) < 7
          · rw [if_pos c7]
            exact hnx _ _ ⟨last + d, _, rfl, by omega, e5.trans e6, T6, hpg, hgr, hpf⟩
          · rw [if_neg c7]
            exact hnx _ _ ⟨7, _, rfl, by decide, e5.trans e6, T6, hpg, hgr, hpf⟩
      · clear eH TH hpg hgr hpf
        obtain ⟨last, x4, rfl, hla, eH, TH, hpg, hgr, ys, hpf, him⟩ := h
        have hyl : ys.length = i := by rw [him.len, List.length_map, hri]
        have hga : last < as.length := by rw [hal]; exact hla
        have hgl : last < grL.length := hla
        have hat : (as.map V.ref)[last]? = some (V.ref as[last]) := by
          rw [List.getElem?_map, List.getElem?_eq_getElem hga]
          rfl
        have ha := hgr last as[last] grL[last] (List.getElem?_eq_getElem hga) (List.getElem?_eq_getElem hgl)
        have hat_t : as[last] ≠ t := hnea _ (List.getElem_mem hga)
        have hmem : ∀ z ∈ grL[last], z ∈ grM.getD last [] := fun z hz => gr_LM hla (by rw [List.getD_eq_getElem?_getD, List.getElem?_eq_getElem hgl]; exact hz)
        have hlen : ∀ ls ∈ grL, 1 ≤ ls.length ∧ ls.length ≤ 3 := by decide
        obtain ⟨hl1, hl3⟩ := hlen _ (List.getElem_mem hgl)
        generalize as[last] = ga at hat ha hat_t
        generalize grL[last] = gs at ha hmem hl1 hl3
        have hgm : (gs.map V.str).length ≤ 3 := by rw [List.length_map]; exact hl3
        walk_at "rd"
        refine rd_ixL (SqL.of hpg) (atI_nat hat) ?_
        walk_at "rd"
        refine rd_ixL (SqL.of hpg) (atI_nat hat) ?_
        walk_at "rd"
        refine ⟨l, t, _, rfl, by rw [List.length_map]; omega, by rw [List.length_map]; omega, TH, fun b H5 c0 c1 e5 T5 => ?_⟩
        obtain ⟨b, rfl⟩ := Int.eq_ofNat_of_zero_le c0
        have hb : b < gs.length := by rw [List.length_map] at c1; omega
        have hzb : (gs.map V.str)[b]? = some (V.str gs[b]) := by rw [List.getElem?_map, List.getElem?_eq_getElem hb]; rfl
        have ha := e5.lst (show ga ∉ [t] by simpa using hat_t) ha
        have hpf := e5.lst (show pf ∉ [t] by simpa using hnef) hpf
        have hpg := e5.lst (show pg ∉ [t] by simpa using hneg) hpg
        have him := him.y e5 TH
        have hgr : ∀ (j : Nat) a ls, as[j]? = some a → grL[j]? = some ls → H5 a = some (.lst (ls.map V.str)) := fun j a ls h1 h2 => e5.lst (show a ∉ [t] by simpa using hnea a (List.mem_of_getElem? h1)) (hgr j a ls h1 h2)
        have e5 := eH.trans e5
        refine rd_ixL (SqL.of ha) (atI_nat hzb) ?_
        have hzm := hmem _ (List.getElem_mem hb)
        generalize gs[b] = z at hzm
        have hzo := (gr_line hla hzm).1.2.ok
        walk_at "rd"
        refine ⟨by walk_at "sz", fun pt npt => ?_⟩
        obtain ⟨npt, x6, hpt⟩ := alT (T := T) npt [V.int (last : Int), .str z]
        have hpf := lst.x hpf x6
        have hpg := lst.x hpg x6
        have him := him.x x6
        have hgr : ∀ (j : Nat) a ls, as[j]? = some a → grL[j]? = some ls → upd H5 pt _ a = some (.lst (ls.map V.str)) := fun j a ls h1 h2 => lst.x (hgr j a ls h1 h2) x6
        have T6 := T5.ext x6
        have e6 := e5.trans x6.any
        have hrw : Im (upd H5 pt (.tup [V.int (last : Int), .str z])) (.ref pt) (isD ((last : Int), z)) := .tup hpt (.cons (.int _) (.cons (.str _ hzo) .nil))
        generalize upd H5 pt _ = H6 at x6 hpf hpg him hgr T6 e6 hrw ⊢
        walk_at "rd"
        have eo : Ext T [pf] H6 (upd H6 pf (.lst (ys ++ [V.ref pt]))) := Ext.mut (by simp) hpf
        have lo := lsts_one hpf
        refine ⟨rows ++ [((last : Int), z)], last, _, rfl, hla, e6.own npfH hpf, T6.own nen.1 nen.2, by rw [upd_ne hpgf]; exact hpg, fun j a ls h1 h2 => by rw [upd_ne (hasf j a ls h1 h2)]; exact hgr j a ls h1 h2, ⟨ys ++ [.ref pt], upd_same, ?_⟩, by rw [List.length_append, hri]; rfl, fun r hr => ?_⟩
        · rw [List.map_append]
          exact imAll_app2 (ImAll.ext eo lo _ _ him) (.cons (Im.ext eo lo _ _ hrw) .nil)
        · rcases List.mem_append.mp hr with hr | hr
          · exact hrk r hr
          · rw [List.mem_singleton.mp hr]
            exact ⟨last, rfl, hla, hzm⟩
    · obtain ⟨rows, last, x4, rfl, hla, eH, TH, hpg, hgr, hpf, hri, hrk⟩ := h
      walk_at "rd"
      exact q pf rows _ hrk (by omega) hpf npfH eH TH
end

open PySem PySem.Spec PyProof.Rows L2
open PySem.W (EachIs)
section
variable {T : List (Addr × Str)} {P : Program} {w : World} {K : PySem.W.Frag} {mg : Str → Option Value} {base : Heap} {NF : Addr}
local macro_rules | `(tactic| walk_at "tr") => `(tactic| first
  | assumption
  | exact Ext.refl
  | ((with_reducible refine' Im.x (T := T) (H := ?trH) ?tra ?tre); (case tre => assumption); (case tra => walk_at "tr"))
  | ((with_reducible refine' Im.y (T := T) (H := ?trH) ?tra ?tre ?trt); (case tre => assumption); (case trt => walk_at "tr"); (case tra => walk_at "tr"))
  | ((with_reducible refine' ImAll.x (T := T) (H := ?trH) ?tra ?tre); (case tre => assumption); (case tra => walk_at "tr"))
  | ((with_reducible refine' ImAll.y (T := T) (H := ?trH) ?tra ?tre ?trt); (case tre => assumption); (case trt => walk_at "tr"); (case tra => walk_at "tr"))
  | ((with_reducible refine' Ls.x (T := T) (H := ?trH) ?tra ?tre); (case tre => assumption); (case tra => walk_at "tr"))
  | ((with_reducible refine' Ls.y (T := T) (H := ?trH) ?tra ?tre ?trn ?trt); (case tre => assumption); (case trt => walk_at "tr"); (case trn => walk_at "tr"); (case tra => walk_at "tr"))
  | ((with_reducible refine' SqP.x (T := T) (H := ?trH) ?tra ?tre); (case tre => assumption); (case tra => walk_at "tr"))
  | ((with_reducible refine' SqP.y (T := T) (H := ?trH) ?tra ?tre ?trt); (case tre => assumption); (case trt => walk_at "tr"); (case tra => walk_at "tr"))
  | ((with_reducible refine' StAt.x (T := T) (H := ?trH) ?tra ?tre); (case tre => assumption); (case tra => walk_at "tr"))
  | ((with_reducible refine' StAt.y (T := T) (H := ?trH) ?tra ?tre ?trt); (case tre => assumption); (case trt => walk_at "tr"); (case tra => walk_at "tr"))
  | ((with_reducible refine' Pools.ext0 (T := T) (H := ?trH) ?tra ?tre); (case tre => assumption); (case tra => walk_at "tr"))
  | ((with_reducible refine' Pools.ext (T := T) (H := ?trH) ?tra ?tre ?trt); (case tre => assumption); (case trt => walk_at "tr"); (case tra => walk_at "tr"))
  | ((with_reducible refine' CL.x (T := T) (H := ?trH) ?tra ?tre); (case tre => assumption); (case tra => walk_at "tr"))
  | ((with_reducible refine' CL.y (T := T) (H := ?trH) ?tra ?tre); (case tre => assumption); (case tra => walk_at "tr"))
  | ((with_reducible refine' Tape.ext (T := T) (H := ?trH) ?tra ?tre); (case tre => assumption); (case tra => walk_at "tr"))
  | ((with_reducible refine' lst.x (T := T) (H := ?trH) ?tra ?tre); (case tre => assumption); (case tra => walk_at "tr"))
  | ((with_reducible refine' lst.y (T := T) (H := ?trH) ?tra ?tre ?trn); (case tre => assumption); (case trn => walk_at "tr"); (case tra => walk_at "tr"))
  | ((with_reducible refine' tup.x (T := T) (H := ?trH) ?tra ?tre); (case tre => assumption); (case tra => walk_at "tr"))
  | ((with_reducible refine' tup.y (T := T) (H := ?trH) ?tra ?tre ?trt); (case tre => assumption); (case trt => walk_at "tr"); (case tra => walk_at "tr"))
  | ((with_reducible refine' frz.x (T := T) (H := ?trH) ?tra ?tre); (case tre => assumption); (case tra => walk_at "tr"))
  | ((with_reducible refine' frz.y (T := T) (H := ?trH) ?tra ?tre ?trt); (case tre => assumption); (case trt => walk_at "tr"); (case tra => walk_at "tr"))
  | ((with_reducible refine' Im.z (T := T) (H := ?trH) ?tra ?tre ?trt); (case tre => assumption); (case trt => assumption); (case tra => walk_at "tr"))
  | ((with_reducible refine' ImAll.z (T := T) (H := ?trH) ?tra ?tre ?trt); (case tre => assumption); (case trt => assumption); (case tra => walk_at "tr"))
  | ((with_reducible refine' StAt.z (T := T) (H := ?trH) ?tra ?tre ?trt); (case tre => assumption); (case trt => assumption); (case tra => walk_at "tr"))
  | ((with_reducible refine' SqP.z (T := T) (H := ?trH) ?tra ?tre ?trt); (case tre => assumption); (case trt => assumption); (case tra => walk_at "tr"))
  | ((with_reducible refine' tup.z (T := T) (H := ?trH) ?tra ?tre ?trt); (case tre => assumption); (case trt => assumption); (case tra => walk_at "tr"))
  | ((with_reducible refine' Ls.z (T := T) (H := ?trH) ?tra ?tre ?trt ?trn); (case tre => assumption); (case trt => assumption); (case trn => assumption); (case tra => walk_at "tr"))
  | ((with_reducible refine' lst.z (T := T) (H := ?trH) ?tra ?tre ?trn); (case tre => assumption); (case trn => assumption); (case tra => walk_at "tr"))
  | ((with_reducible refine' CL.z (T := T) (H := ?trH) ?tra ?tre ?trn); (case tre => assumption); (case trn => assumption); (case tra => walk_at "tr"))
  | ((with_reducible refine' Tape.ne1 (H := ?trH) ?trt ?trn); (case trn => assumption); (case trt => walk_at "tr"))
  | ((with_reducible refine' Ext.trans (H1 := ?trH) ?tra (Ext.any ?tre)); (case tre => assumption); (case tra => walk_at "tr"))
  | ((with_reducible refine' Ext.trans (H1 := ?trH) ?tra ?tre); (case tre => assumption); (case tra => walk_at "tr"))
  | ((with_reducible refine' Ext.back1 (T := T) (H1 := ?trH) ?tre ?trn ?tra); (case tra => assumption); (case trn => walk_at "tr"); (case tre => walk_at "tr"))
  | ((with_reducible refine' Ext.back0 (T := T) (H1 := ?trH) ?tre ?tra); (case tra => assumption); (case tre => walk_at "tr"))
  | ((with_reducible refine' SqT.of ?tra); (case tra => walk_at "tr"))
  | ((with_reducible refine' SqL.of ?tra); (case tra => walk_at "tr")))

/-- a filtered comprehension: of its items only that they are such -/
theorem lcg_sub (T : List (Addr × Str)) {J : It} {n : Nat} {Gd : Hp → Prop} {Y : Nat → Hp → V → Hp → Prop} {g : TG} {tt : TT} {te : TE} {vs : List Nat} {σ : L2.St} {H : Hp} {Q : VK} (w : Walk J n Gd Y) (hG : ∀ H', Ext T [] H H' → Gd H') (hs : n < sizeLine) (Rl : Hp → V → Prop) (hm : ∀ H1 H2 ms y, Lsts H1 ms → Ext T ms H1 H2 → Rl H1 y → Rl H2 y)
    (step : ∀ i x H1 H', i < n → Ext T [] H H1 → Y i H1 x H' → ∀ (F : VK) (S : Hp → Prop), (∀ y H2, Rl H2 y → Ext T [] H1 H2 → F y H2) → (∀ H2, Ext T [] H1 H2 → S H2) → g x (wipe σ vs) H' fun σ2 H2 => wipe σ2 vs = wipe σ vs ∧ tt σ2 H2 fun b H3 => if b = true then te σ2 H3 F else S H3)
    (q : ∀ D ys H2, Nw H D → Ext T [] H H2 → H2 D = some (.lst ys) → ys.length ≤ n → (∀ y ∈ ys, Rl H2 y) → Q (.ref D) H2) : LcG J g tt te vs σ H Q := fun D hD => by
  refine lc_it w (fun i H2 => Ext T [] H H2 ∧ ∃ ys, H2 D = some (.lst ys) ∧ ys.length ≤ i ∧ ∀ y ∈ ys, Rl H2 y) ⟨.new hD, [], upd_same, Nat.le_refl _, fun y h => nomatch h⟩ (fun i H2 _ h => hG _ h.1) (fun i x H1 H' hi h y => ?_) (fun H1 h => ?_)
  · obtain ⟨e1, ys, hy, hl, hr⟩ := h
    refine step i x H1 H' hi e1 y _ _ (fun v H2 hv e2 => ?_) (fun H2 e2 => ?_)
    · have hD2 := lst.x hy e2
      have eo : Ext T [D] H2 (upd H2 D (.lst (ys ++ [v]))) := Ext.mut (by simp) hD2
      have lo := lsts_one hD2
      refine ⟨ys, hD2, by omega, (e1.trans e2).own (.of hD) hD2, ys ++ [v], upd_same, by rw [List.length_append]; show _ + 1 ≤ _; omega, fun u hu => ?_⟩
      rcases List.mem_append.mp hu with hu | hu
      · exact hm _ _ _ _ lo eo (hm _ _ _ _ .nil e2 (hr u hu))
      · rw [List.mem_singleton.mp hu]
        exact hm _ _ _ _ lo eo hv
    · exact ⟨e1.trans e2, ys, lst.x hy e2, by omega, fun u hu => hm _ _ _ _ .nil e2 (hr u hu)⟩
  · obtain ⟨e1, ys, hy, hl, hr⟩ := h
    exact q D ys H1 (.of hD) e1 hy hl hr
theorem get_im {α : Type} {H : Hp} {xs : List V} {rs : List α} {d : α → PyData} (h : ImAll H xs (rs.map d)) {i : Nat} {x : V} (hx : xs[i]? = some x) : ∃ r, rs[i]? = some r ∧ Im H x (d r) := by
  have hi : i < rs.length := by
    have := (List.getElem?_eq_some_iff.mp hx).1
    rw [h.len, List.length_map] at this
    exact this
  have e1 : (rs.map d)[i]? = some (d rs[i]) := by rw [List.getElem?_map, List.getElem?_eq_getElem hi]; rfl
  obtain ⟨u, h1, h2⟩ := h.get e1
  rw [hx] at h1
  cases Option.some.inj h1
  exact ⟨_, List.getElem?_eq_getElem hi, h2⟩
theorem is_tup {H : Hp} {v : V} {r : Int × Str} (h : Im H v (isD r)) : ∃ p, H p = some (.tup [.int r.1, .str r.2]) ∧ v = .ref p := by
  obtain ⟨p, xs, rfl, hp, hx⟩ := Im.tup' (ds := [.int r.1, .str r.2]) h
  cases hx with
  | cons a b =>
    cases a
    cases b with
    | cons c d =>
      cases c
      cases d
      exact ⟨p, hp, rfl⟩
/-- such items are those of rows -/
theorem rows_of {H : Hp} {Pr : Int × Str → Prop} : ∀ {ys : List V}, (∀ y ∈ ys, ∃ r, Pr r ∧ Im H y (isD r)) → ∃ rows : List (Int × Str), ImAll H ys (rows.map isD) ∧ (∀ r ∈ rows, Pr r) ∧ rows.length = ys.length
  | [], _ => ⟨[], .nil, (fun r h => nomatch h), rfl⟩
  | y :: t, h => by
    obtain ⟨r, h1, h2⟩ := h y List.mem_cons_self
    obtain ⟨rs, g1, g2, g3⟩ := rows_of fun z hz => h z (List.mem_cons_of_mem _ hz)
    exact ⟨r :: rs, .cons h2 g1, fun z hz => (List.mem_cons.mp hz).elim (fun e => e ▸ h1) (g2 z), by rw [List.length_cons, List.length_cons, g3]⟩
def CP (ls : List Str) (due last : Nat) : Prop := (0 < due ∧ ∀ tl, cb (ls.map wsL ++ tl) 0 1 = some due) ∨ (due = 0 ∧ ∀ tl, cb (ls.map wsL ++ tl) 0 1 = cb tl last (ls.length + 1))
def BadL (y : Str) (last : Nat) : Prop := caseF (wsL y) = none ∨ ∃ g, caseF (wsL y) = some g ∧ (g < last ∨ last = 7)
theorem CP.bad {ls : List Str} {due last : Nat} {y : Str} (h : CP ls due last) (hb : BadL y last) (last' : Nat) : CP (ls ++ [y]) (if due = 0 then ls.length + 1 else due) last' := by
  refine .inl ⟨?_, fun tl => ?_⟩
  · split <;> omega
  · rw [List.map_append, List.append_assoc]
    rcases h with ⟨h1, h2⟩ | ⟨h1, h2⟩
    · rw [if_neg (by omega)]
      exact h2 _
    · rw [if_pos h1, h2]
      show (match caseF (wsL y) with | none => some (ls.length + 1) | some g => if g < last ∨ last = 7 then some (ls.length + 1) else cb tl g (ls.length + 1 + 1)) = _
      rcases hb with hb | ⟨g, hb, hc⟩
      · rw [hb]
      · rw [hb]
        exact if_pos hc
theorem CP.good {ls : List Str} {due last g : Nat} {y : Str} (h : CP ls due last) (hg : caseF (wsL y) = some g) (hn : ¬ (g < last ∨ last = 7)) : CP (ls ++ [y]) due g := by
  rcases h with ⟨h1, h2⟩ | ⟨h1, h2⟩
  · refine .inl ⟨h1, fun tl => ?_⟩
    rw [List.map_append, List.append_assoc]
    exact h2 _
  · refine .inr ⟨h1, fun tl => ?_⟩
    rw [List.map_append, List.append_assoc, h2]
    show (match caseF (wsL y) with | none => some (ls.length + 1) | some g => if g < last ∨ last = 7 then some (ls.length + 1) else cb tl g (ls.length + 1 + 1)) = _
    rw [hg, List.length_append]
    exact if_neg hn
theorem CP.any {ls : List Str} {due last : Nat} (h : CP ls due last) (hd : 0 < due) (last' : Nat) : CP ls due last' := by
  rcases h with h | ⟨h1, h2⟩
  · exact .inl h
  · omega
theorem CP.told {ls : List Str} {due last : Nat} (h : CP ls due last) (hl : last < 8) : (cb (ls.map wsL) 0 1).getD 0 = if due = 0 ∧ last < 7 then ls.length + 1 else due := by
  rcases h with ⟨h1, h2⟩ | ⟨h1, h2⟩
  · have e := h2 []
    rw [List.append_nil] at e
    rw [e, if_neg (by omega)]
    rfl
  · have e := h2 []
    rw [List.append_nil] at e
    rw [e]
    show (if last = 7 then none else some (ls.length + 1)).getD 0 = _
    by_cases c : last = 7
    · rw [if_pos c, if_neg (by omega), h1]
      rfl
    · rw [if_neg c, if_pos (by omega)]
      rfl
def spLCase (T : List (Addr × Str)) : Sp := fun vs H Q _ => ∃ (l t : Addr), vs = [.ref t] ∧ Tape l H t ∧ ∀ H', Ext T [t] H H' → Tape l H' t → Q (.bl true) H'
theorem ok_law_case {R : Addr → (Str → Option Nat) → Prop} {fc : Addr} (D : Def K mg "_law_case" s_law_case ["tape"]) (mb : ∀ x ∈ bltns, mg x = none) (m_read_case : mg "read_case" = some (.ref fc)) (hR : R fc caseB) (G_law_take : Ok P w K mg base 2 "_law_take" ["tape", "many"] (spTake T))
    (G_law_case_lines : Ok P w K mg base 3 "_law_case_lines" ["tape"] (spCL T)) (G_law_spoilt : Ok P w K mg base 3 "_law_spoilt" ["tape", "line"] (spSpoilt T)) (G_law_told : Ok P w K mg base 13 "_law_told" ["read", "text"] (spTold T R)) : Ok P w K mg base 14 "_law_case" ["tape"] (spLCase T) := by
  refine D.ok sc_law_case (fun vs H Q E h => ?_) (fun cdv f A outer s H vs Q E hr h => ?_)
  · obtain ⟨l, t, rfl, _⟩ := h
    rfl
  · obtain ⟨l, t, rfl, hT, q⟩ := h
    refine ⟨_, (pss_cons (ps_set (i := 1) sc_law_case.nd rfl (.inl rfl) (pe_callO G_law_case_lines (hr.mono (by decide)) (by rfl) (pa_cons (pv 0) pa_nil)))
   (pss_cons (ps_if (pt_cmpR (op_eqU K rfl hr.units) (pe_callO G_law_take (hr.mono (by decide)) (by rfl) (pa_cons (pv 0) (pa_cons pe_int pa_nil))) pe_int (nomark _)) (pss_cons (ps_set (i := 1) sc_law_case.nd rfl (.inl rfl) (pe_callB (call_sortedU K rfl hr.units) (by rfl) (mb _ (by decide)) (by decide +kernel) (pa_cons (pv 1) pa_nil)))
   (pss_one (ps_set (i := 1) sc_law_case.nd rfl (.inl rfl) (pe_op (op_plus K rfl) (pe_lc (own := [("row", 8)]) (g := gName 8) rfl sc_law_case.nd (pi_seq K rfl (pv 1)) (blkOk_by (N := N_law_case) (sc := defScope s_law_case) (by decide +kernel)) (fun _ _ _ _ _ => (pg_name (i := 8) sc_law_case.nd rfl (Or.inl rfl))) (fun _ _ _ _ _ => (pts_one (pt_cmpR op_lt (pe_ix (ix_U K rfl) (pv 8) pe_int (fun _ _ => rfl)) pe_int (nomark _)))) (fun _ _ _ _ _ => (pv 8))) (pe_lst (pa_cons (pe_tup (pa_cons pe_int (pa_cons pe_str pa_nil))) pa_nil)))))) pss_nil)
   (pss_cons (ps_set (i := 2) sc_law_case.nd rfl (.inl rfl) (pe_lst pa_nil))
   (pss_cons (ps_set (i := 3) sc_law_case.nd rfl (.inl rfl) pe_int)
   (pss_cons (ps_set (i := 4) sc_law_case.nd rfl (.inl rfl) pe_int)
   (pss_cons (ps_for PassesOwn.never rfl (pi_seq K rfl (pv 1)) (pg_tupU (n := 2) K rfl rfl (pgs_cons (pg_name (i := 5) sc_law_case.nd rfl (.inl rfl)) (pgs_cons (pg_name (i := 6) sc_law_case.nd rfl (.inl rfl)) pgs_nil))) (pss_cons (ps_set (i := 7) sc_law_case.nd rfl (.inl rfl) (pe_or (pe_cmpR op_lt (pv 5) (pv 4) (nomark _)) (pe_one (pe_cmpR (op_eqU K rfl hr.units) (pv 4) pe_int (nomark _)))))
   (pss_cons (ps_if (pt_cmpR (op_eqU K rfl hr.units) (pe_callO G_law_take (hr.mono (by decide)) (by rfl) (pa_cons (pv 0) (pa_cons pe_int pa_nil))) pe_int (nomark _)) (pss_cons (ps_set (i := 6) sc_law_case.nd rfl (.inl rfl) (pe_callO G_law_spoilt (hr.mono (by decide)) (by rfl) (pa_cons (pv 0) (pa_cons (pv 6) pa_nil))))
   (pss_one (ps_set (i := 7) sc_law_case.nd rfl (.inl rfl) pe_bl))) pss_nil)
   (pss_cons (ps_expr (pe_bm PySem.F.plainAttrs_list PySem.F.slot_list_append PySem.F.type_list_append mt_append (pv 2) (pa_cons (pv 6) pa_nil)))
   (pss_cons (ps_if (PW.pt (pw_and (pt_cmpR (op_eqU K rfl hr.units) (pv 3) pe_int (nomark _)) (pw_and1 (pt_E (pv 7))))) (pss_one (ps_set (i := 3) sc_law_case.nd rfl (.inl rfl) (pe_callB (call_lenU K rfl) (by rfl) (mb _ (by decide)) (by decide +kernel) (pa_cons (pv 2) pa_nil)))) pss_nil)
   (pss_one (ps_set (i := 4) sc_law_case.nd rfl (.inl rfl) (pv 5))))))))
   (pss_cons (ps_if (pt_cmpR (op_eqU K rfl hr.units) (pv 2) (pe_lst (pa_cons pe_str pa_nil)) (nomark _)) (pss_one (ps_ret (pe_cmpR (op_eqU K rfl hr.units) (pe_callO G_law_told (hr.mono (by decide)) (by rfl) (pa_cons (pe_glF (by rfl) m_read_case) (pa_cons pe_str pa_nil))) pe_int (nomark _)))) pss_nil)
   (pss_cons (ps_if (PW.pt (pw_and (pt_cmpR (op_eqU K rfl hr.units) (pv 3) pe_int (nomark _)) (pw_and1 (pt_cmpR op_lt (pv 4) pe_int (nomark _))))) (pss_one (ps_set (i := 3) sc_law_case.nd rfl (.inl rfl) (pe_op (op_plus K rfl) (pe_callB (call_lenU K rfl) (by rfl) (mb _ (by decide)) (by decide +kernel) (pa_cons (pv 2) pa_nil)) pe_int))) pss_nil)
   (pss_one (ps_ret (pe_cmpR (op_eqU K rfl hr.units) (pe_callO G_law_told (hr.mono (by decide)) (by rfl) (pa_cons (pe_glF (by rfl) m_read_case) (pa_cons (pe_m1 PySem.F.slot_str_join PySem.F.type_str_join (mt_joinU K rfl) pe_str (pv 2)) pa_nil))) (pv 3) (nomark _)))))))))))), ?_⟩
    walk_at "rdn"
    refine rd_seq ?_
    walk_at "rdn"
    refine ⟨l, t, rfl, hT, fun p0 rows0 H1 hk0 hl0 hls0 np0 e1 T1 => ?_⟩
    walk_at "rdn"
    refine rd_cut (fun σ' H' => ∃ (p : Addr) (rows : List (Int × Str)), σ' = [some (.ref t), some (.ref p), none, none, none, none, none, none, none] ∧ (∀ r ∈ rows, RowOk r) ∧ rows.length ≤ 9 ∧ Ls H' p (rows.map isD) ∧ Nw H p ∧ Ext T [t] H H' ∧ Tape l H' t) (fun nx' hnx => ?_) (fun σ' H' h => ?_)
    · walk_at "rd"
      refine ⟨l, t, 2, rfl, by decide, by decide, T1, fun b H2 b0 b1 e2 T2 => ?_⟩
      have hn0 : p0 ≠ t := hT.ne1 np0
      have hls2 := hls0.y e2 hn0 T1
      have e2 := e1.trans e2
      walk_at "rd"
      refine rd_ite (fun c => ?_) (fun c => ?_)
      · walk_at "rdn"
        refine rd_seq ?_
        walk_at "rd"
        refine rd_sortA T hls2 (alike_is _) (sortable_is _) (depth_is _) fun p1 H3 ys np1 x3 hp1 him => ?_
        rw [srtIS_eq] at him
        have T3 := T2.ext x3
        have e3 := e2.trans x3.any
        have hyl : ys.length ≤ 8 := by rw [him.len, List.length_map, (srtIS_perm _).length_eq]; exact hl0
        have hk1 : ∀ r ∈ srtIS rows0, RowOk r := fun r hr => hk0 r ((srtIS_perm _).mem_iff.mp hr)
        walk_at "rdn"
        walk_at "rd"
        refine lcg_sub T (walk_list (xs := ys)) (fun H' e => SqL.of (lst.x hp1 e)) (Nat.lt_of_le_of_lt hyl (by decide)) (fun H y => ∃ r, RowOk r ∧ Im H y (isD r)) (fun H1 H2 ms y lo eo h => h.imp fun r h => ⟨h.1, Im.ext eo lo _ _ h.2⟩) (fun i x H4 H' hi x4 hx F S go stop => ?_) (fun D zs H4 nD x4 hD hzl hzs => ?_)
        · obtain ⟨rfl, hx⟩ := hx
          obtain ⟨r, hr, hxr⟩ := get_im him hx
          have hrk := hk1 r (List.mem_of_getElem? hr)
          have hxr := hxr.x x4
          obtain ⟨pq, hpq, rfl⟩ := is_tup hxr
          refine ⟨rfl, ?_⟩
          walk_at "rd"
          refine rd_ixT (i := 0) (SqT.of hpq) (v := .int r.1) rfl ?_
          walk_at "rd"
          refine rd_ite (fun c => ?_) (fun c => ?_)
          · walk_at "rd"
            exact go _ _ ⟨r, hrk, hxr⟩ .refl
          · exact stop _ .refl
        · obtain ⟨rows, g1, g2, g3⟩ := rows_of hzs
          have T4 := T3.ext x4
          have e4 := e3.trans x4.any
          walk_at "rd"
          refine ⟨by walk_at "sz", fun pt npt => ?_⟩
          obtain ⟨npt, x5, hpt⟩ := alT (T := T) npt [V.int 7, .str (Str.ofString "end 3")]
          have hrw : Im (upd H4 pt (.tup [V.int 7, .str (Str.ofString "end 3")])) (.ref pt) (isD (7, Str.ofString "end 3")) := .tup hpt (.cons (.int _) (.cons (.str _ (by decide +kernel)) .nil))
          have hD := lst.x hD x5
          have g1 := g1.x x5
          have T5 := T4.ext x5
          have e5 := e4.trans x5.any
          generalize upd H4 pt _ = H5 at x5 hrw hD g1 T5 e5 ⊢
          walk_at "rd"
          refine ⟨by walk_at "sz", fun pe npe => ?_⟩
          obtain ⟨npe, x6, hpe⟩ := alL (T := T) npe [V.ref pt]
          have hrw := hrw.x x6
          have hD := lst.x hD x6
          have g1 := g1.x x6
          have T6 := T5.ext x6
          have e6 := e5.trans x6.any
          generalize upd H5 pe _ = H6 at x6 hrw hD hpe g1 T6 e6 ⊢
          refine rd_catA (T := T) hD hpe (by show _ + 1 ≤ 1000; omega) fun p3 H7 np3 x7 hp3 => ?_
          have T7 := T6.ext x7
          have e7 := e6.trans x7.any
          have hne3 : p3 ≠ t := T6.ne1 np3
          walk_at "rd"
          refine hnx _ _ ⟨p3, rows ++ [(7, Str.ofString "end 3")], rfl, fun r hr => ?_, by rw [List.length_append]; show _ + 1 ≤ 9; omega, ⟨_, hp3, by rw [List.map_append]; exact imAll_app2 (g1.x x7) (.cons (hrw.x x7) .nil)⟩, e6.back1 hne3 np3, e7, T7⟩
          rcases List.mem_append.mp hr with hr | hr
          · exact g2 r hr
          · rw [List.mem_singleton.mp hr]
            exact ⟨7, rfl, by decide, by decide +kernel⟩
      · walk_at "rd"
        exact hnx _ _ ⟨p0, rows0, rfl, hk0, by omega, hls2, np0, e2, T2⟩
    · clear hls0 T1 e1 hk0 hl0
      obtain ⟨p, rows, rfl, hrk, hrl, ⟨xs, hxs, hxi⟩, npp, e1, T1⟩ := h
      have hnep : p ≠ t := hT.ne1 npp
      have hxl : xs.length = rows.length := by rw [hxi.len, List.length_map]
      walk_at "rdn"
      refine rd_seq ?_
      walk_at "rd"
      refine ⟨by walk_at "sz", fun pl npl => ?_⟩
      have hnel : pl ≠ t := T1.ne1 (.of npl)
      have nen := T1.ne (.of npl)
      have hpnl : p ≠ pl := fun z => npl |> fun e => by rw [← z, hxs] at e; cases e
      obtain ⟨npl, x2, hpl⟩ := alL (T := T) npl ([] : List V)
      have nplH : Nw H pl := e1.back1 hnel npl
      have hxs := lst.x hxs x2
      have hxi := hxi.x x2
      have T2 := T1.ext x2
      have e2 := e1.trans x2.any
      generalize upd H' pl _ = H2 at x2 hpl hxs hxi T2 e2 ⊢
      clear x2 T1 e1 npl
      walk_at "rdn"
      refine rd_seq ?_
      walk_at "rdn"
      refine rd_seq ?_
      walk_at "rdn"
      refine rd_seq ?_
      walk_at "rd"
      refine forg_list (xs := xs) (fun i σ' H' => ∃ (ls : List Str) (due last : Nat) (x5 x6 x7 : Option V), σ' = [some (.ref t), some (.ref p), some (.ref pl), some (.int (due : Int)), some (.int (last : Int)), x5, x6, x7, none] ∧ last < 8 ∧ Ext T [t] H H' ∧ Tape l H' t ∧ H' p = some (.lst xs) ∧ ImAll H' xs (rows.map isD) ∧ H' pl = some (.lst (ls.map V.str)) ∧ ls.length = i ∧ (∀ y ∈ ls, YOk y) ∧ CP ls due last)
        ⟨[], 0, 0, none, none, none, rfl, by decide, e2, T2, hxs, hxi, hpl, rfl, (fun y hy => nomatch hy), .inr ⟨rfl, fun _ => rfl⟩⟩ (fun i σ' H' _ h => ?_) (fun i x σ' H' hx h => ?_) (fun σ' H' h => ?_)
      · obtain ⟨_, _, _, _, _, _, _, _, _, _, h, _⟩ := h
        exact SqL.of h
      · clear e2 T2 hxs hxi hpl
        obtain ⟨ls, due, last, x5, x6, x7, rfl, hla, eH, TH, hxs, hxi, hpl, hli, hys, hcp⟩ := h
        obtain ⟨r, hr, hxr⟩ := get_im hxi hx
        obtain ⟨g, hg1, hg8, hgz⟩ := hrk r (List.mem_of_getElem? hr)
        obtain ⟨pq, hpq, rfl⟩ := is_tup hxr
        rw [hg1] at hpq
        generalize r.2 = z at hgz hpq
        have hil : i < 9 := by
          have := (List.getElem?_eq_some_iff.mp hx).1
          omega
        obtain ⟨⟨z1, z2⟩, z3⟩ := gr_line hg8 hgz
        refine rd_gtup (SqT.of hpq) rfl (rd_gcons (rd_name (rd_gcons (rd_name (rd_gnil ?_)))))
        clear hxr hpq hr
        walk_at "rdn"
        refine rd_cut (fun σ' H'' => H'' = H' ∧ ∃ wr : Bool, σ' = [some (.ref t), some (.ref p), some (.ref pl), some (.int (due : Int)), some (.int (last : Int)), some (.int (g : Int)), some (.str z), some (.bl wr), none] ∧ wr = decide (g < last ∨ last = 7)) (fun nx' hnx => ?_) (fun σ' H'' h => ?_)
        · walk_at "rd"
          by_cases c1 : (g : Int) < (last : Int)
          · rw [decide_eq_true c1]
            walk_at "rd"
            exact hnx _ _ ⟨rfl, true, rfl, (decide_eq_true (show g < last ∨ last = 7 from .inl (by omega))).symm⟩
          · rw [decide_eq_false c1]
            walk_at "rd"
            by_cases c2 : (last : Int) = 7
            · rw [decide_eq_true c2]
              exact hnx _ _ ⟨rfl, true, rfl, (decide_eq_true (show g < last ∨ last = 7 from .inr (by omega))).symm⟩
            · rw [decide_eq_false c2]
              exact hnx _ _ ⟨rfl, false, rfl, (decide_eq_false (show ¬ (g < last ∨ last = 7) by omega)).symm⟩
        · obtain ⟨rfl, wr, rfl, hwr⟩ := h
          walk_at "rdn"
          refine rd_cut (fun σ' H' => ∃ (wr : Bool) (y : Str), σ' = [some (.ref t), some (.ref p), some (.ref pl), some (.int (due : Int)), some (.int (last : Int)), some (.int (g : Int)), some (.str y), some (.bl wr), none] ∧ YOk y ∧ (wr = true → BadL y last) ∧ (wr = false → caseF (wsL y) = some g ∧ ¬ (g < last ∨ last = 7)) ∧ Ext T [t] H H' ∧ Tape l H' t ∧ H' p = some (.lst xs) ∧ ImAll H' xs (rows.map isD) ∧ H' pl = some (.lst (ls.map V.str))) (fun nx' hnx => ?_) (fun σ' H' h => ?_)
          · walk_at "rd"
            refine ⟨l, t, 8, rfl, by decide, by decide, TH, fun b H5 c0 c1 e5 T5 => ?_⟩
            have hxs := e5.lst (show p ∉ [t] by simpa using hnep) hxs
            have hpl := e5.lst (show pl ∉ [t] by simpa using hnel) hpl
            have hxi := hxi.y e5 TH
            have e5 := eH.trans e5
            walk_at "rd"
            refine rd_ite (fun c => ?_) (fun c => ?_)
            · walk_at "rdn"
              refine rd_seq ?_
              walk_at "rdn"
              refine ⟨l, t, z, rfl, T5, gr_all hg8 hgz, fun y H6 hy e6 T6 => ?_⟩
              have hxs := e6.lst (show p ∉ [t] by simpa using hnep) hxs
              have hpl := e6.lst (show pl ∉ [t] by simpa using hnel) hpl
              have hxi := hxi.y e6 T5
              have e6 := e5.trans e6
              obtain ⟨y1, y2⟩ := z3 y hy
              walk_at "rd"
              exact hnx _ _ ⟨true, y, rfl, y2, fun _ => .inl y1, (fun h => by cases h), e6, T6, hxs, hxi, hpl⟩
            · walk_at "rd"
              exact hnx _ _ ⟨wr, z, rfl, z2, fun h => .inr ⟨g, z1, of_decide_eq_true (hwr.symm.trans h)⟩, fun h => ⟨z1, of_decide_eq_false (hwr.symm.trans h)⟩, e5, T5, hxs, hxi, hpl⟩
          · clear eH TH hxs hxi hpl
            obtain ⟨wr, y, rfl, hy, hbad, hgood, eH, TH, hxs, hxi, hpl⟩ := h
            have hlm : (ls.map V.str).length ≤ 9 := by rw [List.length_map]; omega
            have eo : Ext T [pl] H' (upd H' pl (.lst (ls.map V.str ++ [V.str y]))) := Ext.mut (by simp) hpl
            have lo := lsts_one hpl
            have e7 := eH.own nplH hpl (u := .lst (ls.map V.str ++ [V.str y]))
            have T7 := TH.own nen.1 nen.2 (o := .lst (ls.map V.str ++ [V.str y]))
            have hxs7 : upd H' pl (.lst (ls.map V.str ++ [V.str y])) p = some (.lst xs) := by rw [upd_ne hpnl]; exact hxs
            have hxi7 := ImAll.ext eo lo _ _ hxi
            have hpl7 : upd H' pl (.lst (ls.map V.str ++ [V.str y])) pl = some (.lst ((ls ++ [y]).map V.str)) := by rw [List.map_append]; exact upd_same
            have hyl : ∀ u ∈ ls ++ [y], YOk u := fun u hu => by
              rcases List.mem_append.mp hu with hu | hu
              · exact hys u hu
              · rw [List.mem_singleton.mp hu]
                exact hy
            walk_at "rdn"
            refine rd_seq ?_
            walk_at "rd"
            generalize upd H' pl (.lst (ls.map V.str ++ [V.str y])) = H7 at e7 T7 hxs7 hxi7 hpl7 ⊢
            clear eo lo hpl hxs hxi eH TH
            have hl1 : (ls ++ [y]).length = i + 1 := by rw [List.length_append, hli]; rfl
            by_cases cd : due = 0
            · rw [decide_eq_true (show (due : Int) = 0 by omega)]
              cases hw : wr with
              | true =>
                have hc := hcp.bad (hbad hw) g
                rw [if_pos cd] at hc
                walk_at "rd"
                have el : ((ls ++ [y]).map V.str).length = ls.length + 1 := by rw [List.length_map, List.length_append]; rfl
                refine ⟨ls ++ [y], ((ls ++ [y]).map V.str).length, g, _, _, _, rfl, hg8, e7, T7, hxs7, hxi7, hpl7, hl1, hyl, ?_⟩
                rw [el]
                exact hc
              | false =>
                obtain ⟨w1, w2⟩ := hgood hw
                have hc := hcp.good w1 w2
                walk_at "rd"
                exact ⟨ls ++ [y], due, g, _, _, _, rfl, hg8, e7, T7, hxs7, hxi7, hpl7, hl1, hyl, hc⟩
            · rw [decide_eq_false (show ¬ (due : Int) = 0 by omega)]
              have hc : CP (ls ++ [y]) due g := by
                cases hw : wr with
                | true =>
                  have hc := hcp.bad (hbad hw) g
                  rw [if_neg cd] at hc
                  exact hc
                | false =>
                  obtain ⟨w1, w2⟩ := hgood hw
                  exact hcp.good w1 w2
              walk_at "rd"
              exact ⟨ls ++ [y], due, g, _, _, _, rfl, hg8, e7, T7, hxs7, hxi7, hpl7, hl1, hyl, hc⟩
      · clear e2 T2 hxs hxi hpl
        obtain ⟨ls, due, last, x5, x6, x7, rfl, hla, eH, TH, hxs, hxi, hpl, hli, hys, hcp⟩ := h
        have hll : ls.length ≤ 9 := by omega
        have hlm : (ls.map V.str).length ≤ 9 := by rw [List.length_map]; exact hll
        have hok := fun z hz => (hys z hz).ok
        have hto := hcp.told hla
        walk_at "rdn"
        refine rd_cut (fun σ' H'' => σ' = [some (.ref t), some (.ref p), some (.ref pl), some (.int (due : Int)), some (.int (last : Int)), x5, x6, x7, none] ∧ ls ≠ [Str.ofString ""] ∧ Ext T [t] H H'' ∧ Tape l H'' t ∧ H'' pl = some (.lst (ls.map V.str))) (fun nx' hnx => ?_) (fun σ' H'' h => ?_)
        · walk_at "rd"
          refine ⟨by walk_at "sz", fun p2 np2 => ?_⟩
          obtain ⟨np2, x2, hp2⟩ := alL (T := T) np2 [V.str (Str.ofString "")]
          have hpl := lst.x hpl x2
          have T7 := TH.ext x2
          have e7 := eH.trans x2.any
          generalize upd H' p2 _ = H7 at x2 hpl hp2 T7 e7 ⊢
          refine rd_eqLsG (ls_str hpl hok) (ls_str (zs := [Str.ofString ""]) hp2 (by intro z hz; rw [List.mem_singleton.mp hz]; decide +kernel)) (dep_lstr _) (dep_lstr [Str.ofString ""]) strs_eq ?_
          by_cases c : ls = [Str.ofString ""]
          · rw [decide_eq_true c]
            walk_at "rd"
            have er : rowsF (Str.ofString "") = [] := if_pos rfl
            refine ⟨fc, Str.ofString "", caseB, rfl, hR, by decide +kernel, by rw [er]; exact ⟨by decide, fun ws hw => nomatch hw⟩, fun H8 x8 => ?_⟩
            have ec : caseB (Str.ofString "") = some 1 := by
              unfold caseB
              rw [er]
              rfl
            walk_at "rd"
            rw [decide_eq_true (show ((((caseB (Str.ofString "")).getD 0 : Nat) : Int) = 1) by rw [ec]; rfl)]
            exact q _ (e7.trans x8.any) (T7.ext x8)
          · rw [decide_eq_false c]
            walk_at "rd"
            exact hnx _ _ ⟨rfl, c, e7, T7, hpl⟩
        · clear eH TH hxs hxi hpl
          obtain ⟨rfl, hne, eH, TH, hpl⟩ := h
          have hcb : (caseB (jn 10 ls)).getD 0 = if due = 0 ∧ last < 7 then ls.length + 1 else due := by
            unfold caseB
            rw [rowsF_join hys hne]
            exact hto
          walk_at "rdn"
          refine rd_cut (fun σ' H' => ∃ dv : Int, σ' = [some (.ref t), some (.ref p), some (.ref pl), some (.int dv), some (.int (last : Int)), x5, x6, x7, none] ∧ H' = H'' ∧ dv = (((caseB (jn 10 ls)).getD 0 : Nat) : Int)) (fun nx' hnx => ?_) (fun σ' H3 h => ?_)
          · by_cases c : due = 0 ∧ last < 7
            · rw [if_pos c] at hcb
              walk_at "rd"
              rw [decide_eq_true (show (due : Int) = 0 by omega)]
              walk_at "rd"
              rw [decide_eq_true (show (last : Int) < 7 by omega)]
              walk_at "rd"
              exact hnx _ _ ⟨_, rfl, rfl, by rw [hcb, List.length_map]; rfl⟩
            · rw [if_neg c] at hcb
              have fin : nx' [some (.ref t), some (.ref p), some (.ref pl), some (.int (due : Int)), some (.int (last : Int)), x5, x6, x7, none] H'' := hnx _ _ ⟨_, rfl, rfl, by rw [hcb]⟩
              walk_at "rd"
              by_cases c1 : (due : Int) = 0
              · rw [decide_eq_true c1]
                walk_at "rd"
                rw [decide_eq_false (show ¬ (last : Int) < 7 by omega)]
                walk_at "rd"
                exact fin
              · rw [decide_eq_false c1]
                walk_at "rd"
                exact fin
          · obtain ⟨dv, rfl, rfl, hdv⟩ := h
            have hsum := ys_sum hys
            walk_at "rd"
            refine rd_join (SqL.of hpl) (by rw [show (Str.ofString "\n").length = 1 from by decide +kernel]; omega) ?_
            rw [join_jn (s := 10) (by decide +kernel)]
            walk_at "rd"
            refine ⟨fc, jn 10 ls, _, rfl, hR, jn_le hys (by omega), rowsW_join hys (by omega), fun H8 x8 => ?_⟩
            walk_at "rd"
            rw [decide_eq_true hdv.symm]
            exact q _ (eH.trans x8.any) (TH.ext x8)
end

open PySem PySem.Spec PyProof.Rows L2
open PySem.W (EachIs)
section
variable {T : List (Addr × Str)} {P : Program} {w : World} {K : PySem.W.Frag} {mg : Str → Option Value} {base : Heap} {NF : Addr}
local macro_rules | `(tactic| walk_at "tr") => `(tactic| first
  | assumption
  | exact Ext.refl
  | ((with_reducible refine' Im.x (T := T) (H := ?trH) ?tra ?tre); (case tre => assumption); (case tra => walk_at "tr"))
  | ((with_reducible refine' Im.y (T := T) (H := ?trH) ?tra ?tre ?trt); (case tre => assumption); (case trt => walk_at "tr"); (case tra => walk_at "tr"))
  | ((with_reducible refine' ImAll.x (T := T) (H := ?trH) ?tra ?tre); (case tre => assumption); (case tra => walk_at "tr"))
  | ((with_reducible refine' ImAll.y (T := T) (H := ?trH) ?tra ?tre ?trt); (case tre => assumption); (case trt => walk_at "tr"); (case tra => walk_at "tr"))
  | ((with_reducible refine' Ls.x (T := T) (H := ?trH) ?tra ?tre); (case tre => assumption); (case tra => walk_at "tr"))
  | ((with_reducible refine' Ls.y (T := T) (H := ?trH) ?tra ?tre ?trn ?trt); (case tre => assumption); (case trt => walk_at "tr"); (case trn => walk_at "tr"); (case tra => walk_at "tr"))
  | ((with_reducible refine' SqP.x (T := T) (H := ?trH) ?tra ?tre); (case tre => assumption); (case tra => walk_at "tr"))
  | ((with_reducible refine' SqP.y (T := T) (H := ?trH) ?tra ?tre ?trt); (case tre => assumption); (case trt => walk_at "tr"); (case tra => walk_at "tr"))
  | ((with_reducible refine' StAt.x (T := T) (H := ?trH) ?tra ?tre); (case tre => assumption); (case tra => walk_at "tr"))
  | ((with_reducible refine' StAt.y (T := T) (H := ?trH) ?tra ?tre ?trt); (case tre => assumption); (case trt => walk_at "tr"); (case tra => walk_at "tr"))
  | ((with_reducible refine' Pools.ext0 (T := T) (H := ?trH) ?tra ?tre); (case tre => assumption); (case tra => walk_at "tr"))
  | ((with_reducible refine' Pools.ext (T := T) (H := ?trH) ?tra ?tre ?trt); (case tre => assumption); (case trt => walk_at "tr"); (case tra => walk_at "tr"))
  | ((with_reducible refine' CL.x (T := T) (H := ?trH) ?tra ?tre); (case tre => assumption); (case tra => walk_at "tr"))
  | ((with_reducible refine' CL.y (T := T) (H := ?trH) ?tra ?tre); (case tre => assumption); (case tra => walk_at "tr"))
  | ((with_reducible refine' Tape.ext (T := T) (H := ?trH) ?tra ?tre); (case tre => assumption); (case tra => walk_at "tr"))
  | ((with_reducible refine' lst.x (T := T) (H := ?trH) ?tra ?tre); (case tre => assumption); (case tra => walk_at "tr"))
  | ((with_reducible refine' lst.y (T := T) (H := ?trH) ?tra ?tre ?trn); (case tre => assumption); (case trn => walk_at "tr"); (case tra => walk_at "tr"))
  | ((with_reducible refine' tup.x (T := T) (H := ?trH) ?tra ?tre); (case tre => assumption); (case tra => walk_at "tr"))
  | ((with_reducible refine' tup.y (T := T) (H := ?trH) ?tra ?tre ?trt); (case tre => assumption); (case trt => walk_at "tr"); (case tra => walk_at "tr"))
  | ((with_reducible refine' frz.x (T := T) (H := ?trH) ?tra ?tre); (case tre => assumption); (case tra => walk_at "tr"))
  | ((with_reducible refine' frz.y (T := T) (H := ?trH) ?tra ?tre ?trt); (case tre => assumption); (case trt => walk_at "tr"); (case tra => walk_at "tr"))
  | ((with_reducible refine' Im.z (T := T) (H := ?trH) ?tra ?tre ?trt); (case tre => assumption); (case trt => assumption); (case tra => walk_at "tr"))
  | ((with_reducible refine' ImAll.z (T := T) (H := ?trH) ?tra ?tre ?trt); (case tre => assumption); (case trt => assumption); (case tra => walk_at "tr"))
  | ((with_reducible refine' StAt.z (T := T) (H := ?trH) ?tra ?tre ?trt); (case tre => assumption); (case trt => assumption); (case tra => walk_at "tr"))
  | ((with_reducible refine' SqP.z (T := T) (H := ?trH) ?tra ?tre ?trt); (case tre => assumption); (case trt => assumption); (case tra => walk_at "tr"))
  | ((with_reducible refine' tup.z (T := T) (H := ?trH) ?tra ?tre ?trt); (case tre => assumption); (case trt => assumption); (case tra => walk_at "tr"))
  | ((with_reducible refine' Ls.z (T := T) (H := ?trH) ?tra ?tre ?trt ?trn); (case tre => assumption); (case trt => assumption); (case trn => assumption); (case tra => walk_at "tr"))
  | ((with_reducible refine' lst.z (T := T) (H := ?trH) ?tra ?tre ?trn); (case tre => assumption); (case trn => assumption); (case tra => walk_at "tr"))
  | ((with_reducible refine' CL.z (T := T) (H := ?trH) ?tra ?tre ?trn); (case tre => assumption); (case trn => assumption); (case tra => walk_at "tr"))
  | ((with_reducible refine' Tape.ne1 (H := ?trH) ?trt ?trn); (case trn => assumption); (case trt => walk_at "tr"))
  | ((with_reducible refine' Ext.trans (H1 := ?trH) ?tra (Ext.any ?tre)); (case tre => assumption); (case tra => walk_at "tr"))
  | ((with_reducible refine' Ext.trans (H1 := ?trH) ?tra ?tre); (case tre => assumption); (case tra => walk_at "tr"))
  | ((with_reducible refine' Ext.back1 (T := T) (H1 := ?trH) ?tre ?trn ?tra); (case tra => assumption); (case trn => walk_at "tr"); (case tre => walk_at "tr"))
  | ((with_reducible refine' Ext.back0 (T := T) (H1 := ?trH) ?tre ?tra); (case tra => assumption); (case tre => walk_at "tr"))
  | ((with_reducible refine' SqT.of ?tra); (case tra => walk_at "tr"))
  | ((with_reducible refine' SqL.of ?tra); (case tra => walk_at "tr")))

def spLaw (T : List (Addr × Str)) (K : PySem.W.Frag) : Sp := fun vs H Q _ => ∃ (a : Addr) (ns : List Int), vs = [.ref a] ∧ SqL K H a (ns.map V.int) ∧ ns.length ≤ 63 ∧ ∀ H', Q (.bl true) H'
theorem ok_law {R : Addr → (Str → Option Nat) → Prop} {ft fp fh fc : Addr} {f : Addr} {fd : FuncData} (F : Fun K "law" "law" s_law f fd) (mb : ∀ x ∈ bltns, mg x = none) (m_read_table : mg "read_table" = some (.ref ft)) (m_read_plan : mg "read_plan" = some (.ref fp)) (m_read_history : mg "read_history" = some (.ref fh)) (m_read_case : mg "read_case" = some (.ref fc))
    (hRt : R ft (fun z => fb (kdF .tb) (rowsF z) 1)) (hRp : R fp (fun z => fb (kdF .pl) (rowsF z) 1)) (hRh : R fh (fun z => fb (kdF .hi) (rowsF z) 1)) (hRc : R fc caseB)
    (G_law_tape : Ok P w K mg base 1 "_law_tape" ["script", "budget"] (spTape T K)) (G_law_texts : Ok P w K mg base 14 "_law_texts" ["tape", "kind", "read"] (spTexts T R)) (G_law_case : Ok P w K mg base 14 "_law_case" ["tape"] (spLCase T)) (G_law_told : Ok P w K mg base 13 "_law_told" ["read", "text"] (spTold T R)) : FnOk P w K mg base CX0 15 f fd ["script"] (spLaw T K) := by
  refine F.ok sc_law (fun vs H Q E h => ?_) (fun cdv A outer s H vs Q E hr h => ?_)
  · obtain ⟨a, ns, rfl, _⟩ := h
    rfl
  · obtain ⟨a, ns, rfl, ha, hl, q⟩ := h
    refine ⟨_, (pss_cons (ps_set (i := 1) sc_law.nd rfl (.inl rfl) (pe_callO G_law_tape (hr.mono (by decide)) (by rfl) (pa_cons (pv 0) (pa_cons pe_int pa_nil))))
   (pss_cons (ps_for PassesOwn.never rfl (pi_range1 (by rfl) (mb _ (by decide)) (pa_cons pe_int pa_nil)) (pg_name (i := 2) sc_law.nd rfl (.inl rfl)) (pss_cons (ps_if (PW.pt (pw_or (pt_not (pt_E (pe_callO G_law_texts (hr.mono (by decide)) (by rfl) (pa_cons (pv 1) (pa_cons pe_str (pa_cons (pe_glF (by rfl) m_read_table) pa_nil)))))) (pw_or1 (pt_not (pt_E (pe_callO G_law_texts (hr.mono (by decide)) (by rfl) (pa_cons (pv 1) (pa_cons pe_str (pa_cons (pe_glF (by rfl) m_read_plan) pa_nil))))))))) (pss_one (ps_ret pe_bl)) pss_nil)
   (pss_one (ps_if (PW.pt (pw_or (pt_not (pt_E (pe_callO G_law_texts (hr.mono (by decide)) (by rfl) (pa_cons (pv 1) (pa_cons pe_str (pa_cons (pe_glF (by rfl) m_read_history) pa_nil)))))) (pw_or1 (pt_not (pt_E (pe_callO G_law_case (hr.mono (by decide)) (by rfl) (pa_cons (pv 1) pa_nil))))))) (pss_one (ps_ret pe_bl)) pss_nil))))
   (pss_one (ps_ret (pe_cmpR (op_eqU K rfl hr.units) (pe_callO G_law_told (hr.mono (by decide)) (by rfl) (pa_cons (pe_glF (by rfl) m_read_case) (pa_cons pe_str pa_nil))) pe_int (nomark _)))))), ?_⟩
    walk_at "rdn"
    refine rd_seq ?_
    walk_at "rdn"
    refine ⟨a, ns, 0, rfl, ha, hl, fun t l H1 nt e1 T1 => ?_⟩
    clear e1 ha nt
    walk_at "rdn"
    refine rd_seq ?_
    walk_at "rd"
    refine ⟨by decide, by decide, ?_⟩
    rw [show (2 : Int).toNat = 2 from rfl]
    refine forg_range (fun i σ' H' => ∃ x2 : Option V, σ' = [some (.ref a), some (.ref t), x2] ∧ Tape l H' t) ⟨none, rfl, T1⟩ (fun i σ' H' hi h => ?_) (fun σ' H' h => ?_)
    · obtain ⟨x2, rfl, T2⟩ := h
      walk_at "rdn"
      refine rd_seq ?_
      walk_at "rd"
      refine ⟨l, t, .tb, ft, rfl, hRt, T2, fun H3 _ T3 => ?_⟩
      walk_at "rd"
      refine ⟨l, t, .pl, fp, rfl, hRp, T3, fun H4 _ T4 => ?_⟩
      walk_at "rd"
      refine ⟨l, t, .hi, fh, rfl, hRh, T4, fun H5 _ T5 => ?_⟩
      walk_at "rd"
      refine ⟨l, t, rfl, T5, fun H6 _ T6 => ?_⟩
      walk_at "rd"
      exact ⟨_, rfl, T6⟩
    · obtain ⟨x2, rfl, T2⟩ := h
      walk_at "rd"
      have er : rowsF (Str.ofString "") = [] := if_pos rfl
      refine ⟨fc, Str.ofString "", caseB, rfl, hRc, by decide +kernel, by rw [er]; exact ⟨by decide, fun ws hw => nomatch hw⟩, fun H8 x8 => ?_⟩
      have ec : caseB (Str.ofString "") = some 1 := by
        unfold caseB
        rw [er]
        rfl
      walk_at "rd"
      rw [decide_eq_true (show ((((caseB (Str.ofString "")).getD 0 : Nat) : Int) = 1) by rw [ec]; rfl)]
      exact q _
end

open PySem PySem.Spec PyProof.Rows L2
/-! ### what the head has written: the defs, the constants, the words of the language -/
def DefIn (K : PySem.W.Frag) (x : Str) (st : Stmt) : Prop :=
  ∃ (f : Addr) (oc : Value) (od : Option Addr) (kV doc pm : Value) (an : Option Addr) (cdv ct : Value) (osl : Array (Option Value)),
    PySem.W.nsIn K mainGlobals x = some (some (.ref f)) ∧ K.lookup f = some ⟨oc, od, .func (PySem.W.fnOf x x (defArgs st) (defBody st) (defScope st) .none kV doc pm an cdv ct), osl⟩ ∧ PySem.W.codeIn K cdv x = true ∧ PySem.W.keepIn K (.ref f) = true
def DefInC (K : PySem.W.Frag) (x : Str) (st : Stmt) (c : Addr) : Prop :=
  ∃ (f : Addr) (oc : Value) (od : Option Addr) (kV doc pm : Value) (an : Option Addr) (ct : Value) (osl : Array (Option Value)),
    PySem.W.nsIn K mainGlobals x = some (some (.ref f)) ∧ K.lookup f = some ⟨oc, od, .func (PySem.W.fnOf x x (defArgs st) (defBody st) (defScope st) .none kV doc pm an (.ref c) ct), osl⟩ ∧ PySem.W.codeIn K (.ref c) x = true ∧ PySem.W.keepIn K (.ref f) = true
theorem DefIn.of {K : PySem.W.Frag} {x : Str} {st : Stmt} {f : Addr} {oc : Value} {od : Option Addr} {kV doc pm : Value} {an : Option Addr} {cdv ct : Value} {osl : Array (Option Value)} (h1 : PySem.W.nsIn K mainGlobals x = some (some (.ref f)))
    (h2 : K.lookup f = some ⟨oc, od, .func (PySem.W.fnOf x x (defArgs st) (defBody st) (defScope st) .none kV doc pm an cdv ct), osl⟩) (h3 : PySem.W.codeIn K cdv x = true) (h4 : PySem.W.keepIn K (.ref f) = true) : DefIn K x st := ⟨f, oc, od, kV, doc, pm, an, cdv, ct, osl, h1, h2, h3, h4⟩
theorem DefInC.of {K : PySem.W.Frag} {x : Str} {st : Stmt} {f c : Addr} {oc : Value} {od : Option Addr} {kV doc pm : Value} {an : Option Addr} {ct : Value} {osl : Array (Option Value)} (h1 : PySem.W.nsIn K mainGlobals x = some (some (.ref f)))
    (h2 : K.lookup f = some ⟨oc, od, .func (PySem.W.fnOf x x (defArgs st) (defBody st) (defScope st) .none kV doc pm an (.ref c) ct), osl⟩) (h3 : PySem.W.codeIn K (.ref c) x = true) (h4 : PySem.W.keepIn K (.ref f) = true) : DefInC K x st c := ⟨f, oc, od, kV, doc, pm, an, ct, osl, h1, h2, h3, h4⟩
theorem cstS_of {K : PySem.W.Frag} {x y : Str} {t : Tok} (h : PySem.W.nsIn K mainGlobals x = some (some (.str y t))) : ∃ t, PySem.W.nsIn K mainGlobals x = some (some (.str y t)) := ⟨t, h⟩
theorem cstI_of {K : PySem.W.Frag} {x : Str} {y : Int} {t : Tok} (h : PySem.W.nsIn K mainGlobals x = some (some (.int y t))) : ∃ t, PySem.W.nsIn K mainGlobals x = some (some (.int y t)) := ⟨t, h⟩
section
variable {K : PySem.W.Frag} {h : Heap} {mg : Str → Option Value} {x : Str} {st : Stmt} {ps : List Str}
def BindOk (x : Str) (st : Stmt) (ps : List Str) : Prop := ∀ (kV doc pm : Value) (an : Option Addr) (cdv ct : Value) (us : List Value), us.length = ps.length → bindArgs (PySem.W.fnOf x x (defArgs st) (defBody st) (defScope st) .none kV doc pm an cdv ct) ⟨us, []⟩ = pure (ps.zip us)
theorem DefIn.mk (d : DefIn K x st) (X : K.In h) (G : h.Ns mainGlobals mg) (hb : BindOk x st ps) : Def K mg x st ps := by
  obtain ⟨f, oc, od, kV, doc, pm, an, cdv, ct, osl, h1, h2, h3, h4⟩ := d
  have F := fun_mk (st := st) h2 h3 h4
  exact ⟨f, _, F, PySem.W.mg_of X G h1, F.binds hb⟩
theorem DefInC.mk {c : Addr} (d : DefInC K x st c) (X : K.In h) (G : h.Ns mainGlobals mg) (hb : BindOk x st ps) : DefC K mg x st ps c := by
  obtain ⟨f, oc, od, kV, doc, pm, an, ct, osl, h1, h2, h3, h4⟩ := d
  exact ⟨f, oc, od, kV, doc, pm, an, ct, osl, h2, h3, h4, PySem.W.mg_of X G h1, (fun_mk (st := st) h2 h3 h4).binds hb⟩
end

open PySem PySem.Spec PyProof.Rows L2
/-! ### what the head has written of classes and of second names -/
def MethIn (K : PySem.W.Frag) (C : Addr) (m qual : Str) (st : Stmt) : Prop :=
  ∃ (f : Addr) (oc : Value) (od : Option Addr) (kV doc pm : Value) (an : Option Addr) (cdv ct : Value) (osl : Array (Option Value)),
    PySem.W.findIn K (.ref C) m = some (some (.ref f)) ∧ PySem.W.isFn K (.ref f) = true ∧ K.lookup f = some ⟨oc, od, .func (PySem.W.fnOf m qual (defArgs st) (defBody st) (defScope st) .none kV doc pm an cdv ct), osl⟩ ∧ PySem.W.codeIn K cdv qual = true ∧ PySem.W.keepIn K (.ref f) = true
theorem MethIn.of {K : PySem.W.Frag} {C : Addr} {m qual : Str} {st : Stmt} {f : Addr} {oc : Value} {od : Option Addr} {kV doc pm : Value} {an : Option Addr} {cdv ct : Value} {osl : Array (Option Value)} (h1 : PySem.W.findIn K (.ref C) m = some (some (.ref f))) (h2 : PySem.W.isFn K (.ref f) = true)
    (h3 : K.lookup f = some ⟨oc, od, .func (PySem.W.fnOf m qual (defArgs st) (defBody st) (defScope st) .none kV doc pm an cdv ct), osl⟩) (h4 : PySem.W.codeIn K cdv qual = true) (h5 : PySem.W.keepIn K (.ref f) = true) : MethIn K C m qual st := ⟨f, oc, od, kV, doc, pm, an, cdv, ct, osl, h1, h2, h3, h4, h5⟩
def DefIn2 (K : PySem.W.Frag) (x y : Str) (st : Stmt) : Prop :=
  ∃ (f : Addr) (oc : Value) (od : Option Addr) (kV doc pm : Value) (an : Option Addr) (cdv ct : Value) (osl : Array (Option Value)),
    PySem.W.nsIn K mainGlobals x = some (some (.ref f)) ∧ PySem.W.nsIn K mainGlobals y = some (some (.ref f)) ∧ K.lookup f = some ⟨oc, od, .func (PySem.W.fnOf x x (defArgs st) (defBody st) (defScope st) .none kV doc pm an cdv ct), osl⟩ ∧ PySem.W.codeIn K cdv x = true ∧ PySem.W.keepIn K (.ref f) = true
theorem DefIn2.of {K : PySem.W.Frag} {x y : Str} {st : Stmt} {f : Addr} {oc : Value} {od : Option Addr} {kV doc pm : Value} {an : Option Addr} {cdv ct : Value} {osl : Array (Option Value)} (h1 : PySem.W.nsIn K mainGlobals x = some (some (.ref f))) (h2 : PySem.W.nsIn K mainGlobals y = some (some (.ref f)))
    (h3 : K.lookup f = some ⟨oc, od, .func (PySem.W.fnOf x x (defArgs st) (defBody st) (defScope st) .none kV doc pm an cdv ct), osl⟩) (h4 : PySem.W.codeIn K cdv x = true) (h5 : PySem.W.keepIn K (.ref f) = true) : DefIn2 K x y st := ⟨f, oc, od, kV, doc, pm, an, cdv, ct, osl, h1, h2, h3, h4, h5⟩
section
variable {P : Program} {w : World} {K : PySem.W.Frag} {mg : Str → Option Value} {base : Heap} {h : Heap}
theorem DefIn2.d {x y : Str} {st : Stmt} (d : DefIn2 K x y st) : DefIn K x st := by
  obtain ⟨f, oc, od, kV, doc, pm, an, cdv, ct, osl, h1, _, h3, h4, h5⟩ := d
  exact ⟨f, oc, od, kV, doc, pm, an, cdv, ct, osl, h1, h3, h4, h5⟩
theorem DefIn2.same {x y : Str} {st : Stmt} (d : DefIn2 K x y st) (X : K.In h) (G : h.Ns mainGlobals mg) : mg y = mg x := by
  obtain ⟨f, oc, od, kV, doc, pm, an, cdv, ct, osl, h1, h2, _⟩ := d
  rw [PySem.W.mg_of X G h1, PySem.W.mg_of X G h2]
theorem MethIn.fn {C : Addr} {m qual : Str} {st : Stmt} (d : MethIn K C m qual st) {ps : List Str} (hb : ∀ (kV doc pm : Value) (an : Option Addr) (cdv ct : Value) (us : List Value), us.length = ps.length → bindArgs (PySem.W.fnOf m qual (defArgs st) (defBody st) (defScope st) .none kV doc pm an cdv ct) ⟨us, []⟩ = pure (ps.zip us)) :
    ∃ (f : Addr) (fd : FuncData), Fun K m qual st f fd ∧ Meth K C m f ∧ Binds K fd ps [] := by
  obtain ⟨f, oc, od, kV, doc, pm, an, cdv, ct, osl, h1, h2, h3, h4, h5⟩ := d
  have F := fun_mk (st := st) h3 h4 h5
  exact ⟨f, _, F, ⟨h1, h2, h5⟩, F.binds hb⟩
end

open PySem PySem.Spec PyProof.Rows L2
open PySem.W (ksFn ks_superIn)
theorem exm_selfE {K : PySem.W.Frag} {S : Addr} (h1 : PySem.W.subIn K (.ref S) (.type "BaseException") = some true) (h2 : PySem.W.hasDictIn K S = true) (h3 : PySem.W.typeIn K (.ref S) = some (.type "type")) (h4 : PySem.W.subIn K (.ref S) (.ref S) = some true) :
    PySem.W.exmOne K (.ref S) (.ref S) = some true := PySem.W.exm_ref h1 h2 h3 h4
/-- what the head has written of the code of a def of a class -/
structure InitIn (P : Program) (K : PySem.W.Frag) (fld : Str) (C fI : Addr) (parts : List Expr) (ps : List Pos) (p1 p2 q1 q2 q3 q4 : Pos) (qual : Str) : Prop where
  ex : ∃ (oc : Value) (od : Option Addr) (doc pm kV : Value) (an : Option Addr) (cda cc : Addr) (ct : Value) (osl : Array (Option Value)),
    K.lookup fI = some ⟨oc, od, .func (ksFn "__init__" qual (supA fld p1 p2) (supB fld parts ps q1 q2 q3 q4) (supS fld) .none kV doc pm an (.ref cda) ct cc), osl⟩ ∧ PySem.W.codeIn K (.ref cda) qual = true ∧
    (∃ ccl cdd vs ccs file tf, K.lookup cda = some ⟨ccl, cdd, .fields vs, ccs⟩ ∧ vs[2]? = some (.str file tf) ∧ ((P.main.file : Str) == file) = true) ∧
    (∃ cl cld csl, K.lookup cc = some ⟨cl, cld, .cell (some (.ref C)), csl⟩)
theorem InitIn.of {P : Program} {K : PySem.W.Frag} {fld : Str} {C fI : Addr} {parts : List Expr} {ps : List Pos} {p1 p2 q1 q2 q3 q4 : Pos} {qual : Str} {oc : Value} {od : Option Addr} {doc pm kV : Value} {an : Option Addr} {cda cc : Addr} {ct : Value} {osl : Array (Option Value)} {ccl : Value} {cdd : Option Addr} {vs : Array Value} {ccs : Array (Option Value)} {file : Str} {tf : Tok} {cl : Value} {cld : Option Addr} {csl : Array (Option Value)}
    (h1 : K.lookup fI = some ⟨oc, od, .func (ksFn "__init__" qual (supA fld p1 p2) (supB fld parts ps q1 q2 q3 q4) (supS fld) .none kV doc pm an (.ref cda) ct cc), osl⟩) (h2 : PySem.W.codeIn K (.ref cda) qual = true)
    (h3 : K.lookup cda = some ⟨ccl, cdd, .fields vs, ccs⟩) (h4 : vs[2]? = some (.str file tf)) (h5 : ((P.main.file : Str) == file) = true) (h6 : K.lookup cc = some ⟨cl, cld, .cell (some (.ref C)), csl⟩) : InitIn P K fld C fI parts ps p1 p2 q1 q2 q3 q4 qual :=
  ⟨oc, od, doc, pm, kV, an, cda, cc, ct, osl, h1, h2, ⟨ccl, cdd, vs, ccs, file, tf, h3, h4, h5⟩, ⟨cl, cld, csl, h6⟩⟩
structure ClsIn (P : Program) (K : PySem.W.Frag) (nm fld : Str) (C fI CN : Addr) : Prop where
  aC : PySem.W.nsIn K mainGlobals nm = some (some (.ref C))
  cls : ∃ nm q N bs sn sub ab col dd k0 k1 k2 k3 k5, K.lookup C = some (excClassObj nm q C N bs [.ref CN, .type "ValueError", .type "Exception", .type "BaseException", .type "object"] true sn sub ab col dd k0 k1 k2 k3 k5 "ValueError.__new__")
  sa : PySem.W.findIn K (.ref C) "__setattr__" = some (some (.builtin "object.__setattr__"))
  ga : PySem.W.findIn K (.ref C) "__getattribute__" = some (some (.builtin "BaseException.__getattribute__"))
  gg : PySem.W.findIn K (.ref C) "__getattr__" = some none
  noN : PySem.W.findIn K (.ref C) fld = some none
  iC : PySem.W.findIn K (.ref C) "__init__" = some (some (.ref fI))
  tC : PySem.W.typeIn K (.ref fI) = some (.type "function")
  kC : PySem.W.keepIn K (.ref C) = true
  exC : PySem.W.subIn K (.ref C) (.type "BaseException") = some true
  tyC : PySem.W.typeIn K (.ref C) = some (.type "type")
  hdC : PySem.W.hasDictIn K C = true
  sC : PySem.W.subIn K (.ref C) (.ref C) = some true
  sup : ks_superIn K C C "__init__" = some (some (.builtin "ValueError.__init__"))
  subV : PySem.W.subIn K (.ref C) (.type "ValueError") = some true
  selfC : PySem.W.mroIn K C (.ref C) = some true
  gsup : PySem.W.nsIn K mainGlobals "super" = some none
  opq : PySem.W.nsIn K cStatics "thirdparty.any" = some none
  ha : PySem.W.findIn K (.ref C) "__class__" = some (some (.builtin "object.__class__"))
  hn : PySem.W.specialIn K (.builtin "object.__class__") "__get__" = some (some (.builtin "getset_descriptor.__get__"))
  ht : PySem.W.takesIn K (.builtin "object.__class__") = some true
  hm : PySem.W.mroIn K C (.type "object") = some true
theorem ClsIn.of {P : Program} {K : PySem.W.Frag} {nm fld : Str} {C fI CN : Addr} {nm' q : Str} {N : Addr} {bs : List Value} {sn : List Str} {sub : List Value} {ab : Bool} {col : Option Bool} {dd : Option Addr} {k0 k1 k2 k3 k5 : Option Value}
    (aC : PySem.W.nsIn K mainGlobals nm = some (some (.ref C)))
    (cls : K.lookup C = some (excClassObj nm' q C N bs [.ref CN, .type "ValueError", .type "Exception", .type "BaseException", .type "object"] true sn sub ab col dd k0 k1 k2 k3 k5 "ValueError.__new__"))
    (sa : PySem.W.findIn K (.ref C) "__setattr__" = some (some (.builtin "object.__setattr__")))
    (ga : PySem.W.findIn K (.ref C) "__getattribute__" = some (some (.builtin "BaseException.__getattribute__")))
    (gg : PySem.W.findIn K (.ref C) "__getattr__" = some none)
    (noN : PySem.W.findIn K (.ref C) fld = some none)
    (iC : PySem.W.findIn K (.ref C) "__init__" = some (some (.ref fI)))
    (tC : PySem.W.typeIn K (.ref fI) = some (.type "function"))
    (kC : PySem.W.keepIn K (.ref C) = true)
    (exC : PySem.W.subIn K (.ref C) (.type "BaseException") = some true)
    (tyC : PySem.W.typeIn K (.ref C) = some (.type "type"))
    (hdC : PySem.W.hasDictIn K C = true)
    (sC : PySem.W.subIn K (.ref C) (.ref C) = some true)
    (sup : ks_superIn K C C "__init__" = some (some (.builtin "ValueError.__init__")))
    (subV : PySem.W.subIn K (.ref C) (.type "ValueError") = some true)
    (selfC : PySem.W.mroIn K C (.ref C) = some true)
    (gsup : PySem.W.nsIn K mainGlobals "super" = some none)
    (opq : PySem.W.nsIn K cStatics "thirdparty.any" = some none)
    (ha : PySem.W.findIn K (.ref C) "__class__" = some (some (.builtin "object.__class__")))
    (hn : PySem.W.specialIn K (.builtin "object.__class__") "__get__" = some (some (.builtin "getset_descriptor.__get__")))
    (ht : PySem.W.takesIn K (.builtin "object.__class__") = some true)
    (hm : PySem.W.mroIn K C (.type "object") = some true) : ClsIn P K nm fld C fI CN :=
  ⟨aC, ⟨nm', q, N, bs, sn, sub, ab, col, dd, k0, k1, k2, k3, k5, cls⟩, sa, ga, gg, noN, iC, tC, kC, exC, tyC, hdC, sC, sup, subV, selfC, gsup, opq, ha, hn, ht, hm⟩
theorem ExcT.of {P : Program} {K : PySem.W.Frag} {h : Heap} {mg : Str → Option Value} {nm fld : Str} {C fI CN : Addr} {parts : List Expr} {ps : List Pos} {p1 p2 q1 q2 q3 q4 : Pos} {qual : Str} (X : K.In h) (G : h.Ns mainGlobals mg) (c : ClsIn P K nm fld C fI CN) (i : InitIn P K fld C fI parts ps p1 p2 q1 q2 q3 q4 qual)
    (htop : (P.main.scope.names.lookup ("super" : Str)).isSome = false) (hp : PartsOk fld parts (pz ps 3)) (hc : CallOk fld parts ps) : ExcT P K mg nm fld C fI where
  gC := PySem.W.mg_of X G c.aC
  cls := by
    obtain ⟨nm, q, N, bs, sn, sub, ab, col, dd, k0, k1, k2, k3, k5, e⟩ := c.cls
    exact ⟨nm, q, N, bs, _, sn, sub, ab, col, dd, k0, k1, k2, k3, k5, e, rfl⟩
  sa := c.sa
  ga := c.ga
  gg := c.gg
  noN := c.noN
  iC := c.iC
  tC := c.tC
  kC := c.kC
  exC := c.exC
  tyC := c.tyC
  hdC := c.hdC
  te := exm_selfE c.exC c.hdC c.tyC c.sC
  sup := c.sup
  subV := c.subV
  selfC := c.selfC
  gsup := c.gsup
  opq := c.opq
  htop := htop
  fn := by
    obtain ⟨oc, od, doc, pm, kV, an, cda, cc, ct, osl, h1, h2, h3, h4⟩ := i.ex
    exact ⟨oc, od, doc, pm, kV, an, cda, cc, ct, osl, p1, p2, q1, q2, q3, q4, ps, parts, qual, h1, h2, h3, h4, hp, hc⟩
  ec := ⟨c.ga, c.gg, c.exC, c.hdC, c.ha, c.hn, c.ht, c.hm⟩
theorem parts2 {fld c1 : Str} {k1 : Nat} {p1 p2 p3 jp : Pos} (FO : FldOk fld) (hc : c1.length ≤ 100) : PartsOk fld [.Constant (.str c1) k1 p1, .FormattedValue (.Name fld p2) (-1) none p3] jp :=
  fun _ _ _ _ _ _ _ _ _ _ _ _ _ hn hv hs h => join2 hn hv hs FO.fl FO.db hc h
theorem parts3 {fld c1 c2 : Str} {k1 k2 : Nat} {p1 p2 p3 p4 jp : Pos} (FO : FldOk fld) (hc : c1.length ≤ 100) (hc2 : c2.length ≤ 100) : PartsOk fld [.Constant (.str c1) k1 p1, .FormattedValue (.Name fld p2) (-1) none p3, .Constant (.str c2) k2 p4] jp :=
  fun _ _ _ _ _ _ _ _ _ _ _ _ _ hn hv hs h => join3 hn hv hs FO.fl FO.db hc hc2 h

open PySem PySem.Spec PyProof.Rows L2
abbrev parts_BadText : List Expr := [.Constant (.str "line ") 0 ⟨7, 27, 7, 32⟩, .FormattedValue (.Name "line" ⟨7, 33, 7, 37⟩) (-1) none ⟨7, 32, 7, 38⟩, .Constant (.str " is wrong") 0 ⟨7, 38, 7, 47⟩]
abbrev ps_BadText : List Pos := [⟨7, 8, 7, 13⟩, ⟨7, 8, 7, 15⟩, ⟨7, 8, 7, 24⟩, ⟨7, 25, 7, 48⟩, ⟨7, 8, 7, 49⟩, ⟨7, 8, 7, 49⟩]
theorem all_mk {l : PySem.W.OpenLaw} {w : World} {K : PySem.W.Frag} {h : Heap} {mg : Str → Option Value} {fa CN C_BadText I_BadText CA NF : Addr} (X : K.In h) (G : h.Ns mainGlobals mg) (hfa : mg "law" = some (.ref fa))
    (d1 : DefIn K "is_word" s_is_word) (d2 : DefIn K "is_number" s_is_number) (d3 : DefIn K "is_id" s_is_id) (d4 : DefIn K "is_label" s_is_label) (d5 : DefIn K "is_name" s_is_name) (d6 : DefIn K "read_number" s_read_number) (d7 : DefIn K "read_id" s_read_id) (d8 : DefIn K "read_name" s_read_name) (d9 : DefIn K "read_ids" s_read_ids) (d10 : DefIn K "read_numbers" s_read_numbers) (d11 : DefIn K "read_slot" s_read_slot) (d12 : DefIn K "split_slot" s_split_slot) (d13 : DefIn K "read_hosts_item" s_read_hosts_item) (d14 : DefIn K "read_sealed_item" s_read_sealed_item) (d15 : DefIn K "read_placed" s_read_placed) (d16 : DefIn K "read_deed" s_read_deed) (d17 : DefIn K "read_step" s_read_step) (d18 : DefIn K "read_wait" s_read_wait) (d19 : DefIn K "read_event" s_read_event) (d20 : DefIn K "read_case_line" s_read_case_line) (d21 : DefIn K "split_lines" s_split_lines) (d22 : DefIn K "read_line" s_read_line) (d23 : DefIn K "read_lines" s_read_lines) (d24 : DefIn K "read_groups" s_read_groups) (d25 : DefIn K "read_case" s_read_case) (d26 : DefIn K "read_plan" s_read_plan) (d27 : DefIn K "read_table" s_read_table) (d28 : DefIn K "read_history" s_read_history) (d29 : DefIn K "_law_mix" s_law_mix) (d30 : DefIn K "_law_tape" s_law_tape) (d31 : DefIn K "_law_take" s_law_take) (d32 : DefIn K "_law_right" s_law_right) (d33 : DefIn K "_law_groups" s_law_groups) (d34 : DefIn K "_law_spoilt" s_law_spoilt) (d35 : DefIn K "_law_told" s_law_told) (d36 : DefIn K "_law_texts" s_law_texts) (d37 : DefIn K "_law_case_lines" s_law_case_lines) (d38 : DefIn K "_law_case" s_law_case) (d39 : DefIn K "law" s_law)
    (c_BadText : ClsIn l.prog K "BadText" "line" C_BadText I_BadText CN) (i_BadText : InitIn l.prog K "line" C_BadText I_BadText parts_BadText ps_BadText ⟨6, 17, 6, 21⟩ ⟨6, 23, 6, 27⟩ ⟨8, 8, 8, 12⟩ ⟨8, 8, 8, 17⟩ ⟨8, 20, 8, 24⟩ ⟨8, 8, 8, 24⟩ "BadText.__init__")
    (tp : (l.prog.main.scope.names.lookup ("super" : Str)).isSome = false)
    (aN : PySem.W.nsIn K mainGlobals "NeverdarkError" = some (some (.ref CN)))
    (aA : PySem.W.nsIn K mainGlobals "NotAllowed" = some (some (.ref CA)))
    (kN : PySem.W.kitOne K (.ref C_BadText) (.ref CN) = some true)
    (kA : PySem.W.kitOne K (.ref C_BadText) (.ref CA) = some false)
    (nF : PySem.W.nsIn K mainGlobals "NoForm" = some (some (.ref NF)))
    (nX : PySem.W.excIn K NF [.type "ValueError", .type "Exception", .type "BaseException", .type "object"] "ValueError.__new__" = true)
    (nK : PySem.W.keepIn K (.ref NF) = true)
    (nB : PySem.W.subIn K (.ref NF) (.type "BaseException") = some true)
    (nT : PySem.W.typeIn K (.ref NF) = some (.type "type"))
    (nD : PySem.W.hasDictIn K NF = true)
    (nS : PySem.W.subIn K (.ref NF) (.ref NF) = some true)
    (mb : ∀ x ∈ bltns, PySem.W.nsIn K mainGlobals x = some none) (c1 : ∃ t, PySem.W.nsIn K mainGlobals "DIGITS" = some (some (.str "0123456789" t))) (c2 : ∃ t, PySem.W.nsIn K mainGlobals "LETTERS" = some (some (.str "abcdefghijklmnopqrstuvwxyz0123456789" t))) (c3 : ∃ t, PySem.W.nsIn K mainGlobals "MAX_DIGITS" = some (some (.int 5 t))) (c4 : ∃ t, PySem.W.nsIn K mainGlobals "MAX_ID" = some (some (.int 4 t))) (c5 : ∃ t, PySem.W.nsIn K mainGlobals "MAX_LABEL" = some (some (.int 8 t))) (c6 : ∃ t, PySem.W.nsIn K mainGlobals "MAX_LABELS" = some (some (.int 4 t))) (c7 : ∃ t, PySem.W.nsIn K mainGlobals "HOSTS_FIRST" = some (some (.int 0 t))) (c8 : ∃ t, PySem.W.nsIn K mainGlobals "HOSTS_LAST" = some (some (.int 10000 t))) (c9 : ∃ t, PySem.W.nsIn K mainGlobals "ZONES" = some (some (.int 0 t))) (c10 : ∃ t, PySem.W.nsIn K mainGlobals "ANCHORS" = some (some (.int 1 t))) (c11 : ∃ t, PySem.W.nsIn K mainGlobals "SETS" = some (some (.int 2 t))) (c12 : ∃ t, PySem.W.nsIn K mainGlobals "ITEMS" = some (some (.int 3 t))) (c13 : ∃ t, PySem.W.nsIn K mainGlobals "SERVERS" = some (some (.int 4 t))) (c14 : ∃ t, PySem.W.nsIn K mainGlobals "DEEDS" = some (some (.int 5 t))) (c15 : ∃ t, PySem.W.nsIn K mainGlobals "PAIRS" = some (some (.int 6 t))) (c16 : ∃ t, PySem.W.nsIn K mainGlobals "END" = some (some (.int 7 t))) :
    LamX.LawAtS l w K CX0 15 63 "script" mg fa h := by
  have M : Cst mg := ⟨c1.imp fun _ e => PySem.W.mg_of X G e, c2.imp fun _ e => PySem.W.mg_of X G e, c3.imp fun _ e => PySem.W.mg_of X G e, c4.imp fun _ e => PySem.W.mg_of X G e, c5.imp fun _ e => PySem.W.mg_of X G e, c6.imp fun _ e => PySem.W.mg_of X G e, c7.imp fun _ e => PySem.W.mg_of X G e, c8.imp fun _ e => PySem.W.mg_of X G e, c9.imp fun _ e => PySem.W.mg_of X G e, c10.imp fun _ e => PySem.W.mg_of X G e, c11.imp fun _ e => PySem.W.mg_of X G e, c12.imp fun _ e => PySem.W.mg_of X G e, c13.imp fun _ e => PySem.W.mg_of X G e, c14.imp fun _ e => PySem.W.mg_of X G e, c15.imp fun _ e => PySem.W.mg_of X G e, c16.imp fun _ e => PySem.W.mg_of X G e⟩
  have mb : ∀ x ∈ bltns, mg x = none := fun x hx => PySem.W.mg_none_of X G (mb x hx)
  have T_BadText : ExcT l.prog K mg "BadText" "line" C_BadText I_BadText := ExcT.of X G c_BadText i_BadText tp (parts3 fld_line (by decide +kernel) (by decide +kernel)) (fun _ _ _ _ _ => ⟨_, rfl⟩)
  obtain ⟨f, oc, od, kV, doc, pm, an, cdv, ct, osl, h1, h2, h3, h4⟩ := d39
  have F_law := fun_mk (st := s_law) h2 h3 h4
  have e := hfa.symm.trans (PySem.W.mg_of X G h1)
  cases e
  have D_is_word := d1.mk (ps := ["text", "letters", "most"]) X G fun _ _ _ _ _ _ us hl => match us, hl with | [_, _, _], _ => rfl
  have D_is_number := d2.mk (ps := ["text"]) X G fun _ _ _ _ _ _ us hl => match us, hl with | [_], _ => rfl
  have D_is_id := d3.mk (ps := ["text"]) X G fun _ _ _ _ _ _ us hl => match us, hl with | [_], _ => rfl
  have D_is_label := d4.mk (ps := ["text"]) X G fun _ _ _ _ _ _ us hl => match us, hl with | [_], _ => rfl
  have D_is_name := d5.mk (ps := ["text"]) X G fun _ _ _ _ _ _ us hl => match us, hl with | [_], _ => rfl
  have D_read_number := d6.mk (ps := ["word"]) X G fun _ _ _ _ _ _ us hl => match us, hl with | [_], _ => rfl
  have D_read_id := d7.mk (ps := ["word"]) X G fun _ _ _ _ _ _ us hl => match us, hl with | [_], _ => rfl
  have D_read_name := d8.mk (ps := ["word"]) X G fun _ _ _ _ _ _ us hl => match us, hl with | [_], _ => rfl
  have D_read_ids := d9.mk (ps := ["word"]) X G fun _ _ _ _ _ _ us hl => match us, hl with | [_], _ => rfl
  have D_read_numbers := d10.mk (ps := ["words"]) X G fun _ _ _ _ _ _ us hl => match us, hl with | [_], _ => rfl
  have D_read_slot := d11.mk (ps := ["words"]) X G fun _ _ _ _ _ _ us hl => match us, hl with | [_], _ => rfl
  have D_split_slot := d12.mk (ps := ["words"]) X G fun _ _ _ _ _ _ us hl => match us, hl with | [_], _ => rfl
  have D_read_hosts_item := d13.mk (ps := ["words"]) X G fun _ _ _ _ _ _ us hl => match us, hl with | [_], _ => rfl
  have D_read_sealed_item := d14.mk (ps := ["words"]) X G fun _ _ _ _ _ _ us hl => match us, hl with | [_], _ => rfl
  have D_read_placed := d15.mk (ps := ["words"]) X G fun _ _ _ _ _ _ us hl => match us, hl with | [_], _ => rfl
  have D_read_deed := d16.mk (ps := ["words"]) X G fun _ _ _ _ _ _ us hl => match us, hl with | [_], _ => rfl
  have D_read_step := d17.mk (ps := ["words"]) X G fun _ _ _ _ _ _ us hl => match us, hl with | [_], _ => rfl
  have D_read_wait := d18.mk (ps := ["words"]) X G fun _ _ _ _ _ _ us hl => match us, hl with | [_], _ => rfl
  have D_read_event := d19.mk (ps := ["words"]) X G fun _ _ _ _ _ _ us hl => match us, hl with | [_], _ => rfl
  have D_read_case_line := d20.mk (ps := ["words"]) X G fun _ _ _ _ _ _ us hl => match us, hl with | [_], _ => rfl
  have D_split_lines := d21.mk (ps := ["text"]) X G fun _ _ _ _ _ _ us hl => match us, hl with | [_], _ => rfl
  have D_read_line := d22.mk (ps := ["read", "words", "at"]) X G fun _ _ _ _ _ _ us hl => match us, hl with | [_, _, _], _ => rfl
  have D_read_lines := d23.mk (ps := ["read", "text"]) X G fun _ _ _ _ _ _ us hl => match us, hl with | [_, _], _ => rfl
  have D_read_groups := d24.mk (ps := ["text"]) X G fun _ _ _ _ _ _ us hl => match us, hl with | [_], _ => rfl
  have D_read_case := d25.mk (ps := ["text"]) X G fun _ _ _ _ _ _ us hl => match us, hl with | [_], _ => rfl
  have D_read_plan := d26.mk (ps := ["text"]) X G fun _ _ _ _ _ _ us hl => match us, hl with | [_], _ => rfl
  have D_read_table := d27.mk (ps := ["text"]) X G fun _ _ _ _ _ _ us hl => match us, hl with | [_], _ => rfl
  have D_read_history := d28.mk (ps := ["text"]) X G fun _ _ _ _ _ _ us hl => match us, hl with | [_], _ => rfl
  have D_law_mix := d29.mk (ps := ["number"]) X G fun _ _ _ _ _ _ us hl => match us, hl with | [_], _ => rfl
  have D_law_tape := d30.mk (ps := ["script", "budget"]) X G fun _ _ _ _ _ _ us hl => match us, hl with | [_, _], _ => rfl
  have D_law_take := d31.mk (ps := ["tape", "many"]) X G fun _ _ _ _ _ _ us hl => match us, hl with | [_, _], _ => rfl
  have D_law_right := d32.mk (ps := ["kind"]) X G fun _ _ _ _ _ _ us hl => match us, hl with | [_], _ => rfl
  have D_law_groups := d33.mk (ps := []) X G fun _ _ _ _ _ _ us hl => match us, hl with | [], _ => rfl
  have D_law_spoilt := d34.mk (ps := ["tape", "line"]) X G fun _ _ _ _ _ _ us hl => match us, hl with | [_, _], _ => rfl
  have D_law_told := d35.mk (ps := ["read", "text"]) X G fun _ _ _ _ _ _ us hl => match us, hl with | [_, _], _ => rfl
  have D_law_texts := d36.mk (ps := ["tape", "kind", "read"]) X G fun _ _ _ _ _ _ us hl => match us, hl with | [_, _, _], _ => rfl
  have D_law_case_lines := d37.mk (ps := ["tape"]) X G fun _ _ _ _ _ _ us hl => match us, hl with | [_], _ => rfl
  have D_law_case := d38.mk (ps := ["tape"]) X G fun _ _ _ _ _ _ us hl => match us, hl with | [_], _ => rfl
  refine ⟨PySem.W.fnOf "law" "law" (defArgs s_law) (defBody s_law) (defScope s_law) .none kV doc pm an cdv ct, [], spLaw [] K, fun p hp => ?_, fun p hp => ?_, fun p hp => ?_, fun s u => .of_eq rfl, fun H a ns hl _ hT hS => ?_, fun base _ _ hTB => ?_⟩
  · cases hp
  · cases hp
  · cases hp
  · exact ⟨a, ns, rfl, hS, hl, fun _ => rfl⟩
  · have X_NF : PlainX K mg "NoForm" NF := ⟨PySem.W.mg_of X G nF, nX, nK, nB, nT, exm_selfE nB nD nT nS⟩
    have EI : ErrIs3 K mg C_BadText CN CA := ⟨PySem.W.mg_of X G aN, PySem.W.mg_of X G aA, kN, kA⟩
    have O_law_mix := ok_law_mix (P := l.prog) (w := w) (base := base) (D := D_law_mix) (mb := mb)
    have O_law_tape := ok_law_tape (P := l.prog) (w := w) (base := base) (T := []) (D := D_law_tape) (mb := mb)
    have O_law_take := ok_law_take (P := l.prog) (w := w) (base := base) (T := []) (D := D_law_take) (mb := mb) (G_law_mix := O_law_mix)
    have O_is_word := ok_is_word (P := l.prog) (w := w) (base := base) (T := []) (D := D_is_word) (mb := mb)
    have O_is_id := ok_is_id (P := l.prog) (w := w) (base := base) (T := []) (D := D_is_id) (M := M) (G_is_word := O_is_word)
    have O_is_label := ok_is_label (P := l.prog) (w := w) (base := base) (T := []) (D := D_is_label) (M := M) (G_is_word := O_is_word)
    have O_is_name := ok_is_name (P := l.prog) (w := w) (base := base) (T := []) (D := D_is_name) (mb := mb) (M := M) (G_is_label := O_is_label)
    have O_is_number := ok_is_number (P := l.prog) (w := w) (base := base) (T := []) (D := D_is_number) (mb := mb) (M := M) (G_is_word := O_is_word)
    have O_read_number := ok_read_number (P := l.prog) (w := w) (base := base) (T := []) (NF := NF) (D := D_read_number) (mb := mb) (X_NoForm := X_NF) (G_is_number := O_is_number)
    have O_read_id := ok_read_id (P := l.prog) (w := w) (base := base) (T := []) (NF := NF) (D := D_read_id) (mb := mb) (X_NoForm := X_NF) (G_is_id := O_is_id)
    have O_read_name := ok_read_name (P := l.prog) (w := w) (base := base) (T := []) (NF := NF) (D := D_read_name) (mb := mb) (X_NoForm := X_NF) (G_is_name := O_is_name)
    have O_read_ids := ok_read_ids (P := l.prog) (w := w) (base := base) (T := []) (NF := NF) (D := D_read_ids) (mb := mb) (G_read_id := O_read_id)
    have O_read_numbers := ok_read_numbers (P := l.prog) (w := w) (base := base) (T := []) (NF := NF) (D := D_read_numbers) (mb := mb) (G_read_number := O_read_number)
    have O_read_slot := ok_read_slot (P := l.prog) (w := w) (base := base) (T := []) (NF := NF) (D := D_read_slot) (mb := mb) (X_NoForm := X_NF) (G_read_name := O_read_name) (G_read_id := O_read_id)
    have O_split_slot := ok_split_slot (P := l.prog) (w := w) (base := base) (T := []) (NF := NF) (D := D_split_slot) (G_read_slot := O_read_slot)
    have O_read_hosts_item := ok_read_hosts_item (P := l.prog) (w := w) (base := base) (T := []) (NF := NF) (D := D_read_hosts_item) (M := M) (X_NoForm := X_NF) (G_read_ids := O_read_ids) (G_read_number := O_read_number)
    have O_read_sealed_item := ok_read_sealed_item (P := l.prog) (w := w) (base := base) (T := []) (NF := NF) (D := D_read_sealed_item) (mb := mb) (X_NoForm := X_NF) (G_read_ids := O_read_ids) (G_read_number := O_read_number)
    have O_read_placed := ok_read_placed (P := l.prog) (w := w) (base := base) (T := []) (NF := NF) (D := D_read_placed) (mb := mb) (X_NoForm := X_NF) (G_split_slot := O_split_slot) (G_read_hosts_item := O_read_hosts_item) (G_read_sealed_item := O_read_sealed_item)
    have O_read_deed := ok_read_deed (P := l.prog) (w := w) (base := base) (T := []) (NF := NF) (D := D_read_deed) (mb := mb) (X_NoForm := X_NF) (G_read_placed := O_read_placed) (G_read_id := O_read_id) (G_read_name := O_read_name)
    have O_read_step := ok_read_step (P := l.prog) (w := w) (base := base) (T := []) (NF := NF) (D := D_read_step) (mb := mb) (X_NoForm := X_NF) (G_read_number := O_read_number) (G_read_deed := O_read_deed)
    have O_read_wait := ok_read_wait (P := l.prog) (w := w) (base := base) (T := []) (NF := NF) (D := D_read_wait) (mb := mb) (X_NoForm := X_NF) (G_read_numbers := O_read_numbers)
    have O_read_event := ok_read_event (P := l.prog) (w := w) (base := base) (T := []) (NF := NF) (D := D_read_event) (mb := mb) (X_NoForm := X_NF) (G_read_number := O_read_number) (G_split_slot := O_split_slot) (G_read_numbers := O_read_numbers) (G_read_name := O_read_name) (G_read_id := O_read_id) (G_read_slot := O_read_slot) (G_read_placed := O_read_placed)
    have O_read_case_line := ok_read_case_line (P := l.prog) (w := w) (base := base) (T := []) (NF := NF) (D := D_read_case_line) (mb := mb) (M := M) (X_NoForm := X_NF) (G_read_number := O_read_number) (G_read_name := O_read_name) (G_read_id := O_read_id) (G_read_deed := O_read_deed) (G_read_placed := O_read_placed)
    have O_split_lines := ok_split_lines (P := l.prog) (w := w) (base := base) (T := []) (D := D_split_lines) (mb := mb)
    obtain ⟨fw, mw, hw⟩ := held_oneN (O_read_wait.mono (by decide : 5 ≤ 9))
    have O_line_w := ok_read_line (P := l.prog) (w := w) (base := base) (NF := NF) (D := D_read_line) (X_NoForm := X_NF) (T_BadText := T_BadText) (S := oneS fw (spLn [] NF waitF)) (A_read := one_held hw)
    have O_lines_w := ok_read_lines (P := l.prog) (w := w) (base := base) (T := []) (NF := NF) (D := D_read_lines) (mb := mb) (G_split_lines := O_split_lines) (C := C_BadText) (f0 := fw) (F := waitF) (G_read_line := O_line_w)
    obtain ⟨fs, ms, hs⟩ := held_oneN O_read_step
    have O_line_s := ok_read_line (P := l.prog) (w := w) (base := base) (NF := NF) (D := D_read_line) (X_NoForm := X_NF) (T_BadText := T_BadText) (S := oneS fs (spLn [] NF stepF)) (A_read := one_held hs)
    have O_lines_s := ok_read_lines (P := l.prog) (w := w) (base := base) (T := []) (NF := NF) (D := D_read_lines) (mb := mb) (G_split_lines := O_split_lines) (C := C_BadText) (f0 := fs) (F := stepF) (G_read_line := O_line_s)
    obtain ⟨fe, me, he⟩ := held_oneN (O_read_event.mono (by decide : 8 ≤ 9))
    have O_line_e := ok_read_line (P := l.prog) (w := w) (base := base) (NF := NF) (D := D_read_line) (X_NoForm := X_NF) (T_BadText := T_BadText) (S := oneS fe (spLn [] NF eventF)) (A_read := one_held he)
    have O_lines_e := ok_read_lines (P := l.prog) (w := w) (base := base) (T := []) (NF := NF) (D := D_read_lines) (mb := mb) (G_split_lines := O_split_lines) (C := C_BadText) (f0 := fe) (F := eventF) (G_read_line := O_line_e)
    obtain ⟨fc, mc, hc⟩ := held_oneN O_read_case_line
    have O_line_c := ok_read_line (P := l.prog) (w := w) (base := base) (NF := NF) (D := D_read_line) (X_NoForm := X_NF) (T_BadText := T_BadText) (S := oneS fc (spLnC [] NF)) (A_read := one_held hc)
    have O_read_table := ok_read_table (P := l.prog) (w := w) (base := base) (T := []) (D := D_read_table) (C := C_BadText) (fw := fw) (m_read_wait := mw) (G_read_lines := O_lines_w)
    have O_read_plan := ok_read_plan (P := l.prog) (w := w) (base := base) (T := []) (D := D_read_plan) (C := C_BadText) (fs := fs) (m_read_step := ms) (G_read_lines := O_lines_s)
    have O_read_history := ok_read_history (P := l.prog) (w := w) (base := base) (T := []) (D := D_read_history) (C := C_BadText) (fe := fe) (m_read_event := me) (G_read_lines := O_lines_e)
    have O_read_groups := ok_read_groups (P := l.prog) (w := w) (base := base) (T := []) (NF := NF) (D := D_read_groups) (mb := mb) (M := M) (T_BadText := T_BadText) (G_split_lines := O_split_lines) (C := C_BadText) (fc := fc) (m_read_case_line := mc) (G_read_line := O_line_c)
    have O_read_case := ok_read_case (P := l.prog) (w := w) (base := base) (T := []) (D := D_read_case) (mb := mb) (M := M) (G_read_groups := O_read_groups) (C := C_BadText)
    obtain ⟨q1, n1, p1⟩ := held_oneX O_read_table
    obtain ⟨q2, n2, p2⟩ := held_oneX O_read_plan
    obtain ⟨q3, n3, p3⟩ := held_oneX O_read_history
    obtain ⟨q4, n4, p4⟩ := held_oneX O_read_case
    let R : Addr → (Str → Option Nat) → Prop := fun f B => (f = q1 ∧ B = fun z => fb (kdF .tb) (rowsF z) 1) ∨ (f = q2 ∧ B = fun z => fb (kdF .pl) (rowsF z) 1) ∨ (f = q3 ∧ B = fun z => fb (kdF .hi) (rowsF z) 1) ∨ (f = q4 ∧ B = caseB)
    have AR : ∀ f sp, (∃ B, R f B ∧ sp = spTxt [] C_BadText B) → HeldE (L2.CX l.prog w) l.prog w K mg base 12 f sp := by
      rintro f sp ⟨B, hB, rfl⟩
      rcases hB with ⟨rfl, rfl⟩ | ⟨rfl, rfl⟩ | ⟨rfl, rfl⟩ | ⟨rfl, rfl⟩
      · exact p1
      · exact p2
      · exact p3
      · exact p4
    have O_law_told := ok_law_told (P := l.prog) (w := w) (base := base) (T := []) (D := D_law_told) (mb := mb) (T_BadText := T_BadText) (R := R) (EI := EI) (A_read := AR)
    have O_law_right := ok_law_right (P := l.prog) (w := w) (base := base) (T := []) (D := D_law_right) (mb := mb)
    have O_law_groups := ok_law_groups (P := l.prog) (w := w) (base := base) (T := []) (D := D_law_groups) (mb := mb)
    have O_law_spoilt := ok_law_spoilt (P := l.prog) (w := w) (base := base) (T := []) (D := D_law_spoilt) (mb := mb) (G_law_take := O_law_take)
    have O_law_texts := ok_law_texts (P := l.prog) (w := w) (base := base) (T := []) (D := D_law_texts) (mb := mb) (G_law_take := O_law_take) (G_law_right := O_law_right) (G_law_spoilt := O_law_spoilt) (G_law_told := O_law_told) (R := R)
    have O_law_case_lines := ok_law_case_lines (P := l.prog) (w := w) (base := base) (T := []) (D := D_law_case_lines) (mb := mb) (G_law_take := O_law_take) (G_law_groups := O_law_groups)
    have O_law_case := ok_law_case (P := l.prog) (w := w) (base := base) (T := []) (D := D_law_case) (mb := mb) (G_law_take := O_law_take) (G_law_case_lines := O_law_case_lines) (G_law_spoilt := O_law_spoilt) (G_law_told := O_law_told) (R := R) (m_read_case := n4) (hR := .inr (.inr (.inr ⟨rfl, rfl⟩)))
    exact ok_law (R := R) F_law mb n1 n2 n3 n4 (.inl ⟨rfl, rfl⟩) (.inr (.inl ⟨rfl, rfl⟩)) (.inr (.inr (.inl ⟨rfl, rfl⟩))) (.inr (.inr (.inr ⟨rfl, rfl⟩))) O_law_tape O_law_texts O_law_case O_law_told

end NK
open PySem PySem.W PyProof.Rows
set_option maxHeartbeats 0 in
theorem PySem.Challenge.cw_neverdark_k03_first_wrong_line_holds : PySem.Challenge.rw_neverdark_k03_first_wrong_line.Holds := by
  w_on; o_law; k_head; (case hw => w_witness2)
  k_fill
  refine LamX.walk_ofTs (l := PySem.Challenge.rw_neverdark_k03_first_wrong_line) (n := 63) (k := 15) (x := "script") (CX := fun _ => L2.CX0) rfl (by decide) rfl ⟨rfl, by decide, by decide⟩ (fun w h Y => Y) ?F (fun _ _ _ _ _ h => h)
  case F =>
    intro w mg fa h Y KX G hmg
    refine' NK.all_mk KX G hmg ?d1 ?d2 ?d3 ?d4 ?d5 ?d6 ?d7 ?d8 ?d9 ?d10 ?d11 ?d12 ?d13 ?d14 ?d15 ?d16 ?d17 ?d18 ?d19 ?d20 ?d21 ?d22 ?d23 ?d24 ?d25 ?d26 ?d27 ?d28 ?d29 ?d30 ?d31 ?d32 ?d33 ?d34 ?d35 ?d36 ?d37 ?d38 ?d39 ?c_BadText ?i_BadText ?tp ?aN ?aA ?kN ?kA ?nF ?nX ?nK ?nB ?nT ?nD ?nS ?mb ?c1 ?c2 ?c3 ?c4 ?c5 ?c6 ?c7 ?c8 ?c9 ?c10 ?c11 ?c12 ?c13 ?c14 ?c15 ?c16
    case d1 => (refine' NK.DefIn.of ?x1 ?x2 ?x3 ?x4; (case x1 => k_is); (case x2 => k_is); (case x3 => k_is); (case x4 => k_is))
    case d2 => (refine' NK.DefIn.of ?x1 ?x2 ?x3 ?x4; (case x1 => k_is); (case x2 => k_is); (case x3 => k_is); (case x4 => k_is))
    case d3 => (refine' NK.DefIn.of ?x1 ?x2 ?x3 ?x4; (case x1 => k_is); (case x2 => k_is); (case x3 => k_is); (case x4 => k_is))
    case d4 => (refine' NK.DefIn.of ?x1 ?x2 ?x3 ?x4; (case x1 => k_is); (case x2 => k_is); (case x3 => k_is); (case x4 => k_is))
    case d5 => (refine' NK.DefIn.of ?x1 ?x2 ?x3 ?x4; (case x1 => k_is); (case x2 => k_is); (case x3 => k_is); (case x4 => k_is))
    case d6 => (refine' NK.DefIn.of ?x1 ?x2 ?x3 ?x4; (case x1 => k_is); (case x2 => k_is); (case x3 => k_is); (case x4 => k_is))
    case d7 => (refine' NK.DefIn.of ?x1 ?x2 ?x3 ?x4; (case x1 => k_is); (case x2 => k_is); (case x3 => k_is); (case x4 => k_is))
    case d8 => (refine' NK.DefIn.of ?x1 ?x2 ?x3 ?x4; (case x1 => k_is); (case x2 => k_is); (case x3 => k_is); (case x4 => k_is))
    case d9 => (refine' NK.DefIn.of ?x1 ?x2 ?x3 ?x4; (case x1 => k_is); (case x2 => k_is); (case x3 => k_is); (case x4 => k_is))
    case d10 => (refine' NK.DefIn.of ?x1 ?x2 ?x3 ?x4; (case x1 => k_is); (case x2 => k_is); (case x3 => k_is); (case x4 => k_is))
    case d11 => (refine' NK.DefIn.of ?x1 ?x2 ?x3 ?x4; (case x1 => k_is); (case x2 => k_is); (case x3 => k_is); (case x4 => k_is))
    case d12 => (refine' NK.DefIn.of ?x1 ?x2 ?x3 ?x4; (case x1 => k_is); (case x2 => k_is); (case x3 => k_is); (case x4 => k_is))
    case d13 => (refine' NK.DefIn.of ?x1 ?x2 ?x3 ?x4; (case x1 => k_is); (case x2 => k_is); (case x3 => k_is); (case x4 => k_is))
    case d14 => (refine' NK.DefIn.of ?x1 ?x2 ?x3 ?x4; (case x1 => k_is); (case x2 => k_is); (case x3 => k_is); (case x4 => k_is))
    case d15 => (refine' NK.DefIn.of ?x1 ?x2 ?x3 ?x4; (case x1 => k_is); (case x2 => k_is); (case x3 => k_is); (case x4 => k_is))
    case d16 => (refine' NK.DefIn.of ?x1 ?x2 ?x3 ?x4; (case x1 => k_is); (case x2 => k_is); (case x3 => k_is); (case x4 => k_is))
    case d17 => (refine' NK.DefIn.of ?x1 ?x2 ?x3 ?x4; (case x1 => k_is); (case x2 => k_is); (case x3 => k_is); (case x4 => k_is))
    case d18 => (refine' NK.DefIn.of ?x1 ?x2 ?x3 ?x4; (case x1 => k_is); (case x2 => k_is); (case x3 => k_is); (case x4 => k_is))
    case d19 => (refine' NK.DefIn.of ?x1 ?x2 ?x3 ?x4; (case x1 => k_is); (case x2 => k_is); (case x3 => k_is); (case x4 => k_is))
    case d20 => (refine' NK.DefIn.of ?x1 ?x2 ?x3 ?x4; (case x1 => k_is); (case x2 => k_is); (case x3 => k_is); (case x4 => k_is))
    case d21 => (refine' NK.DefIn.of ?x1 ?x2 ?x3 ?x4; (case x1 => k_is); (case x2 => k_is); (case x3 => k_is); (case x4 => k_is))
    case d22 => (refine' NK.DefIn.of ?x1 ?x2 ?x3 ?x4; (case x1 => k_is); (case x2 => k_is); (case x3 => k_is); (case x4 => k_is))
    case d23 => (refine' NK.DefIn.of ?x1 ?x2 ?x3 ?x4; (case x1 => k_is); (case x2 => k_is); (case x3 => k_is); (case x4 => k_is))
    case d24 => (refine' NK.DefIn.of ?x1 ?x2 ?x3 ?x4; (case x1 => k_is); (case x2 => k_is); (case x3 => k_is); (case x4 => k_is))
    case d25 => (refine' NK.DefIn.of ?x1 ?x2 ?x3 ?x4; (case x1 => k_is); (case x2 => k_is); (case x3 => k_is); (case x4 => k_is))
    case d26 => (refine' NK.DefIn.of ?x1 ?x2 ?x3 ?x4; (case x1 => k_is); (case x2 => k_is); (case x3 => k_is); (case x4 => k_is))
    case d27 => (refine' NK.DefIn.of ?x1 ?x2 ?x3 ?x4; (case x1 => k_is); (case x2 => k_is); (case x3 => k_is); (case x4 => k_is))
    case d28 => (refine' NK.DefIn.of ?x1 ?x2 ?x3 ?x4; (case x1 => k_is); (case x2 => k_is); (case x3 => k_is); (case x4 => k_is))
    case d29 => (refine' NK.DefIn.of ?x1 ?x2 ?x3 ?x4; (case x1 => k_is); (case x2 => k_is); (case x3 => k_is); (case x4 => k_is))
    case d30 => (refine' NK.DefIn.of ?x1 ?x2 ?x3 ?x4; (case x1 => k_is); (case x2 => k_is); (case x3 => k_is); (case x4 => k_is))
    case d31 => (refine' NK.DefIn.of ?x1 ?x2 ?x3 ?x4; (case x1 => k_is); (case x2 => k_is); (case x3 => k_is); (case x4 => k_is))
    case d32 => (refine' NK.DefIn.of ?x1 ?x2 ?x3 ?x4; (case x1 => k_is); (case x2 => k_is); (case x3 => k_is); (case x4 => k_is))
    case d33 => (refine' NK.DefIn.of ?x1 ?x2 ?x3 ?x4; (case x1 => k_is); (case x2 => k_is); (case x3 => k_is); (case x4 => k_is))
    case d34 => (refine' NK.DefIn.of ?x1 ?x2 ?x3 ?x4; (case x1 => k_is); (case x2 => k_is); (case x3 => k_is); (case x4 => k_is))
    case d35 => (refine' NK.DefIn.of ?x1 ?x2 ?x3 ?x4; (case x1 => k_is); (case x2 => k_is); (case x3 => k_is); (case x4 => k_is))
    case d36 => (refine' NK.DefIn.of ?x1 ?x2 ?x3 ?x4; (case x1 => k_is); (case x2 => k_is); (case x3 => k_is); (case x4 => k_is))
    case d37 => (refine' NK.DefIn.of ?x1 ?x2 ?x3 ?x4; (case x1 => k_is); (case x2 => k_is); (case x3 => k_is); (case x4 => k_is))
    case d38 => (refine' NK.DefIn.of ?x1 ?x2 ?x3 ?x4; (case x1 => k_is); (case x2 => k_is); (case x3 => k_is); (case x4 => k_is))
    case d39 => (refine' NK.DefIn.of ?x1 ?x2 ?x3 ?x4; (case x1 => k_is); (case x2 => k_is); (case x3 => k_is); (case x4 => k_is))
    case c_BadText => (refine' NK.ClsIn.of ?x1 ?x2 ?x3 ?x4 ?x5 ?x6 ?x7 ?x8 ?x9 ?x10 ?x11 ?x12 ?x13 ?x14 ?x15 ?x16 ?x17 ?x18 ?x19 ?x20 ?x21 ?x22; (case x1 => first | k_is | ks_is | exact rfl); (case x2 => first | k_is | ks_is | exact rfl); (case x3 => first | k_is | ks_is | exact rfl); (case x4 => first | k_is | ks_is | exact rfl); (case x5 => first | k_is | ks_is | exact rfl); (case x6 => first | k_is | ks_is | exact rfl); (case x7 => first | k_is | ks_is | exact rfl); (case x8 => first | k_is | ks_is | exact rfl); (case x9 => first | k_is | ks_is | exact rfl); (case x10 => first | k_is | ks_is | exact rfl); (case x11 => first | k_is | ks_is | exact rfl); (case x12 => first | k_is | ks_is | exact rfl); (case x13 => first | k_is | ks_is | exact rfl); (case x14 => first | k_is | ks_is | exact rfl); (case x15 => first | k_is | ks_is | exact rfl); (case x16 => first | k_is | ks_is | exact rfl); (case x17 => first | k_is | ks_is | exact rfl); (case x18 => first | k_is | ks_is | exact rfl); (case x19 => first | k_is | ks_is | exact rfl); (case x20 => first | k_is | ks_is | exact rfl); (case x21 => first | k_is | ks_is | exact rfl); (case x22 => first | k_is | ks_is | exact rfl))
    case i_BadText => (refine' NK.InitIn.of ?x1 ?x2 ?x3 ?x4 ?x5 ?x6; (case x1 => k_is); (case x2 => k_is); (case x3 => k_is); (case x4 => exact rfl); (case x5 => first | exact rfl | decide +kernel); (case x6 => k_is))
    case tp => first | exact rfl | decide +kernel
    case aN => first | k_is | k_exc | exact rfl | decide +kernel
    case aA => first | k_is | k_exc | exact rfl | decide +kernel
    case kN => first | k_is | k_exc | exact rfl | decide +kernel
    case kA => first | k_is | k_exc | exact rfl | decide +kernel
    case nF => first | k_is | k_exc | exact rfl | decide +kernel
    case nX => first | k_is | k_exc | exact rfl | decide +kernel
    case nK => first | k_is | k_exc | exact rfl | decide +kernel
    case nB => first | k_is | k_exc | exact rfl | decide +kernel
    case nT => first | k_is | k_exc | exact rfl | decide +kernel
    case nD => first | k_is | k_exc | exact rfl | decide +kernel
    case nS => first | k_is | k_exc | exact rfl | decide +kernel
    case mb =>
      intro x hx
      rcases List.mem_cons.mp hx with e | hx
      · rw [e]; k_is
      rcases List.mem_cons.mp hx with e | hx
      · rw [e]; k_is
      rcases List.mem_cons.mp hx with e | hx
      · rw [e]; k_is
      rcases List.mem_cons.mp hx with e | hx
      · rw [e]; k_is
      rcases List.mem_cons.mp hx with e | hx
      · rw [e]; k_is
      rcases List.mem_cons.mp hx with e | hx
      · rw [e]; k_is
      rcases List.mem_cons.mp hx with e | hx
      · rw [e]; k_is
      rcases List.mem_cons.mp hx with e | hx
      · rw [e]; k_is
      rcases List.mem_cons.mp hx with e | hx
      · rw [e]; k_is
      rcases List.mem_cons.mp hx with e | hx
      · rw [e]; k_is
      rcases List.mem_cons.mp hx with e | hx
      · rw [e]; k_is
      rcases List.mem_cons.mp hx with e | hx
      · rw [e]; k_is
      rcases List.mem_cons.mp hx with e | hx
      · rw [e]; k_is
      cases hx
    case c1 => refine' NK.cstS_of ?x; (case x => k_is)
    case c2 => refine' NK.cstS_of ?x; (case x => k_is)
    case c3 => refine' NK.cstI_of ?x; (case x => k_is)
    case c4 => refine' NK.cstI_of ?x; (case x => k_is)
    case c5 => refine' NK.cstI_of ?x; (case x => k_is)
    case c6 => refine' NK.cstI_of ?x; (case x => k_is)
    case c7 => refine' NK.cstI_of ?x; (case x => k_is)
    case c8 => refine' NK.cstI_of ?x; (case x => k_is)
    case c9 => refine' NK.cstI_of ?x; (case x => k_is)
    case c10 => refine' NK.cstI_of ?x; (case x => k_is)
    case c11 => refine' NK.cstI_of ?x; (case x => k_is)
    case c12 => refine' NK.cstI_of ?x; (case x => k_is)
    case c13 => refine' NK.cstI_of ?x; (case x => k_is)
    case c14 => refine' NK.cstI_of ?x; (case x => k_is)
    case c15 => refine' NK.cstI_of ?x; (case x => k_is)
    case c16 => refine' NK.cstI_of ?x; (case x => k_is)

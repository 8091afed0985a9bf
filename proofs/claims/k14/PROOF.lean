import PyProof.Rows.All
import Wide.All
import OpenK.AllK
import Wide.FinOn
import HandS.Base
import HandS.Call
import HandS.List
import HandS.Comp
import HandS.Iter
import HandS.Words
import KE.GoesEnum
import HandS.SortKw
import HandS.Exc
import HandS.WordsList
import PyProof.MinMaxWalk
import HandS.ForMost
import HandS.Zip
import HandS.IsInst
import HandS.Evl
import HandS.Dict
import HandS.DictTup
import HandS.More
import HandS.SetFor
import KE.KDictWalk
import KE.KDictKeyed
import KE.KeyNested
import KE.SortData
import KE.KDictDisplayH
import KE.KDictSum
import HandS.TupAny
import HandS.Rev
import HandS.DictComp
import HandS.Lambda
import HandS.Deep
import HandS.SortInts
import HandS.Conv
import KE.KExcSuper
import HandS.ExcInit
import HandS.ClsMeth
import HandS.FStr
import HandS.Nested
import HandS.ExcIs
import HandS.ExcField
import HandS.WordsExc
import KE.KExcIs
import KE.KDictPairs
import HandS.WrittenGet
import KE.KDictZip
import PyProof.ListNew
import PyProof.StrOps2
import HandS.Style
import KE.KNestM
import KE.KLam
import HandS.EndTab
import PySem.Challenge.RW_drivermatch_k14_texts_refused
set_option Elab.async false
set_option linter.all false
set_option maxRecDepth 100000
set_option maxHeartbeats 4000000
/-! my own layer: steps of a reading, nested tuples, what moves -/
namespace Dm
open PySem PySem.Spec PyProof.Rows L2

/-! ### steps of a reading, each at its head -/
section
variable {K : PySem.W.Frag} {s : L2.St} {H : Hp} {Q : VK} {D : Ends} {te ta tb : TE} {t u : L2.TS} {i : Nat} {v x y : V} {a b : Int} {tt tu : TT} {QB : Bool → Hp → Prop} {tA tR : TA} {QA : List V → Hp → Prop}
theorem g_var (h : s[i]? = some (some v)) (q : Q v H) : tVar i s H Q := ⟨v, h, q⟩
theorem g_c (q : Q v H) : tC v s H Q := q
theorem g_seq (q : t { D with nx := u D } s H) : tSeq t u D s H := q
theorem g_asg {g : TG} (q : te s H fun z H1 => g z s H1 D.nx) : tAsg te g D s H := q
theorem g_name {R : L2.St → Hp → Prop} (q : R (s.set i (some v)) H) : gName i v s H R := q
theorem g_ret (q : te s H D.rt) : tRet te D s H := q
theorem g_drop (q : te s H fun _ H1 => D.nx s H1) : tDrop te D s H := q
theorem g_op {r : R2} (q : ta s H fun z H1 => tb s H1 fun w H2 => r z w H2 Q) : tOp r ta tb s H Q := q
theorem g_un {r : V → Hp → VK → Prop} (q : ta s H fun z H1 => r z H1 Q) : tUn r ta s H Q := q
theorem g_ifS {c : TT} (q : c s H fun k H1 => if k = true then t D s H1 else u D s H1) : tIfS c t u D s H := q
theorem g_ifE (q : tt s H fun k H1 => if k = true then ta s H1 Q else tb s H1 Q) : tIf tt ta tb s H Q := q
theorem g_nil (q : QA [] H) : tNil s H QA := q
theorem g_cons (q : te s H fun z H1 => tR s H1 fun zs H2 => QA (z :: zs) H2) : tCons te tR s H QA := q
theorem g_call {sp : Sp} {E : XK} (q : tA s H fun vs H1 => sp vs H1 Q E) : tCall sp [] E tA s H Q := by
  show tA s H fun vs H1 => sp (vs ++ []) H1 Q E
  simpa only [List.append_nil] using q
theorem g_cb {r : List V → Hp → VK → Prop} (q : tA s H fun vs H1 => r vs H1 Q) : tCB r tA s H Q := q
theorem g_and (q : tt s H fun c H1 => if c = true then tu s H1 QB else QB false H1) : tAnd tt tu s H QB := q
theorem g_or (q : tt s H fun c H1 => if c = true then QB true H1 else tu s H1 QB) : tOr tt tu s H QB := q
theorem g_not (q : tt s H fun c H1 => QB (!c) H1) : tNot tt s H QB := q
theorem g_andV (q : ta s H fun z H1 => ∃ c, z = .bl c ∧ if c = true then tb s H1 Q else Q (.bl false) H1) : tAndV ta tb s H Q := q
theorem g_orV (q : ta s H fun z H1 => ∃ c, z = .bl c ∧ if c = true then Q (.bl true) H1 else tb s H1 Q) : tOrV ta tb s H Q := q
theorem g_notV (q : ta s H fun z H1 => ∃ c, z = .bl c ∧ Q (.bl (!c)) H1) : tNotV ta s H Q := q
theorem g_tB (q : te s H fun z H1 => ∃ c, z = .bl c ∧ QB c H1) : tB te s H QB := q
theorem g_test (q : te s H fun z H1 => ∃ c, z = .bl c ∧ QB c H1) : tTest te s H QB := q
theorem g_isN (q : te s H fun z H1 => Q (.bl (decide (z = .non))) H1) : tIsN te s H Q := q
theorem g_notN (q : te s H fun z H1 => Q (.bl (!decide (z = .non))) H1) : tNotN te s H Q := q
theorem g_lst (q : tA s H fun xs H1 => xs.length ≤ sizeLine ∧ ∀ p, H1 p = none → Q (.ref p) (upd H1 p (.lst xs))) : tLst tA s H Q := q
theorem g_I0 {g : Int → Int → V} (q : Q (g a b) H) : rI0 g (.int a) (.int b) H Q := ⟨a, b, rfl, rfl, q⟩
theorem g_I {C : Int → Int → Prop} {g : Int → Int → V} (hc : C a b) (q : Q (g a b) H) : rI C g (.int a) (.int b) H Q := ⟨a, b, rfl, rfl, hc, q⟩
theorem g_neg {g : Int → V} (q : Q (g a) H) : rU g (.int a) H Q := ⟨a, rfl, q⟩
theorem g_eqI (q : Q (.bl (decide (a = b))) H) : rEq (.int a) (.int b) H Q := ⟨rfl, by
  have e : decide (V.int a = V.int b) = decide (a = b) := by rw [Bool.eq_iff_iff]; simp
  rw [e]; exact q⟩
theorem g_neI (q : Q (.bl (!decide (a = b))) H) : rNe (.int a) (.int b) H Q := ⟨rfl, by
  have e : decide (V.int a = V.int b) = decide (a = b) := by rw [Bool.eq_iff_iff]; simp
  rw [e]; exact q⟩
theorem g_eqB {k l : Bool} (q : Q (.bl (decide (k = l))) H) : rEq (.bl k) (.bl l) H Q := ⟨rfl, by
  have e : decide (V.bl k = V.bl l) = decide (k = l) := by rw [Bool.eq_iff_iff]; simp
  rw [e]; exact q⟩
theorem g_neB {k l : Bool} (q : Q (.bl (!decide (k = l))) H) : rNe (.bl k) (.bl l) H Q := ⟨rfl, by
  have e : decide (V.bl k = V.bl l) = decide (k = l) := by rw [Bool.eq_iff_iff]; simp
  rw [e]; exact q⟩
theorem g_bl {k : Bool} {P : Bool → Prop} (q : P k) : ∃ c, V.bl k = .bl c ∧ P c := ⟨k, rfl, q⟩
theorem g_ixL {p : Addr} {xs : List V} (h : SqL K H p xs) (ha : atI xs a = some v) (q : Q v H) : rIx K (.ref p) (.int a) H Q := .inl ⟨p, xs, a, v, rfl, rfl, h, ha, q⟩
theorem g_ixT {p : Addr} {xs : List V} (h : SqT K H p xs) (ha : atI xs a = some v) (q : Q v H) : rIx K (.ref p) (.int a) H Q := .inr (.inl ⟨p, xs, a, v, rfl, rfl, h, ha, q⟩)
theorem g_true {A B : Prop} (h : A) : if true = true then A else B := by rw [if_pos rfl]; exact h
theorem g_false {A B : Prop} (h : B) : if false = true then A else B := by rw [if_neg Bool.false_ne_true]; exact h
end

/-! ### what stays -/
/-- a tuple of xs stands at a, known to its object, which bears no dict -/
def TupAt (H : Hp) (a : Addr) (xs : List V) : Prop := ∃ o : Obj, o.dict = none ∧ H a = some (.frz o (.tup xs))
theorem TupAt.sq {K : PySem.W.Frag} {H : Hp} {a : Addr} {xs : List V} (h : TupAt H a xs) : SqT K H a xs := let ⟨o, _, e⟩ := h; .inl (.inr ⟨o, e⟩)
/-- tuples stay -/
def Tst (H H' : Hp) : Prop := ∀ a o xs, H a = some (.frz o (.tup xs)) → H' a = some (.frz o (.tup xs))
theorem Tst.refl (H : Hp) : Tst H H := fun _ _ _ h => h
theorem Tst.trans {H H1 H2 : Hp} (a : Tst H H1) (b : Tst H1 H2) : Tst H H2 := fun x o xs h => b x o xs (a x o xs h)
theorem TupAt.mono {H H' : Hp} (e : Tst H H') {a : Addr} {xs : List V} (h : TupAt H a xs) : TupAt H' a xs := let ⟨o, d, q⟩ := h; ⟨o, d, e _ _ _ q⟩
theorem TupAt.new {H : Hp} {p : Addr} {o : Obj} {xs : List V} (d : o.dict = none) : TupAt (upd H p (.frz o (.tup xs))) p xs := ⟨o, d, upd_same⟩
theorem TupAt.ne {H : Hp} {a b : Addr} {xs : List V} {u : HO} (h : TupAt H a xs) (h' : H b = some u) (d : ∀ o, u ≠ .frz o (.tup xs)) : a ≠ b := by
  obtain ⟨o, _, e⟩ := h
  exact ne_of e h' (d o).symm
theorem TupAt.ne_none {H : Hp} {a b : Addr} {xs : List V} (h : TupAt H a xs) (h' : H b = none) : a ≠ b := by
  obtain ⟨o, _, e⟩ := h
  exact ne_of_none e h'
/-- all but M stays, tuples stay -/
structure Mv (M : List Addr) (H H' : Hp) : Prop where
  fr : ∀ b o, b ∉ M → H b = some o → H' b = some o
  ts : Tst H H'
theorem Mv.refl (M : List Addr) (H : Hp) : Mv M H H := ⟨fun _ _ _ h => h, Tst.refl H⟩
theorem Mv.trans {M : List Addr} {H H1 H2 : Hp} (a : Mv M H H1) (b : Mv M H1 H2) : Mv M H H2 :=
  ⟨fun x o h e => b.fr x o h (a.fr x o h e), a.ts.trans b.ts⟩
theorem Mv.of {M : List Addr} {H H' : Hp} (e : Same H H') : Mv M H H' := ⟨fun b o _ h => e b o h, fun a o xs h => e a _ h⟩
theorem Mv.same {H H' : Hp} (e : Mv [] H H') : Same H H' := fun b o h => e.fr b o (by simp) h
/-- an object that the start does not know is laid or changed -/
theorem Mv.upd {M : List Addr} {H H' : Hp} {p : Addr} {o : HO} (e : Mv M H H') (h : H p = none) : Mv M H (upd H' p o) :=
  ⟨fun b u hb q => by rw [upd_ne (ne_of_none q h)]; exact e.fr b u hb q, fun b o xs q => by rw [upd_ne (ne_of_none q h)]; exact e.ts b o xs q⟩
/-- an object of M that is no tuple is changed -/
theorem Mv.upd' {M : List Addr} {H H' : Hp} {p : Addr} {o : HO} (e : Mv M H H') (h : p ∈ M) (ht : ∀ u xs, H p ≠ some (.frz u (.tup xs))) : Mv M H (L2.upd H' p o) :=
  ⟨fun b u hb q => by rw [upd_ne (fun z => hb (by rw [z]; exact h))]; exact e.fr b u hb q, fun b u xs q => by
    rw [upd_ne (fun z => ht u xs (by rw [← z]; exact q))]; exact e.ts b u xs q⟩
theorem Mv.sub {M M' : List Addr} {H H' : Hp} (e : Mv M H H') (h : ∀ a ∈ M, a ∈ M') : Mv M' H H' := ⟨fun b o hb q => e.fr b o (fun z => hb (h b z)) q, e.ts⟩
theorem Mv.free {M : List Addr} {H H' : Hp} (e : Mv M H H') {p : Addr} (hp : p ∉ M) (h : H' p = none) : H p = none := by
  cases q : H p with
  | none => rfl
  | some o => rw [e.fr p o hp q] at h; cases h
theorem Same.new {H : Hp} {p : Addr} {o : HO} (h : H p = none) : Same H (upd H p o) := fun b u e => by rw [upd_ne (ne_of_none e h)]; exact e
theorem Same.ts {H H' : Hp} (e : Same H H') : Tst H H' := fun a o xs h => e a _ h

/-! ### nested tuples -/
mutual
inductive Tp (H : Hp) : V → PyData → Prop
  | non : Tp H .non .none
  | bl (b : Bool) : Tp H (.bl b) (.bool b)
  | int (i : Int) : Tp H (.int i) (.int i)
  | str (x : Str) : Tp H (.str x) (.str x)
  | tup {a : Addr} {xs : List V} {ds : List PyData} : TupAt H a xs → Tps H xs ds → Tp H (.ref a) (.tuple ds)
inductive Tps (H : Hp) : List V → List PyData → Prop
  | nil : Tps H [] []
  | cons {v : V} {vs : List V} {d : PyData} {ds : List PyData} : Tp H v d → Tps H vs ds → Tps H (v :: vs) (d :: ds)
end
mutual
theorem Tp.mono {H H' : Hp} (e : Tst H H') : ∀ {v : V} {d : PyData}, Tp H v d → Tp H' v d
  | _, _, .non => .non
  | _, _, .bl b => .bl b
  | _, _, .int i => .int i
  | _, _, .str x => .str x
  | _, _, .tup h t => .tup (h.mono e) (Tps.mono e t)
theorem Tps.mono {H H' : Hp} (e : Tst H H') : ∀ {vs : List V} {ds : List PyData}, Tps H vs ds → Tps H' vs ds
  | _, _, .nil => .nil
  | _, _, .cons h t => .cons (Tp.mono e h) (Tps.mono e t)
end
mutual
theorem Tp.dp {K : PySem.W.Frag} {H : Hp} : ∀ {v : V} {d : PyData}, Tp H v d → Dp K H v d
  | _, _, .non => .non
  | _, _, .bl b => .bl b
  | _, _, .int i => .int i
  | _, _, .str x => .str x
  | _, _, .tup h t => .tup h.sq (Tps.dp t)
theorem Tps.dp {K : PySem.W.Frag} {H : Hp} : ∀ {vs : List V} {ds : List PyData}, Tps H vs ds → DpAll K H vs ds
  | _, _, .nil => .nil
  | _, _, .cons h t => .cons (Tp.dp h) (Tps.dp t)
end
section
variable {H : Hp}
theorem Tp.tup_inv {v : V} {ds : List PyData} (h : Tp H v (.tuple ds)) : ∃ a xs, v = .ref a ∧ TupAt H a xs ∧ Tps H xs ds := by
  cases h with
  | tup h t => exact ⟨_, _, rfl, h, t⟩
theorem Tp.int_inv {v : V} {i : Int} (h : Tp H v (.int i)) : v = .int i := by cases h; rfl
theorem Tps.length : ∀ {vs : List V} {ds : List PyData}, Tps H vs ds → vs.length = ds.length
  | _, _, .nil => rfl
  | _, _, .cons _ t => congrArg (· + 1) (Tps.length t)
theorem Tps.get : ∀ {vs : List V} {ds : List PyData} {i : Nat} {x : V}, Tps H vs ds → vs[i]? = some x → ∃ d, ds[i]? = some d ∧ Tp H x d
  | _, _, i, _, .nil, e => by simp at e
  | _, _, 0, x, .cons h _, e => by
    have e' := Option.some.inj e
    subst e'
    exact ⟨_, rfl, h⟩
  | _, _, i + 1, x, .cons _ t, e => Tps.get (i := i) (x := x) t (by simpa using e)
theorem Tps.get' : ∀ {vs : List V} {ds : List PyData} {i : Nat} {d : PyData}, Tps H vs ds → ds[i]? = some d → ∃ x, vs[i]? = some x ∧ Tp H x d
  | _, _, i, _, .nil, e => by simp at e
  | _, _, 0, x, .cons h _, e => by
    have e' := Option.some.inj e
    subst e'
    exact ⟨_, rfl, h⟩
  | _, _, i + 1, x, .cons _ t, e => Tps.get' (i := i) t (by simpa using e)
theorem Tps.ints : ∀ {vs : List V} {ns : List Int}, Tps H vs (ns.map .int) → vs = ns.map V.int
  | _, [], .nil => rfl
  | _, n :: ns, .cons h t => by
    rw [h.int_inv, Tps.ints t]; rfl
theorem Tps.of_ints : ∀ (ns : List Int), Tps H (ns.map V.int) (ns.map .int)
  | [] => .nil
  | n :: ns => .cons (.int n) (Tps.of_ints ns)
theorem Tps.append : ∀ {vs ws : List V} {ds es : List PyData}, Tps H vs ds → Tps H ws es → Tps H (vs ++ ws) (ds ++ es)
  | _, _, _, _, .nil, s => s
  | _, _, _, _, .cons h t, s => .cons h (Tps.append t s)
theorem Tps.two {vs : List V} {d e : PyData} (h : Tps H vs [d, e]) : ∃ x y, vs = [x, y] ∧ Tp H x d ∧ Tp H y e := by
  cases h with
  | cons h t => cases t with
    | cons h' t' => cases t'; exact ⟨_, _, rfl, h, h'⟩
theorem Tps.three {vs : List V} {d e f : PyData} (h : Tps H vs [d, e, f]) : ∃ x y z, vs = [x, y, z] ∧ Tp H x d ∧ Tp H y e ∧ Tp H z f := by
  cases h with
  | cons h t =>
    obtain ⟨y, z, rfl, h2, h3⟩ := Tps.two t
    exact ⟨_, _, _, rfl, h, h2, h3⟩
end

/-! ### tuples made, known to their objects -/
def tTupF (t : TA) : TE := fun σ H Q => t σ H fun xs H1 => xs.length ≤ sizeLine ∧ ∀ p o, H1 p = none → o.dict = none → Q (.ref p) (upd H1 p (.frz o (.tup xs)))
section
variable {X : Cx} {pins : List (Addr × Obj)} {σ : L2.St} {H : Hp} {s : Shared} {xs : List V} {us : List Value}
theorem newTupF {Q : VK} (I : L2.Inv X pins σ H s) (r : Vals xs us) (z : xs.length ≤ sizeLine) (q : ∀ p o, H p = none → o.dict = none → Q (.ref p) (upd H p (.frz o (.tup xs)))) :
    EP X pins σ Q (.ref s.heap.objs.size) { s with heap := s.heap.push { cls := .type "tuple", data := .seq us.toArray } } := by
  have h0 := Heap.get?_push_size s.heap (o := { cls := .type "tuple", data := .seq us.toArray }) rfl
  refine ⟨.ref s.heap.objs.size, upd H s.heap.objs.size (.frz { cls := .type "tuple", data := .seq us.toArray } (.tup xs)), I.laid (t' := s.toks) (fun b u e => Heap.get?_push_of_some _ e) (Nat.le_refl _) ?_, rfl, q _ _ (I.hok.fresh (Nat.le_refl _)) rfl⟩
  exact ⟨h0, z, us, r, ⟨_, h0, rfl, _, rfl⟩⟩
theorem pe_tupF {es : List Expr} {t : TA} {pos : Pos} {k} (h : PA X es t) : PE X (.Tuple es k pos) (tTupF t) := by
  refine ⟨fun pins s σ H Q I hq => ?_⟩
  refine wpAny_Tuple_spliced (thn (h.run pos pins s σ H _ I hq) fun us s1 ⟨xs, H1, I1, r, z, q⟩ => ⟨by rw [← r.length]; exact z, ?_⟩)
  exact newTupF I1 r z q
def rTupF (K : PySem.W.Frag) : List V → Hp → VK → Prop := fun vs H Q => ∃ p ys, vs = [.ref p] ∧ ((SqL K H p ys ∧ ∀ l o, H l = none → o.dict = none → Q (.ref l) (upd H l (.frz o (.tup ys)))) ∨ (SqT K H p ys ∧ Q (.ref p) H))
theorem call_tupleF : CallR X (.type "tuple") (rTupF X.K) := by
  intro pins s σ H vs us Q I r h
  obtain ⟨p, ys, rfl, h⟩ := h
  obtain ⟨u, rfl, rx⟩ := vals1 r
  cases rx
  rcases h with ⟨hq, q⟩ | ⟨hq, q⟩
  · obtain ⟨its, r', pl, hz⟩ := I.list hq
    have hlen := r'.length
    refine call_tuple_list pl.isList (fun h' kp => ?_) (by simp only [List.size_toArray] <;> omega)
    exact newTupF (s := { s with heap := h' }) (I.kept (t' := s.toks) kp) r' hz q
  · obtain ⟨its, r', pl, hz⟩ := I.tuple hq
    exact call_tuple_same pl ⟨.ref p, H, I, rfl, q⟩
end
end Dm

namespace Dm
open PySem PySem.Spec PyProof.Rows L2

/-! ### max(xs, default=d) -/
theorem args_maxd (a d : Value) : argsOk "max" ⟨[a], [(Str.ofString "default", d)]⟩ := by unfold argsOk; kernel_rfl
section
variable {prog : Program} {w : World} {A : Around} {R : Result → Shared → Prop} {J : Addr} {fp wr : List Addr} {n : Nat} {P : Nat → Value → Prop} {St : Nat → Heap → Prop} {kw : List (Str × Value)}
/-- the loop with a best one so far, whatever keywords it bears -/
theorem maxk_loop (W : Walks prog w A.in1 J fp wr n P St) (bt : Nat → Nat → Bool) (hc : CmpOf prog w A.in1 .Gt P bt) (B : Addr) (hB : B ∉ fp) :
    ∀ (m j : Nat) (s : Shared) (b : Value) (c : Nat), n = m + (j + 1) → St (j + 1) s.heap → P (argBest bt j) b →
      s.heap.get? B = some { cls := .type "list", dict := none, data := .seq #[b, b] c, slots := #[] } →
      (∀ v g tk, P (argBest bt (n - 1)) v → (∀ x o, x ∉ wr → x ≠ B → s.heap.get? x = some o → g.get? x = some o) → R (.ok (.ret v)) { s with heap := g, toks := tk }) →
      codeAny (model prog w) A (.builtin "max.loop" ⟨[.ref J, .none, .ref B], kw⟩) R s := by
  have hw : B ∉ wr := fun z => hB (W.sub _ z)
  have nm : (toString "max" ++ toString ".loop" : String) = "max.loop" := by decide
  intro m
  induction m with
  | zero =>
    intro j s b c hn st pb ho q
    refine codeAny_builtin PySem.F.entry_max_loop ?_ ; rw [Around.under_plainId PySem.F.plain_max_loop _]
    show wpAny _ A.in1 (seqItems? (.ref B) >>= _) _ _ s ; refine wpAny_bind (wpAny_seqItems ho rfl ?_)
    show wpAny _ A.in1 (tryCatch (pyNext (.ref J)) _ >>= _) _ _ s
    have st' : St n s.heap := by rw [hn, Nat.zero_add]; exact st
    refine wpAny_bind (wpAny_tryCatch (W.done s _ _ st' fun g tk kp => ?_))
    have ho' := kp B _ hw ho
    show wpAny _ A.in1 (updateSeq B (fun _ => #[]) >>= _) _ _ _ ; refine wpAny_bind (wpAny_updateSeq ho' rfl (wpAny_bind (wpAny_letGo (wpAny_pure ?_))))
    exact q b _ tk (by rw [hn]; simpa using pb) fun x o h1 h2 e => (Heap.get?_update_other _ _ (Ne.symm h2)).trans (kp x o h1 e)
  | succ m ih =>
    intro j s b c hn st pb ho q
    refine codeAny_builtin PySem.F.entry_max_loop ?_ ; rw [Around.under_plainId PySem.F.plain_max_loop _]
    show wpAny _ A.in1 (seqItems? (.ref B) >>= _) _ _ s ; refine wpAny_bind (wpAny_seqItems ho rfl ?_)
    show wpAny _ A.in1 (tryCatch (pyNext (.ref J)) _ >>= _) _ _ s
    refine wpAny_bind (wpAny_tryCatch (W.item (j + 1) s _ _ (by omega) st fun v g tk hP st2 kp => ?_))
    have ho' := kp B _ hw ho
    show wpAny _ A.in1 (tryCatch (holding [v, v] (richCompare .Gt v b >>= _)) _ >>= _) _ _ _
    refine wpAny_bind (wpAny_tryCatch (wpAny_holding (wpAny_bind (hc (j + 1) (argBest bt j) v b _ _ _ hP pb (wpAny_bind (wpAny_holding (wpAny_truthy_bool ?_)))))))
    refine wpAny_bind (wpAny_letGo (wpAny_pure ?_)) ; have pn : P (argBest bt (j + 1)) (if bt (j + 1) (argBest bt j) = true then v else b) := by
      show P (if bt (j + 1) (argBest bt j) = true then j + 1 else argBest bt j) _
      split
      · exact hP
      · exact pb
    cases hb : bt (j + 1) (argBest bt j) with
    | true =>
      rw [hb, if_pos rfl] at pn
      simp only [if_true] ; refine wpAny_bind (wpAny_updateSeq ho' rfl (wpAny_bind (wpAny_letGo ?_))) ; rw [nm]
      refine wpAny_pure ⟨plainId_quiet PySem.F.plain_max_loop _, ih (j + 1) _ v _ (by omega) (W.frame _ _ _ st2 fun x hx o e => ?_) pn (Heap.get?_update_self _ ho' rfl) fun v' g' tk' hP' kp' => ?_⟩
      · exact (Heap.get?_update_other _ _ (fun z : B = x => hB (by rw [z]; exact hx))).trans e
      · exact q v' g' tk' hP' fun x o h1 h2 e => kp' x o h1 h2 ((Heap.get?_update_other _ _ (Ne.symm h2)).trans (kp x o h1 e))
    | false =>
      rw [hb, if_neg Bool.false_ne_true] at pn
      simp only [Bool.false_eq_true, if_false] ; refine wpAny_bind (wpAny_letGo ?_) ; rw [nm]
      refine wpAny_pure ⟨plainId_quiet PySem.F.plain_max_loop _, ih (j + 1) _ b c (by omega) st2 pn ho' fun v' g' tk' hP' kp' => ?_⟩
      exact q v' g' tk' hP' fun x o h1 h2 e => kp' x o h1 h2 (kp x o h1 e)
/-- .. from nothing -/
theorem maxk_first (W : Walks prog w A.in1 J fp wr n P St) (bt : Nat → Nat → Bool) (hc : CmpOf prog w A.in1 .Gt P bt) (B : Addr) (hB : B ∉ fp) {s : Shared} {c : Nat} {d : Value} (st : St 0 s.heap)
    (ho : s.heap.get? B = some { cls := .type "list", dict := none, data := .seq #[] c, slots := #[] })
    (q0 : n = 0 → ∀ g tk, (∀ x o, x ∉ wr → x ≠ B → s.heap.get? x = some o → g.get? x = some o) → R (.ok (.ret d)) { s with heap := g, toks := tk })
    (q : 0 < n → ∀ v g tk, P (argBest bt (n - 1)) v → (∀ x o, x ∉ wr → x ≠ B → s.heap.get? x = some o → g.get? x = some o) → R (.ok (.ret v)) { s with heap := g, toks := tk }) :
    codeAny (model prog w) A (.builtin "max.loop" ⟨[.ref J, .none, .ref B], [(Str.ofString "default", d)]⟩) R s := by
  have hw : B ∉ wr := fun z => hB (W.sub _ z)
  have nm : (toString "max" ++ toString ".loop" : String) = "max.loop" := by decide
  refine codeAny_builtin PySem.F.entry_max_loop ?_ ; rw [Around.under_plainId PySem.F.plain_max_loop _]
  show wpAny _ A.in1 (seqItems? (.ref B) >>= _) _ _ s ; refine wpAny_bind (wpAny_seqItems ho rfl ?_)
  show wpAny _ A.in1 (tryCatch (pyNext (.ref J)) _ >>= _) _ _ s
  by_cases hn : n = 0
  · subst hn
    refine wpAny_bind (wpAny_tryCatch (W.done s _ _ st fun g tk kp => ?_))
    exact wpAny_bind (wpAny_rule (wpAny_pure (q0 rfl g tk fun x o h1 _ e => kp x o h1 e)))
  · refine wpAny_bind (wpAny_tryCatch (W.item 0 s _ _ (by omega) st fun v g tk hP st2 kp => ?_))
    have ho' := kp B _ hw ho
    show wpAny _ A.in1 (updateSeq B (fun _ => #[v, v]) >>= _) _ _ _ ; refine wpAny_bind (wpAny_updateSeq ho' rfl ?_) ; rw [nm]
    refine wpAny_pure ⟨plainId_quiet PySem.F.plain_max_loop _, maxk_loop W bt hc B hB (n - 1) 0 _ v _ (by omega) (W.frame _ _ _ st2 fun x hx o e => ?_) hP (Heap.get?_update_self _ ho' rfl) fun v' g' tk' hP' kp' => ?_⟩
    · exact (Heap.get?_update_other _ _ (fun z : B = x => hB (by rw [z]; exact hx))).trans e
    · exact q (by omega) v' g' tk' hP' fun x o h1 h2 e => kp' x o h1 h2 ((Heap.get?_update_other _ _ (Ne.symm h2)).trans (kp x o h1 e))
end
section
variable {prog : Program} {w : World} {A : Around} {E : Value → Shared → Prop} {s : Shared}
theorem maxd_walk {x d : Value} {Q : Value → Shared → Prop}
    (h : wpAny (model prog w) A.in1 (pyIter x) (fun it t => ∃ J fp wr n P St bt, it = .ref J ∧ Walks prog w A.in1 J fp wr n P St ∧ St 0 t.heap ∧ (∀ b ∈ fp, b < t.heap.objs.size) ∧ CmpOf prog w A.in1 .Gt P bt ∧
      (n = 0 → ∀ g tk, (∀ b o, b ∉ wr → t.heap.get? b = some o → g.get? b = some o) → Q d { t with heap := g, toks := tk }) ∧
      (0 < n → ∀ v g tk, P (argBest bt (n - 1)) v → (∀ b o, b ∉ wr → t.heap.get? b = some o → g.get? b = some o) → Q v { t with heap := g, toks := tk })) E s) :
    wpAny (model prog w) A (call (.builtin "max") [x] [(Str.ofString "default", d)]) Q E s := by
  have nm : (toString "max" ++ toString ".loop" : String) = "max.loop" := by decide
  refine wpAny_call (codeAny_call_builtin PySem.F.plain_max PySem.F.entry_max ?_)
  have key : wpAny (model prog w) A.in1 (Builtin.«max» ⟨[x], [(Str.ofString "default", d)]⟩) (fun fin s' => match fin with
      | .done f => (match (Except.ok f : Result) with | .ok (.ret v) => Q v s' | .ok _ => False | .error e => E e s')
      | .again c' => c'.quiet = true ∧ codeAny (model prog w) A c' (fun r s' => match r with | .ok (.ret v) => Q v s' | .ok _ => False | .error e => E e s') s') E s := by
    show wpAny _ A.in1 (Builtin.Builtins.bindParams "max" ["key", "default"] 0 ⟨[], [(Str.ofString "default", d)]⟩ >>= _) _ _ s
    refine wpAny_bind (wpAny_of_eq (show Builtin.Builtins.bindParams "max" ["key", "default"] 0 ⟨[], [(Str.ofString "default", d)]⟩ = pure [none, some d] from rfl) ?_)
    refine wpAny_bind (wpAny_pure (wpAny_bind (wpAny_mono h (fun it t ht => ?_) fun _ _ e => e)))
    obtain ⟨J, fp, wr, n, P, St, bt, rfl, W, st, hfp, hc, q0, q1⟩ := ht
    refine wpAny_bind (wpAny_newObj_type ?_)
    have hB : t.heap.objs.size ∉ fp := fun z => absurd (hfp _ z) (Nat.lt_irrefl _)
    rw [nm]
    have up : ∀ (g : Heap) (wr' : List Addr), (∀ b o, b ∉ wr → b ≠ t.heap.objs.size → (t.heap.push { cls := .type "list", data := .seq #[] }).get? b = some o → g.get? b = some o) → ∀ b o, b ∉ wr → t.heap.get? b = some o → g.get? b = some o :=
      fun g _ k b o h1 e => k b o h1 (Nat.ne_of_lt (Heap.lt_size e)) (Heap.get?_push_of_some _ e)
    exact wpAny_pure ⟨plainId_quiet PySem.F.plain_max_loop _, maxk_first W bt hc t.heap.objs.size hB (W.frame _ _ _ st fun b _ o e => Heap.get?_push_of_some _ e) (Heap.get?_push_size _ rfl)
      (fun e g tk k => q0 e g tk (up g wr k)) (fun e v g tk hP k => q1 e v g tk hP (up g wr k))⟩
  simp only [checkBuiltinCall, PySem.F.kind_max]
  cases hsig : Manifest.signature? "max" with
  | none => exact wpAny_pure key
  | some sig =>
    have ha : Bind.checkArgs "max" sig ⟨[x], [(Str.ofString "default", d)]⟩ = pure () := by
      have z := args_maxd x d
      simpa only [argsOk, hsig] using z
    simp only [ha]
    exact wpAny_pure key
end
/-- the greatest of a list of ints, None of none -/
def maxV : List Int → V
  | [] => .non
  | x :: xs => .int (xs.foldl max x)
theorem foldl_max_mem : ∀ (xs : List Int) (x : Int), xs.foldl max x ∈ x :: xs
  | [], x => List.mem_singleton.mpr rfl
  | y :: ys, x => by
    rw [List.foldl_cons]
    rcases List.mem_cons.mp (foldl_max_mem ys (max x y)) with h | h
    · rw [h]
      rcases Int.le_total x y with l | l
      · rw [Int.max_eq_right l]; simp
      · rw [Int.max_eq_left l]; simp
    · exact List.mem_cons_of_mem _ (List.mem_cons_of_mem _ h)
theorem foldl_max_ge : ∀ (xs : List Int) (x : Int), ∀ a ∈ x :: xs, a ≤ xs.foldl max x
  | [], x, a, h => by rw [List.mem_singleton.mp h]; exact Int.le_refl _
  | y :: ys, x, a, h => by
    rw [List.foldl_cons]
    have g := foldl_max_ge ys (max x y)
    have hx : x ≤ max x y := Int.le_max_left _ _
    have hy : y ≤ max x y := Int.le_max_right _ _
    have g0 := g (max x y) (List.mem_cons_self ..)
    rcases List.mem_cons.mp h with e | h
    · rw [e]; omega
    · rcases List.mem_cons.mp h with e | h
      · rw [e]; omega
      · exact g a (List.mem_cons_of_mem _ h)
def rMaxD (K : PySem.W.Frag) : List V → List V → Hp → VK → Prop := fun vs zs H Q => ∃ (a : Addr) (ns : List Int), vs = [V.ref a] ∧ zs = [.non] ∧ SqL K H a (ns.map V.int) ∧ Q (maxV ns) H
theorem cr_maxD {X : Cx} (hc : X.calm = true) : CallRK X (.builtin "max") [Str.ofString "default"] (rMaxD X.K) := by
  intro pins s σ H vs zs us ws Q I r rz h
  obtain ⟨a, ns, rfl, rfl, hs, q⟩ := h
  obtain ⟨its, rv, hl, _⟩ := I.list hs
  obtain rfl := Vals.ref1 r
  obtain ⟨w1, rfl, e1⟩ := vals1 rz
  obtain rfl : w1 = Value.none := e1
  obtain ⟨xs, e⟩ := rv.ints.allInts.items
  have hn : numsOf (intItems xs).toList = ns := by rw [← e]; exact rv.ints.numsOf
  rw [nums_intItems] at hn
  subst hn
  have hl := hl.isList
  rw [e] at hl
  refine maxd_walk (iter_intList hl fun s2 e2 st hfp hlI => ?_)
  subst e2
  refine ⟨_, _, _, _, _, _, _, rfl, Walks.list (A := X.A.in1) (I.ok.hd hc) _ a hlI (intItems xs), st, hfp, CmpOf.ints_gt (numAt xs) (fun _ _ => intItems_at), fun hz g tk hk => ?_, fun hz v g tk hP hk => ?_⟩
  · have hz' : xs.toList = [] := by
      have : xs.size = 0 := by simpa [intItems] using hz
      exact List.length_eq_zero_iff.mp (by simpa using this)
    rw [hz'] at q
    exact ⟨.non, H, I.kept (old_kept hk), rfl, q⟩
  · have hP' : (intItems xs)[argBest (fun i j => decide (numAt xs i > numAt xs j)) (xs.size - 1)]? = some v := by simpa [intItems] using hP
    obtain ⟨t, rfl⟩ := intItems_at hP'
    have hz' : 0 < xs.size := by simpa [intItems] using hz
    obtain ⟨h1, h2⟩ := argBest_gt (numAt xs) (xs.size - 1)
    refine ⟨V.int _, H, I.kept (old_kept hk), ⟨_, rfl⟩, ?_⟩
    have em : maxV (xs.toList.map (·.1)) = .int (numAt xs (argBest (fun i j => decide (numAt xs i > numAt xs j)) (xs.size - 1))) := by
      have hm : numAt xs (argBest (fun i j => decide (numAt xs i > numAt xs j)) (xs.size - 1)) ∈ xs.toList.map (·.1) := by
        rw [numAt_eq]; exact PySem.getD_mem (by rw [List.length_map, Array.length_toList]; omega)
      have hg : ∀ b, b ∈ xs.toList.map (·.1) → b ≤ numAt xs (argBest (fun i j => decide (numAt xs i > numAt xs j)) (xs.size - 1)) := fun b hb => by
        obtain ⟨j, hj, rfl⟩ := mem_getD hb
        rw [List.length_map, Array.length_toList] at hj
        rw [← numAt_eq]; exact h2 j (by omega)
      generalize numAt xs (argBest (fun i j => decide (numAt xs i > numAt xs j)) (xs.size - 1)) = M at hm hg
      generalize xs.toList.map (·.1) = l at hm hg
      cases l with
      | nil => cases hm
      | cons x r =>
        have a1 := hg _ (foldl_max_mem r x)
        have a2 := foldl_max_ge r x M hm
        show V.int _ = V.int M
        congr 1
        omega
    rw [em] at q
    exact q
theorem pe_maxDef {X : Cx} {e d : Expr} {te td : TE} {p pos kp : Pos} (hc : X.calm = true) (hg : Gl X "max") (hm : X.mg "max" = none) (ha : PE X e te) (hd : PE X d td)
    (h1 : starEach [e] X.env = (false, eval e X.env) :: starEach [] X.env := by rfl) (h2 : backTo pos (starEach [e] X.env) = (false, eval e X.env) :: backTo pos (starEach [] X.env) := by rfl)
    (h3 : (backTo pos (starEach [e] X.env)).any (·.1) = false := by rfl) :
    PE X (.Call (.Name "max" p) [e] [⟨some "default", d, kp⟩] pos) (tCKw (rMaxD X.K) (tCons te tNil) (tCons td tNil)) :=
  pe_callBK (cr_maxD hc) hg hm (by decide +kernel) (pa_cons ha pa_nil h1) (pk_cons hd pk_nil) (he := h2) (hpl := h3)

/-! ### tuple.count of ints -/
def rCountT (K : PySem.W.Frag) : V → List V → Hp → VK → Prop := fun x vs H Q => ∃ (a : Addr) (ns : List Int) (k : Int), x = .ref a ∧ vs = [.int k] ∧ SqT K H a (ns.map V.int) ∧ Q (.int (ns.count k : Nat)) H
theorem mt_tcount {X : Cx} : MtM X "tuple.count" (rCountT X.K) := by
  intro pins s σ H x vs v us Q I rx rv h
  obtain ⟨a, ns, k, rfl, rfl, hs, q⟩ := h
  cases rx
  obtain ⟨u, rfl, ru⟩ := rv.one
  obtain ⟨t, rfl⟩ := ru
  obtain ⟨its, r, ⟨o, e, hcl, n, hd⟩, hz⟩ := I.tuple hs
  obtain ⟨cls, dd, data, sl⟩ := o
  simp only at hcl hd
  subst hcl hd
  have hints := intsAre_of r
  refine call_meets PySem.F.slot_tuple_count ⟨_, e, rfl⟩ PySem.F.entry_tuple_count (PySem.F.args_tuple_count_2 _ _)
    (SeqAt.tuple_countAt a its.toArray n dd sl (.int k t) (fun y => eqU (.int k) y)) ⟨e, fun y hy => ?_, ?_⟩
  · have hall : (ns.map V.int).all flatV = true := by simp [flatV]
    exact mem_eqAt (x := .int k) ⟨t, rfl⟩ rfl r hall y (by simpa using hy)
  · have ec : its.toArray.toList.countP (fun y => eqU (.int k) y) = ns.count k := by
      show its.countP _ = _
      clear q hs e hz
      induction hints with
      | nil => rfl
      | cons n' t' _ ih =>
        rename_i its' ns' hh
        have r' : Vals (ns'.map V.int) its' := by cases r with | cons _ r => exact r
        rw [List.countP_cons, List.count_cons, ih r']
        rfl
    rw [ec]
    exact ⟨.int _, H, I.tok _, ⟨_, rfl⟩, q⟩
end Dm

namespace Dm
open PySem PySem.Spec PyProof.Rows L2
open PySem.AutoSeq1 (wpAny_loadPart')
/-! ### enumerate(tuple) -/
theorem meets_enumT (a : Addr) (items : Array Value) :
    Meets (Builtin.«enumerate.__new__» ⟨[.type "enumerate", .ref a], []⟩) (fun _ R s => s.heap.IsTuple a items ∧
      R (.ok (.ret (.ref (s.heap.push { cls := .type "tuple_iterator", data := .fields #[.ref a, .int 0 0] }).objs.size)))
        { s with heap := (s.heap.push { cls := .type "tuple_iterator", data := .fields #[.ref a, .int 0 0] }).push { cls := .type "enumerate", data := .fields #[.none, .bool false, .ref s.heap.objs.size, rawInt 0, .none, .none] } }) :=
  .of_wp fun prog w A R s h => by
    obtain ⟨hp, g, d, tk, os⟩ := s ; obtain ⟨ht, h⟩ := h
    have h1 := sub_enumerate
    have hT : Heap.IsTuple (Shared.heap ⟨hp, g, d, tk, os⟩) a items := ht
    wp_walk using wpAny_pyIter_tuple hT
    refine wpAny_stack_any fun st => wpAny_pure ?_
    split
    · rename_i c _ _ _ _ _
      cases (c == Value.type "enumerate") <;> (wp_walk using wpAny_pyIter_tuple hT ; exact ⟨_, rfl, h⟩)
    · wp_walk using wpAny_pyIter_tuple hT
      exact ⟨_, rfl, h⟩
section
variable {prog : Program} {w : World} {A : Around} {E : Value → Shared → Prop} {s : Shared}
theorem call_enumT {a : Addr} {items : Array Value} {Q : Value → Shared → Prop} (ht : s.heap.IsTuple a items)
    (h : ∀ h', IsEnum h' (s.heap.objs.size + 1) s.heap.objs.size 0 .none → h'.IsTupleIter s.heap.objs.size a 0 → (∀ b o, s.heap.get? b = some o → h'.get? b = some o) → Q (.ref (s.heap.objs.size + 1)) { s with heap := h' }) :
    wpAny (model prog w) A (call (.type "enumerate") [.ref a]) Q E s := by
  have hz : (s.heap.push { cls := .type "tuple_iterator", data := .fields #[.ref a, .int 0 0] }).objs.size = s.heap.objs.size + 1 := Heap.size_push ..
  refine callType_new PySem.F.called_enumerate (by decide) (PySem.F.typeCall_enumerate_1 _) (PySem.F.newCall_enumerate_1 _) (fun obj => PySem.F.args_object_init_2 obj _) PySem.F.entry_enumerate_new (meets_enumT a items) ⟨ht, ?_⟩
  show _ ∧ _
  rw [hz]
  have he := Heap.get?_push_size (s.heap.push { cls := .type "tuple_iterator", data := .fields #[.ref a, .int 0 0] })
    (o := { cls := .type "enumerate", data := .fields #[.none, .bool false, .ref s.heap.objs.size, rawInt 0, .none, .none] }) rfl
  rw [hz] at he
  exact ⟨⟨_, he, rfl⟩, h _ he ⟨_, Heap.get?_push_of_some _ (Heap.get?_push_size _ rfl), rfl, rfl⟩ fun b o x => Heap.get?_push_of_some _ (Heap.get?_push_of_some _ x)⟩
end
/-- the tuple at a, each item in a new pair with its number -/
def IteT (K : PySem.W.Frag) (a : Addr) : It :=
  ⟨fun i H => ∃ (xs : List V) (x : V), SqT K H a xs ∧ xs[i]? = some x, fun i H v H' => ∃ T x, v = .ref T ∧ H T = none ∧ H' = upd H T (.tup [.int (i : Nat), x]) ∧ ∀ xs, SqT K H a xs → xs[i]? = some x,
    fun i H => ∃ xs : List V, SqT K H a xs ∧ xs.length = i⟩
theorem turn_enumT {P : Program} {w : World} {K : PySem.W.Frag} {elts : List Expr} {kk : Nat} {tpos : Pos} (a e it : Addr) :
    Turn P w K (.Tuple elts kk tpos) (IteT K a) [e, it] e (fun i h => (∃ old, IsEnum h e it ((i : Nat) : Int) old) ∧ h.IsTupleIter it a i ∧ e ≠ it) where
  mem := by simp
  obj := fun i h st b hb => by
    obtain ⟨⟨old, he⟩, ⟨o, ho, hc, hd⟩, _⟩ := st
    have hb' : b = e ∨ b = it := by simpa using hb
    rcases hb' with rfl | rfl
    · exact ⟨_, he, fun v q => nomatch q⟩
    · exact ⟨o, ho, fun v q => by rw [hd] at q; cases q⟩
  keep := fun i h h' st k => let ⟨⟨old, he⟩, hi, hne⟩ := st; ⟨⟨old, k e (by simp) _ he⟩, hi.at fun o q => k it (by simp) o q, hne⟩
  item := by
    intro X hP hw hK hc i pins s σ H E I hf st hg
    subst hP hw hK
    obtain ⟨⟨old, he⟩, hit, hne⟩ := st
    obtain ⟨xs, x, hq, hx⟩ := hg
    obtain ⟨its, rv, p, hz⟩ := I.tuple hq
    obtain ⟨u, hu, ru⟩ := rv.get hx
    have hel : e < s.heap.objs.size := Heap.lt_size he
    have hil : it < s.heap.objs.size := by obtain ⟨_, q, _⟩ := hit; exact Heap.lt_size q
    have hap : e ≠ a := fun z => by
      obtain ⟨o, q, hcl, _⟩ := p
      rw [← z, he] at q ; cases q ; exact absurd hcl (by simp)
    have hai : a ≠ it := fun z => by
      obtain ⟨o, q, hcl, _⟩ := p ; obtain ⟨o2, q2, hc2, _⟩ := hit
      rw [z, q2] at q ; cases q ; rw [hc2] at hcl ; exact absurd hcl (by simp)
    have pT : s.heap.IsTuple a its.toArray := p
    have D := Draws.tuple (prog := X.prog) (w := X.w) (A := X.A.in1) (I.ok.hd hc) it a hai its.toArray
    have hlt : i < its.toArray.size := by
      have z := (List.getElem?_eq_some_iff.mp hu).1
      simpa using z
    refine wpAny_pyNext_enum_itemC D he ⟨hit, pT⟩ hlt hne (by simp [hne, hap]) fun x' h' tk hP' ho hst' hT hsz hk => ?_
    have ex : x' = u := by
      have z : its[i]? = some x' := by simpa using hP'
      exact Option.some.inj (z.symm.trans hu)
    subst ex
    refine ⟨_, rfl, wpAny_letOwnedTupleGo_enum (s := { s with heap := h', toks := tk + 1 }) ho fun h'' he' sb => ?_⟩
    have hT2 : h''.get? s.heap.objs.size = some { cls := .type "tuple", data := .seq #[.int i tk, x'] } := (sb.2 _ (Nat.ne_of_gt hel)).trans hT
    have new : ObjOk X.prog X.w (upd H s.heap.objs.size (.tup [.int (i : Nat), x])) h'' s.heap.objs.size (.tup [.int (i : Nat), x]) :=
      ⟨by show 2 ≤ sizeLine; decide, [.int i tk, x'], .cons ⟨_, rfl⟩ (.cons ru .nil), ⟨_, hT2, rfl, _, rfl⟩⟩
    have I1 : Inv X pins σ (upd H s.heap.objs.size (.tup [.int (i : Nat), x])) { s with heap := h'', toks := tk + 1 } :=
      I.turnedNew (ch := [e, it]) (fun b ob hb q => (sb.2 b (fun z => hb (by simp [z]))).trans (hk b ob (fun z => hb (by simp [z])) (fun z => hb (by simp [z])) q)) hf (Nat.le_refl _) new
    refine ⟨.ref s.heap.objs.size, _, I1, rfl, ⟨_, x, rfl, I.hok.fresh (Nat.le_refl _), rfl, fun ys hy => by rw [I.tuple_inj hy hq]; exact hx⟩, ⟨⟨x', ?_⟩, hst'.1.at fun o q => (sb.2 it (Ne.symm hne)).trans q, hne⟩, fun b hb => ?_⟩
    · have e1 : ((i + 1 : Nat) : Int) = (i : Int) + 1 := by omega
      rw [e1] ; exact he'
    · have hb' : b < s.heap.objs.size := by
        have z : b = e ∨ b = it := by simpa using hb
        rcases z with rfl | rfl
        · exact hel
        · exact hil
      rw [upd_ne (Nat.ne_of_lt hb')] ; exact (hf b hb).1
  done := by
    intro X hP hw hK hc i pins s σ H E I hf st hg
    subst hP hw hK
    obtain ⟨⟨old, he⟩, hit, hne⟩ := st
    obtain ⟨xs, hq, hx⟩ := hg
    obtain ⟨its, rv, p, hz⟩ := I.tuple hq
    obtain ⟨f0, f1, f2, f3, f4, f5⟩ := hf it (by simp)
    have hl := rv.length
    have hai : a ≠ it := fun z => by
      obtain ⟨o, q, hcl, _⟩ := p ; obtain ⟨o2, q2, hc2, _⟩ := hit
      rw [z, q2] at q ; cases q ; rw [hc2] at hcl ; exact absurd hcl (by simp)
    have hsz : its.toArray.size = i := by rw [List.size_toArray]; omega
    have D := Draws.tuple (prog := X.prog) (w := X.w) (A := X.A.in1) (I.ok.hd hc) it a hai its.toArray
    rw [hsz] at D
    exact wpAny_pyNext_enum_endD D he ⟨hit, p⟩ fun h' eb => ⟨rfl, I.turned (t' := s.toks) (fun b o hb q => eb b o hb q) f0 f1 f3 f4 f5⟩
  self := fun A i s Q E st h => let ⟨⟨_, he⟩, _⟩ := st; wpAny_pyIter_enum he h
def iEnumT (K : PySem.W.Frag) (ta : TA) : TI := fun σ H R => ta σ H fun vs H1 => ∃ a xs, vs = [.ref a] ∧ SqT K H1 a xs ∧ R (IteT K a) H1
theorem pi_enumT {X : Cx} {e : Expr} {ta : TA} {p pos tpos : Pos} {elts : List Expr} {kk : Nat} (hg : Gl X "enumerate") (hm : X.mg "enumerate" = none) (ha : PA X [e] ta) (hs : starEach [e] X.env = [(false, eval e X.env)] := by rfl) :
    PI X (.Tuple elts kk tpos) (.Call (.Name "enumerate" p) [e] [] pos) (iEnumT X.K ta) := by
  refine ⟨fun pins s σ H R I h => ?_⟩
  refine Call_ (ld_blt I hg hm boot_enumerate (PyProof.Rows.callWith_type1 (thn (ha.run pos pins s σ H _ I h) fun us t ⟨vs, H1, I1, r1, q1⟩ => ?_) hs rfl))
  obtain ⟨a, xs, rfl, hq, q⟩ := q1
  obtain ⟨u, rfl, ru⟩ := vals1 r1
  cases ru
  obtain ⟨its, rv, p', hz⟩ := I1.tuple hq
  refine call_enumT (items := its.toArray) p' fun h' he hit hk => wpAny_pyIter_enum he ?_
  refine ⟨t.heap.objs.size + 1, [t.heap.objs.size + 1, t.heap.objs.size], _, _, H1, rfl, I1.kept (t' := t.toks) hk, turn_enumT a (t.heap.objs.size + 1) t.heap.objs.size, ⟨⟨.none, he⟩, hit, Nat.succ_ne_self _⟩, fun b hb => ?_, q⟩
  have hb' : b = t.heap.objs.size + 1 ∨ b = t.heap.objs.size := by simpa using hb
  have hle : t.heap.objs.size ≤ b := by
    rcases hb' with rfl | rfl
    · exact Nat.le_succ _
    · exact Nat.le_refl _
  exact I1.fpOk hle (I1.hok.fresh hle)
/-- a loop over enumerate of a tuple -/
theorem for_enumT {K : PySem.W.Frag} {a : Addr} {xs : List V} {g : TG} {tb : L2.TS} {D : Ends} {σ : L2.St} {H : Hp} (Pv : Nat → L2.St → Hp → Prop) (h0 : Pv 0 σ H) (hl : ∀ i σ H, i ≤ xs.length → Pv i σ H → SqT K H a xs)
    (hs : ∀ (i : Nat) (x : V) (T : Addr) (σ : L2.St) (H : Hp), xs[i]? = some x → Pv i σ H → H T = none → g (.ref T) σ (upd H T (.tup [.int (i : Nat), x])) fun σ2 H2 => tb { D with nx := Pv (i + 1), ct := Pv (i + 1), bk := D.nx } σ2 H2) (hd : ∀ σ H, Pv xs.length σ H → D.nx σ H) :
    ∃ W : Nat → Nat → L2.St → Hp → Prop, (∃ m, W 0 m σ H) ∧ ∀ i m σ H, W i m σ H →
      ((IteT K a).stop i H ∧ D.nx σ H) ∨ ((IteT K a).go i H ∧ ∃ N : L2.St → Hp → Prop, (∀ σ' H', N σ' H' → ∃ m', m' < m ∧ W (i + 1) m' σ' H') ∧ ∀ v H', (IteT K a).yld i H v H' → g v σ H' fun σ2 H2 => tb { D with nx := N, ct := N, bk := D.nx } σ2 H2) := by
  refine ⟨fun i m σ H => m = xs.length - i ∧ i ≤ xs.length ∧ Pv i σ H, ⟨xs.length, rfl, Nat.zero_le _, h0⟩, ?_⟩
  rintro i m σ H ⟨rfl, hi, p⟩
  have q := hl i σ H hi p
  by_cases hlt : i < xs.length
  · refine .inr ⟨⟨xs, xs[i], q, List.getElem?_eq_getElem hlt⟩, Pv (i + 1), fun σ' H' p' => ⟨xs.length - (i + 1), by omega, rfl, hlt, p'⟩, fun v H' y => ?_⟩
    obtain ⟨T, x, rfl, hT, rfl, f⟩ := y
    exact hs i x T σ H (f xs q) p hT
  · obtain rfl : i = xs.length := by omega
    exact .inl ⟨⟨xs, q, rfl⟩, hd σ H p⟩
end Dm

namespace Dm
open PySem PySem.Spec PyProof.Rows L2 Evl

/-! ### a method of a tuple -/
def tTM (r : V → List V → Hp → VK → Prop) (to : TE) (t : TA) : TE := fun σ H Q => to σ H fun x H1 => (∃ a xs, x = .ref a ∧ TupAt H1 a xs) ∧ t σ H1 fun vs H2 => r x vs H2 Q
section
variable {X : Cx} {o e : Expr} {es : List Expr} {to : TE} {t : TA} {name : Str} {apos cpos : Pos} {id : String} {r : V → List V → Hp → VK → Prop}
theorem pe_tm (pa : PlainAttrs "tuple") (slot : Slot "tuple" name id) (hty : typeOf (.builtin id) = pure (.type "method_descriptor")) (hm : MtR X id r) (ho : PE X o to) (ha : PA X (e :: es) t)
    (q1 : attributeBase o name X.env (eval o X.env) = eval o X.env := by rfl)
    (q2 : ((backTo cpos (starEach (e :: es) X.env)).all (fun x => !x.1) && (backToKw cpos (keywordEach [] X.env)).all (fun x => x.1.isSome)
      && decide ((e :: es).length + ([] : List Keyword).length + (if ([] : List Keyword).isEmpty then 0 else 1) < 30)) = true := by rfl)
    (q3 : (apos.endLine == cpos.line) = true := by rfl) (q4 : starEach (e :: es) X.env = (false, eval e X.env) :: starEach es X.env := by rfl) (q5 : (backTo cpos (starEach es X.env)).any (·.1) = false := by rfl) :
    PE X (.Call (.Attribute o name apos) (e :: es) [] cpos) (tTM r to t) := by
  refine ⟨fun pins s σ H Q I h => wpAny_Call_method_late q1 q2 q3 rfl (thn (ho.run pins s σ H _ I h) fun v s1 ⟨x, H1, I1, r1, ⟨a, xs, ex, ta⟩, k⟩ => ?_)⟩
  subst ex
  cases r1
  obtain ⟨ob, hd, hf⟩ := ta
  obtain ⟨hg, _, _, _, ob', hg', hc', _⟩ := (show ObjOk X.prog X.w H1 s1.heap a (.frz ob (.tup xs)) from I1.hok a _ hf)
  rw [hg] at hg' ; cases hg'
  refine ⟨"tuple", id, pa, slot, hty, ⟨ob, hg, hc'⟩, fun b eb => by cases eb ; exact ⟨ob, hg, hd⟩, ?_⟩
  have z := ha.run cpos pins s1 σ H1 _ I1 k
  rw [q4] at z ⊢
  refine Calls.callWith_builtin (by show (false || (backTo cpos (starEach es X.env)).any (·.1)) = false ; rw [q5] ; rfl) (Calls.evalArgs_plain (thn z fun us s2 ⟨vs, H2, I2, r2, k2⟩ => ?_))
  exact hm pins s2 σ H2 (.ref a) vs (.ref a) us Q I2 rfl r2 k2
end

/-! ### what evaluates to what, further -/
section
variable {K : PySem.W.Frag} {σ : L2.St} {H H' : Hp} {ta tb tc te : TE} {x y z v : V} {i j k : Int} {p a : Addr} {xs ys : List V}
def tyD : PyData → Value
  | .none => .type "NoneType"
  | .bool _ => .type "bool"
  | .int _ => .type "int"
  | .str _ => .type "str"
  | .tuple _ => .type "tuple"
  | _ => .type "list"
theorem Tp.ty {d : PyData} (h : Tp H v d) : TyX K H v (tyD d) := by
  cases h with
  | non => exact .base .non
  | bl b => exact .base (.bl b)
  | int i => exact .base (.int i)
  | str x => exact .base (.str x)
  | tup h _ => obtain ⟨o, _, e⟩ := h; exact .fTuple e
theorem ev_isi {n : String} {t : Value} {b : Bool} (ha : Ev ta σ H x) (ht : ∀ H1, Same H H1 → TyX K H1 x t) (hk : PySem.W.kitOne K t (.type n) = some b) : Ev (tCB (rIsi K) (tCons ta (tCons (tC (.ty n)) tNil))) σ H (.bl b) :=
  fun H1 e Q q => ha H1 e _ fun H2 e2 => ⟨x, .ty n, t, .type n, b, rfl, .ty n, ht H2 (e.trans e2), hk, q H2 e2⟩
theorem ev_isiD {n : String} {d : PyData} {b : Bool} (ha : Ev ta σ H x) (ht : Tp H x d) (hk : PySem.W.kitOne K (tyD d) (.type n) = some b) : Ev (tCB (rIsi K) (tCons ta (tCons (tC (.ty n)) tNil))) σ H (.bl b) :=
  ev_isi ha (fun H1 e => (ht.mono (Same.ts e)).ty) hk
theorem ev_lenT (ha : Ev ta σ H (.ref p)) (h : TupAt H p xs) : Ev (tCB (rLenS K) (tCons ta tNil)) σ H (.int (xs.length : Int)) := fun H1 e Q q =>
  ha H1 e _ fun H2 e2 => ⟨p, xs, rfl, .inr (h.mono (Same.ts (e.trans e2))).sq, q H2 e2⟩
abbrev rLe : R2 := rI0 fun i j => .bl (decide (i ≤ j))
theorem ev_chainLe (ha : Ev ta σ H (.int i)) (hb : Ev tb σ H (.int j)) (hc : Ev tc σ H (.int k)) : Ev (tChain rLe rLe ta tb tc) σ H (.bl (decide (i ≤ j) && decide (j ≤ k))) := fun H1 e Q q =>
  ha H1 e _ fun H2 e2 => hb H2 (e.trans e2) _ fun H3 e3 => ⟨i, j, rfl, rfl, _, rfl, by
    cases h : decide (i ≤ j) with
    | true =>
      rw [if_pos rfl]
      refine hc H3 ((e.trans e2).trans e3) _ fun H4 e4 => ⟨j, k, rfl, rfl, ?_⟩
      have z := q H4 ((e2.trans e3).trans e4)
      rw [h] at z
      exact z
    | false =>
      rw [if_neg Bool.false_ne_true]
      have z := q H3 (e2.trans e3)
      rw [h] at z
      exact z⟩
theorem ev_all {bs : List Bool} (h : EvL te σ H (bs.map V.bl)) : Ev (tCB (rAll K) (tCons te tNil)) σ H (.bl (bs.all id)) := fun H1 e Q q =>
  h H1 e _ fun p H2 _ e2 h2 => ⟨p, bs, rfl, .inl (.inl h2), q H2 e2⟩
theorem ev_maxD {ns : List Int} (h : EvL te σ H (ns.map V.int)) : Ev (tCKw (rMaxD K) (tCons te tNil) (tCons (tC .non) tNil)) σ H (maxV ns) := fun H1 e Q q =>
  h H1 e _ fun p H2 _ e2 h2 => ⟨p, ns, rfl, rfl, .inl (.inl h2), q H2 e2⟩
theorem ev_tcount {ns : List Int} (ha : Ev ta σ H (.ref p)) (h : TupAt H p (ns.map V.int)) (hb : Ev tb σ H (.int k)) : Ev (tTM (rCountT K) ta (tCons tb tNil)) σ H (.int (ns.count k : Nat)) := fun H1 e Q q =>
  ha H1 e _ fun H2 e2 => ⟨⟨p, _, rfl, h.mono (Same.ts (e.trans e2))⟩, hb H2 (e.trans e2) _ fun H3 e3 => ⟨p, ns, k, rfl, rfl, (h.mono (Same.ts ((e.trans e2).trans e3))).sq, q H3 (e2.trans e3)⟩⟩
theorem ev_ixT (ha : Ev ta σ H (.ref p)) (hb : Ev tb σ H (.int i)) (h : TupAt H p xs) (hi : atI xs i = some v) : Ev (tOp (rIx K) ta tb) σ H v := fun H1 e Q q =>
  ha H1 e _ fun H2 e2 => hb H2 (e.trans e2) _ fun H3 e3 => .inr (.inl ⟨p, xs, i, v, rfl, rfl, (h.mono (Same.ts ((e.trans e2).trans e3))).sq, hi, q H3 (e2.trans e3)⟩)
theorem ev_ixL (ha : Ev ta σ H (.ref p)) (hb : Ev tb σ H (.int i)) (h : SqL K H p xs) (hi : atI xs i = some v) : Ev (tOp (rIx K) ta tb) σ H v := fun H1 e Q q =>
  ha H1 e _ fun H2 e2 => hb H2 (e.trans e2) _ fun H3 e3 => .inl ⟨p, xs, i, v, rfl, rfl, ex_l ((e.trans e2).trans e3) h, hi, q H3 (e2.trans e3)⟩
theorem rv_eqI : RV rEq (.int i) (.int j) H (.bl (decide (i = j))) := fun H1 _ Q q => g_eqI (q H1 (Ex.refl H1))
theorem rv_neI : RV rNe (.int i) (.int j) H (.bl (!decide (i = j))) := fun H1 _ Q q => g_neI (q H1 (Ex.refl H1))
theorem ev_isN (ha : Ev ta σ H x) : Ev (tIsN ta) σ H (.bl (decide (x = .non))) := fun H1 e Q q => ha H1 e _ fun H2 e2 => q H2 e2
theorem ev_notN (ha : Ev ta σ H x) : Ev (tNotN ta) σ H (.bl (!decide (x = .non))) := fun H1 e Q q => ha H1 e _ fun H2 e2 => q H2 e2
/-! a promise whose answer is told by the arguments, all else as it was -/
def PV (pre : List V → Hp → V → Prop) : Sp := fun vs H Q _ => ∃ v, pre vs H v ∧ ∀ H', Same H H' → Q v H'
theorem ev_pv {pre : List V → Hp → V → Prop} {vs : List V} {E : XK} {t : TA} (h : EvA t σ H vs) (hp : ∀ H1, Same H H1 → pre vs H1 z) : Ev (tCall (PV pre) [] E t) σ H z := fun H1 e Q q =>
  h H1 e _ fun H2 e2 => by
    show PV pre (vs ++ []) H2 Q E
    rw [List.append_nil]
    exact ⟨z, hp H2 (e.trans e2), fun H3 e3 => q H3 (e2.trans e3)⟩
/-- a comprehension over a tuple -/
theorem el_lcT {t : TT} {tl : TE} {j : Nat} {vs : List Nat} (f : Nat → Bool) (g : Nat → V) (h : Ev tl σ H (.ref a)) (hx : TupAt H a xs) (hz : xs.length ≤ 40000) (hw : ∀ x, wipe ((wipe σ vs).set j (some x)) vs = wipe σ vs)
    (ht : ∀ (i : Nat) (x : V) H1, Ex H H1 → xs[i]? = some x → EvT t ((wipe σ vs).set j (some x)) H1 (f i)) (he : ∀ (i : Nat) (x : V) H1, Ex H H1 → xs[i]? = some x → f i = true → Ev te ((wipe σ vs).set j (some x)) H1 (g i)) :
    EvL (tLc (iTup K tl) (gName j) t te vs) σ H (given xs.length f g) := fun H0 e Q q => h H0 e _ fun H1 e1 => ⟨a, rfl, ⟨xs, (hx.mono (Same.ts (e.trans e1))).sq⟩, fun Dl hD =>
  lc_tup (xs := xs) (Cw H1 f g Dl) ⟨hD, Ex.new hD, upd_same⟩ (fun i H' _ c => (hx.mono (Same.ts ((e.trans e1).trans c.2.1))).sq) (fun i x H' hi c => ⟨hw x, cw_turn c (by have := (List.getElem?_eq_some_iff.mp hi).1; omega) (ht i x H1 (e.trans e1) hi) (fun hf => he i x H1 (e.trans e1) hi hf)⟩)
    (fun H' c => q Dl H' (fresh_back e1 c.1) (e1.trans c.2.1) c.2.2)⟩
theorem et_yes : EvT tYes σ H true := fun H1 _ _ q => q H1 (Ex.refl H1)
/-- given, by the list itself -/
theorem given_take {α : Type} (l : List α) (f : α → Bool) (g : α → V) (F : Nat → Bool) (G : Nat → V) (hf : ∀ i a, l[i]? = some a → F i = f a) (hg : ∀ i a, l[i]? = some a → G i = g a) : ∀ n, n ≤ l.length → given n F G = ((l.take n).filter f).map g
  | 0, _ => by rw [List.take_zero]; rfl
  | n + 1, h => by
    have hn : n < l.length := h
    have e : l[n]? = some l[n] := List.getElem?_eq_getElem hn
    have ih := given_take l f g F G hf hg n (by omega)
    rw [List.take_add_one, e, Option.toList_some, List.filter_append, List.map_append, ← ih]
    cases hF : F n with
    | true =>
      rw [given_yes hF, hg n _ e]
      have hf' : f l[n] = true := by rw [← hf n _ e]; exact hF
      rw [List.filter_cons, if_pos hf'] ; rfl
    | false =>
      rw [given_no hF]
      have hf' : f l[n] = false := by rw [← hf n _ e]; exact hF
      rw [List.filter_cons, if_neg (by rw [hf']; exact Bool.false_ne_true)]
      exact (List.append_nil _).symm
theorem given_map {α : Type} (l : List α) (f : α → Bool) (g : α → V) (F : Nat → Bool) (G : Nat → V) (hf : ∀ i a, l[i]? = some a → F i = f a) (hg : ∀ i a, l[i]? = some a → G i = g a) : given l.length F G = (l.filter f).map g := by
  have h := given_take l f g F G hf hg l.length (Nat.le_refl _)
  rwa [List.take_length] at h
theorem given_all {α : Type} (l : List α) (g : α → V) (G : Nat → V) (hg : ∀ i a, l[i]? = some a → G i = g a) : given l.length (fun _ => true) G = l.map g := by
  rw [given_map l (fun _ => true) g _ G (fun _ _ _ => rfl) hg, List.filter_eq_self.mpr (fun _ _ => rfl)]
end
end Dm

namespace Dm
/-! ### things, claims: plain data and what is reckoned of it -/
open PySem PySem.Spec PyProof.Rows L2 Evl
def dInt : PyData → Bool
  | .int _ => true
  | .bool _ => true
  | _ => false
def dBool : PyData → Bool
  | .bool _ => true
  | _ => false
def dStr : PyData → Bool
  | .str _ => true
  | _ => false
def dTup : PyData → Bool
  | .tuple _ => true
  | _ => false
def dLst (d : PyData) : Bool := !(dInt d || dStr d || dTup d || (match d with | .none => true | _ => false))
theorem kit_int {K : PySem.W.Frag} {d : PyData} : PySem.W.kitOne K (tyD d) (.type "int") = some (dInt d) := by cases d <;> first | exact kit_ty (r := true) (by decide +kernel) | exact kit_ty (r := false) (by decide +kernel)
theorem kit_bool {K : PySem.W.Frag} {d : PyData} : PySem.W.kitOne K (tyD d) (.type "bool") = some (dBool d) := by cases d <;> first | exact kit_ty (r := true) (by decide +kernel) | exact kit_ty (r := false) (by decide +kernel)
theorem kit_str {K : PySem.W.Frag} {d : PyData} : PySem.W.kitOne K (tyD d) (.type "str") = some (dStr d) := by cases d <;> first | exact kit_ty (r := true) (by decide +kernel) | exact kit_ty (r := false) (by decide +kernel)
theorem kit_tup {K : PySem.W.Frag} {d : PyData} : PySem.W.kitOne K (tyD d) (.type "tuple") = some (dTup d) := by cases d <;> first | exact kit_ty (r := true) (by decide +kernel) | exact kit_ty (r := false) (by decide +kernel)
theorem kit_lst {K : PySem.W.Frag} {d : PyData} : PySem.W.kitOne K (tyD d) (.type "list") = some (dLst d) := by cases d <;> first | exact kit_ty (r := true) (by decide +kernel) | exact kit_ty (r := false) (by decide +kernel)
def isNum (lo hi : Int) : PyData → Bool
  | .int i => decide (lo ≤ i) && decide (i ≤ hi)
  | _ => false
def isThree (low : Int) : PyData → Bool
  | .tuple ds => (ds.length == 3) && ds.all (isNum low 9)
  | _ => false
def isClaimD : PyData → Bool
  | .tuple [w, n] => isThree (-1) w && isNum 0 9 n
  | _ => false
def mkD (m : List Int) : PyData := .tuple (m.map .int)
def clD (c : List Int × Int) : PyData := .tuple [mkD c.1, .int c.2]
def clsD (cs : List (List Int × Int)) : PyData := .tuple (cs.map clD)
def okMarks (m : List Int) : Prop := m.length = 3 ∧ ∀ x ∈ m, 0 ≤ x ∧ x ≤ 9
def okClaim (c : List Int × Int) : Prop := c.1.length = 3 ∧ (∀ x ∈ c.1, -1 ≤ x ∧ x ≤ 9) ∧ 0 ≤ c.2 ∧ c.2 ≤ 9
def okClaims (cs : List (List Int × Int)) : Prop := cs.length ≤ 6 ∧ ∀ c ∈ cs, okClaim c
theorem three_of {low : Int} {m : List Int} (h : m.length = 3) (hr : ∀ x ∈ m, low ≤ x ∧ x ≤ 9) : isThree low (mkD m) = true := by
  show ((m.map PyData.int).length == 3 && (m.map PyData.int).all (isNum low 9)) = true
  rw [List.length_map, h, List.all_map, Bool.and_eq_true]
  refine ⟨rfl, List.all_eq_true.mpr fun x hx => ?_⟩
  have := hr x hx
  show (decide (low ≤ x) && decide (x ≤ 9)) = true
  rw [decide_eq_true this.1, decide_eq_true this.2]; rfl
theorem okMarks.three {m : List Int} (h : okMarks m) : isThree 0 (mkD m) = true := three_of h.1 h.2
theorem okClaim.is {c : List Int × Int} (h : okClaim c) : isClaimD (clD c) = true := by
  show (isThree (-1) (mkD c.1) && (decide (0 ≤ c.2) && decide (c.2 ≤ 9))) = true
  rw [three_of h.1 h.2.1, decide_eq_true h.2.2.1, decide_eq_true h.2.2.2]; rfl
/-- the claim fits the marks; how much; the greatest of those that fit -/
def fitsM (w m : List Int) : Bool := (w.zip m).all fun p => decide (p.1 = -1) || decide (p.1 = p.2)
def sizeM (c : List Int × Int) : Int := 10 * c.2 + (c.1.length : Int) - (c.1.count (-1) : Nat)
def bestL (cs : List (List Int × Int)) (m : List Int) : List Int := (cs.filter fun c => fitsM c.1 m).map sizeM
end Dm

namespace Dm
open PySem PySem.Spec PyProof.Rows L2 Evl
/-! ### loops and comprehensions over anything of n turns -/
theorem for_any {J : It} {n : Nat} {g : TG} {tb : L2.TS} {D : Ends} {σ : L2.St} {H : Hp} (Pv : Nat → L2.St → Hp → Prop) (h0 : Pv 0 σ H)
    (hg : ∀ i σ H, i < n → Pv i σ H → J.go i H) (hp : ∀ σ H, Pv n σ H → J.stop n H)
    (hs : ∀ i x σ H H', i < n → Pv i σ H → J.yld i H x H' → g x σ H' fun σ2 H2 => tb { D with nx := Pv (i + 1), ct := Pv (i + 1), bk := D.nx } σ2 H2) (hd : ∀ σ H, Pv n σ H → D.nx σ H) :
    ∃ W : Nat → Nat → L2.St → Hp → Prop, (∃ m, W 0 m σ H) ∧ ∀ i m σ H, W i m σ H →
      (J.stop i H ∧ D.nx σ H) ∨ (J.go i H ∧ ∃ N : L2.St → Hp → Prop, (∀ σ' H', N σ' H' → ∃ m', m' < m ∧ W (i + 1) m' σ' H') ∧ ∀ x H', J.yld i H x H' → g x σ H' fun σ2 H2 => tb { D with nx := N, ct := N, bk := D.nx } σ2 H2) := by
  refine ⟨fun i m σ H => m = n - i ∧ i ≤ n ∧ Pv i σ H, ⟨n, rfl, Nat.zero_le _, h0⟩, fun i m σ H ⟨em, hi, p⟩ => ?_⟩
  by_cases hlt : i < n
  · exact .inr ⟨hg i σ H hlt p, Pv (i + 1), fun σ' H' p' => ⟨n - (i + 1), by omega, rfl, hlt, p'⟩, fun x H' y => hs i x σ H H' hlt p y⟩
  · obtain rfl : i = n := by omega
    exact .inl ⟨hp σ H p, hd σ H p⟩
theorem lc_any {J : It} {n : Nat} {g : TG} {tt : TT} {te : TE} {vs : List Nat} {σ : L2.St} {H1 : Hp} {L : Addr} {Qd : Hp → Prop} (Pv : Nat → Hp → Prop) (h0 : Pv 0 (upd H1 L (.lst [])))
    (hg : ∀ i H, i < n → Pv i H → J.go i H) (hp : ∀ H, Pv n H → J.stop n H)
    (hs : ∀ i x H H', i < n → Pv i H → J.yld i H x H' → g x (wipe σ vs) H' fun σ2 H2 => wipe σ2 vs = wipe σ vs ∧ tt σ2 H2 fun b H3 =>
      if b = true then te σ2 H3 fun y H4 => ∃ acc, H4 L = some (.lst acc) ∧ acc.length < sizeLine ∧ Pv (i + 1) (upd H4 L (.lst (acc ++ [y]))) else Pv (i + 1) H3) (hd : ∀ H, Pv n H → Qd H) :
    ∃ W : Nat → Nat → Hp → Prop, (∃ m, W 0 m (upd H1 L (.lst []))) ∧ ∀ i m H, W i m H →
      (J.stop i H ∧ Qd H) ∨ (J.go i H ∧ ∃ Nx : Hp → Prop, (∀ H', Nx H' → ∃ m', m' < m ∧ W (i + 1) m' H') ∧ ∀ x H', J.yld i H x H' → g x (wipe σ vs) H' fun σ2 H2 => wipe σ2 vs = wipe σ vs ∧ tt σ2 H2 fun b H3 =>
        if b = true then te σ2 H3 fun y H4 => ∃ acc, H4 L = some (.lst acc) ∧ acc.length < sizeLine ∧ Nx (upd H4 L (.lst (acc ++ [y]))) else Nx H3) := by
  refine ⟨fun i m H => m = n - i ∧ i ≤ n ∧ Pv i H, ⟨n, rfl, Nat.zero_le _, h0⟩, fun i m H ⟨em, hi, p⟩ => ?_⟩
  by_cases hlt : i < n
  · exact .inr ⟨hg i H hlt p, Pv (i + 1), fun H' p' => ⟨n - (i + 1), by omega, rfl, hlt, p'⟩, fun x H' y => hs i x H H' hlt p y⟩
  · obtain rfl : i = n := by omega
    exact .inl ⟨hp H p, hd H p⟩
section
variable {K : PySem.W.Frag} {σ : L2.St} {H H' : Hp} {ta tb tc te tl : TE} {t : TT} {x y z v : V} {a b : Addr} {xs ys : List V} {D : Ends} {tu tz : L2.TS} {vs : List Nat} {i j k : Nat}
/-! ### targets of two and three names -/
abbrev gT2 (K : PySem.W.Frag) (i j : Nat) : TG := gTup K 2 (gCons (gName i) (gCons (gName j) gNil))
abbrev gT3 (K : PySem.W.Frag) (i j k : Nat) : TG := gTup K 3 (gCons (gName i) (gCons (gName j) (gCons (gName k) gNil)))
theorem g_un2 {R : L2.St → Hp → Prop} (ha : SqT K H a [x, y]) (q : R ((σ.set i (some x)).set j (some y)) H) : gT2 K i j (.ref a) σ H R := ⟨a, [x, y], rfl, ha, rfl, x, [y], rfl, y, [], rfl, rfl, q⟩
theorem g_un3 {R : L2.St → Hp → Prop} (ha : SqT K H a [x, y, z]) (q : R (((σ.set i (some x)).set j (some y)).set k (some z)) H) : gT3 K i j k (.ref a) σ H R := ⟨a, [x, y, z], rfl, ha, rfl, x, [y, z], rfl, y, [z], rfl, z, [], rfl, rfl, q⟩
theorem s_un2 (h : Ev te σ H (.ref a)) (ha : TupAt H a [x, y]) (q : ∀ H1, Ex H H1 → D.nx ((σ.set i (some x)).set j (some y)) H1) : tAsg te (gT2 K i j) D σ H :=
  h H (Ex.refl H) _ fun H1 e => g_un2 (ha.mono (Same.ts e)).sq (q H1 e)
theorem q_un2 (h : Ev te σ H (.ref a)) (ha : TupAt H a [x, y]) (q : ∀ H1, Ex H H1 → tz D ((σ.set i (some x)).set j (some y)) H1) : tSeq (tAsg te (gT2 K i j)) tz D σ H := s_un2 (D := { D with nx := tz D }) h ha q
theorem q_un3 (h : Ev te σ H (.ref a)) (ha : TupAt H a [x, y, z]) (q : ∀ H1, Ex H H1 → tz D (((σ.set i (some x)).set j (some y)).set k (some z)) H1) : tSeq (tAsg te (gT3 K i j k)) tz D σ H :=
  h H (Ex.refl H) _ fun H1 e => g_un3 (ha.mono (Same.ts e)).sq (q H1 e)
theorem Cw.more {f : Nat → Bool} {g : Nat → V} {L : Addr} {n : Nat} {T : Addr} {o : HO} (c : Cw H f g L n H') (hT : H' T = none) : Cw H f g L n (upd H' T o) := by
  obtain ⟨c1, c2, c3⟩ := c
  exact ⟨c1, c2.trans (Ex.new hT), by rw [upd_ne (ne_of_none c3 hT)] ; exact c3⟩
/-- a comprehension over zip of two tuples of one length -/
theorem el_lcZ (f : Nat → Bool) (g : Nat → V) (h1 : Ev ta σ H (.ref a)) (h2 : Ev tb σ H (.ref b)) (hx : TupAt H a xs) (hy : TupAt H b ys) (hl : xs.length = ys.length) (hz : xs.length ≤ 40000)
    (hw : ∀ x y, wipe (((wipe σ vs).set i (some x)).set j (some y)) vs = wipe σ vs)
    (ht : ∀ (n : Nat) (x y : V) H1, Ex H H1 → xs[n]? = some x → ys[n]? = some y → EvT t (((wipe σ vs).set i (some x)).set j (some y)) H1 (f n))
    (he : ∀ (n : Nat) (x y : V) H1, Ex H H1 → xs[n]? = some x → ys[n]? = some y → f n = true → Ev te (((wipe σ vs).set i (some x)).set j (some y)) H1 (g n)) :
    EvL (tLc (RZ.iZipA K (tCons ta (tCons tb tNil))) (gT2 K i j) t te vs) σ H (given xs.length f g) := fun H0 e Q q =>
  h1 H0 e _ fun H1 e1 => h2 H1 (e.trans e1) _ fun H2 e2 => ⟨a, b, xs, ys, rfl, .inr ⟨(hx.mono (Same.ts ((e.trans e1).trans e2))).sq, (hy.mono (Same.ts ((e.trans e1).trans e2))).sq, fun L hL => by
    have E : Ex H H2 := (e.trans e1).trans e2
    have qx : ∀ n H', Cw H2 f g L n H' → SqT K H' a xs := fun n H' c => (hx.mono (Same.ts (E.trans c.2.1))).sq
    have qy : ∀ n H', Cw H2 f g L n H' → SqT K H' b ys := fun n H' c => (hy.mono (Same.ts (E.trans c.2.1))).sq
    refine lc_any (n := xs.length) (Cw H2 f g L) ⟨hL, Ex.new hL, upd_same⟩ (fun n H' hn c => ⟨xs, ys, _, _, qx n H' c, qy n H' c, List.getElem?_eq_getElem hn, List.getElem?_eq_getElem (by omega : n < ys.length)⟩)
      (fun H' c => ⟨xs, ys, qx _ H' c, qy _ H' c, .inl (Nat.le_refl _)⟩) (fun n u H' H'' hn c y => ?_) (fun H' c => q L H' (fresh_back (e1.trans e2) c.1) ((e1.trans e2).trans c.2.1) c.2.2)
    obtain ⟨T, x, y, rfl, hT, rfl, fx, fy⟩ := y
    have ex := fx xs (qx n H' c)
    have ey := fy ys (qy n H' c)
    have c' : Cw H2 f g L n (upd H' T (.tup [x, y])) := Cw.more c hT
    exact g_un2 (SqT.of upd_same) ⟨hw x y, cw_turn c' (by omega) (ht n x y H2 E ex ey) (fun hf => he n x y H2 E ex ey hf)⟩⟩⟩
end
end Dm

namespace Dm
open PySem PySem.Spec PyProof.Rows L2 Evl
/-! ### the rules that name the written part, by the part itself: their readings do not lean on the context -/
section
variable {X : Cx} {K : PySem.W.Frag} {e l : Expr} {tg : Expr} {ta : TA} {tl to : TE} {t : TGs} {es : List Expr} {p pos cpos apos : Pos} {k n : Nat}
theorem ixK (h : X.K = K) : IxR X (rIx K) := h ▸ ix_seq
theorem lenK (h : X.K = K) : CallR X (.builtin "len") (rLenS K) := h ▸ call_len_seq
theorem isiK (h : X.K = K) : CallR X (.builtin "isinstance") (rIsi K) := h ▸ call_isi
theorem isiTK (h : X.K = K) : CallR X (.builtin "isinstance") (rIsiT K) := h ▸ call_isiT
theorem allK (h : X.K = K) (hc : X.calm = true) : CallR X (.builtin "all") (rAll K) := h ▸ cr_all hc
theorem tupleK (h : X.K = K) : CallR X (.type "tuple") (rTupF K) := h ▸ call_tupleF
theorem listK (h : X.K = K) : CallR X (.type "list") (rListS K) := h ▸ call_list_of
theorem inK (h : X.K = K) : OpR X (compareOp .In) (rIn K false) := h ▸ op_in_seq
theorem notInK (h : X.K = K) : OpR X (compareOp .NotIn) (rIn K true) := h ▸ op_notIn_seq
theorem eqDK (h : X.K = K) (hu : X.A.units + 64 < cLine) : OpR X (compareOp .Eq) (rEqD K) := h ▸ op_eqD hu
theorem neDK (h : X.K = K) (hu : X.A.units + 64 < cLine) : OpR X (compareOp .NotEq) (rNeD K) := h ▸ op_neD hu
theorem pi_listK (h : X.K = K) (hl : PE X l tl) : PI X tg l (iList K tl) := h ▸ pi_list hl
theorem pi_tupK (h : X.K = K) (hl : PE X l tl) : PI X tg l (iTup K tl) := h ▸ pi_tup hl
theorem pg_tupK (h : X.K = K) (hc : X.calm = true) (hp : PGs X es t) (hn : (assignEach es X.env).length = n := by rfl) (hst : (assignEach es X.env).findIdx? (·.1) = none := by rfl) : PG X (.Tuple es k pos) (gTup K n t) := h ▸ pg_tup hc hp hn hst
end
end Dm

namespace Dm
open PySem PySem.Spec PyProof.Rows L2 Evl
/-! ### the law's own draws: the cell that they turn -/
/-- [mixed, cells, place] stands at h, its cells at c -/
def Dr (H : Hp) (h c : Addr) : Prop := ∃ (m at_ : Int) (cells : List Int), H h = some (.lst [.int m, .ref c, .int at_]) ∧ H c = some (.lst (cells.map V.int)) ∧ 0 ≤ m ∧ m < 2147483647 ∧ 0 ≤ at_ ∧ cells.length ≤ 63
theorem Dr.mono {H H' : Hp} {h c : Addr} (e : Same H H') (d : Dr H h c) : Dr H' h c := by
  obtain ⟨m, a, cs, h1, h2, r⟩ := d
  exact ⟨m, a, cs, e _ _ h1, e _ _ h2, r⟩
theorem Dr.ne {H : Hp} {h c : Addr} (d : Dr H h c) : h ≠ c := by
  obtain ⟨m, a, cs, h1, h2, _⟩ := d
  refine ne_of h1 h2 fun z => ?_
  injection z with z
  match cs, z with
  | [], z => cases z
  | [_], z => cases z
  | _ :: _ :: _, z => simp at z
theorem Dr.noT {H : Hp} {h c : Addr} (d : Dr H h c) {p : Addr} (hp : p = h ∨ p = c) : ∀ u xs, H p ≠ some (.frz u (.tup xs)) := by
  obtain ⟨m, a, cs, h1, h2, _⟩ := d
  rintro u xs z
  rcases hp with rfl | rfl
  · rw [h1] at z ; cases z
  · rw [h2] at z ; cases z
/-- what is new is neither of the two -/
theorem Dr.new {H : Hp} {h c p : Addr} (d : Dr H h c) (hp : H p = none) : p ∉ [h, c] := by
  obtain ⟨m, a, cs, h1, h2, _⟩ := d
  intro z
  simp only [List.mem_cons, List.not_mem_nil, or_false] at z
  rcases z with rfl | rfl
  · rw [h1] at hp ; cases hp
  · rw [h2] at hp ; cases hp
/-- another object is laid or changed -/
theorem Dr.upd {H : Hp} {h c p : Addr} {o : HO} (d : Dr H h c) (hp : p ∉ [h, c]) : Dr (L2.upd H p o) h c := by
  obtain ⟨m, a, cs, h1, h2, r⟩ := d
  simp only [List.mem_cons, List.not_mem_nil, or_false, not_or] at hp
  exact ⟨m, a, cs, by rw [upd_ne (Ne.symm hp.1)]; exact h1, by rw [upd_ne (Ne.symm hp.2)]; exact h2, r⟩
/-- a list of the frame's own stays over what moves the two cells -/
theorem Mv.at {M : List Addr} {H H' : Hp} {p : Addr} {o : HO} (e : Mv M H H') (hp : p ∉ M) (h : H p = some o) : H' p = some o := e.fr p o hp h
theorem Mv.new {M : List Addr} {H H' : Hp} (e : Mv M H H') {p : Addr} (hp : p ∉ M) {o : HO} (h : H p = none) : Mv M H (L2.upd H' p o) := e.upd h

/-! ### data in lists too: alike -/
section
variable {K : PySem.W.Frag} {H : Hp} {v : V} {d : PyData}
mutual
theorem Dp.mono' {H' : Hp} (e : Same H H') : ∀ {v : V} {d : PyData}, Dp K H v d → Dp K H' v d
  | _, _, .non => .non
  | _, _, .bl b => .bl b
  | _, _, .int i => .int i
  | _, _, .str x => .str x
  | _, _, .lst h t => .lst (e.seq h) (DpAll.mono' e t)
  | _, _, .tup h t => .tup (ex_t e h) (DpAll.mono' e t)
theorem DpAll.mono' {H' : Hp} (e : Same H H') : ∀ {vs : List V} {ds : List PyData}, DpAll K H vs ds → DpAll K H' vs ds
  | _, _, .nil => .nil
  | _, _, .cons h t => .cons (Dp.mono' e h) (DpAll.mono' e t)
end
theorem Dp.ty (h : Dp K H v d) : TyX K H v (tyD d) := by
  cases h with
  | non => exact .base .non
  | bl b => exact .base (.bl b)
  | int i => exact .base (.int i)
  | str x => exact .base (.str x)
  | lst h _ =>
    rcases h with (h | ⟨o, h⟩) | ⟨o, its, n, h, hc, _⟩
    · exact .base (.lst h)
    · exact .base (.frz h)
    · exact .kList h hc
  | tup h _ =>
    rcases h with (h | ⟨o, h⟩) | ⟨o, its, n, h, hc, _⟩
    · exact .base (.tup h)
    · exact .fTuple h
    · exact .kTuple h hc
theorem DpAll.length : ∀ {vs : List V} {ds : List PyData}, DpAll K H vs ds → vs.length = ds.length
  | _, _, .nil => rfl
  | _, _, .cons _ t => congrArg (· + 1) (DpAll.length t)
theorem DpAll.get' : ∀ {vs : List V} {ds : List PyData} {i : Nat} {d : PyData}, DpAll K H vs ds → ds[i]? = some d → ∃ x, vs[i]? = some x ∧ Dp K H x d
  | _, _, i, _, .nil, e => by simp at e
  | _, _, 0, x, .cons h _, e => by
    have e' := Option.some.inj e
    subst e'
    exact ⟨_, rfl, h⟩
  | _, _, i + 1, x, .cons _ t, e => DpAll.get' (i := i) t (by simpa using e)
/-- at most n deep, no list beyond what is walked, no dict -/
inductive Fine : Nat → PyData → Prop
  | non (n) : Fine n .none
  | bool (n b) : Fine n (.bool b)
  | int (n i) : Fine n (.int i)
  | str (n x) : Fine n (.str x)
  | list {n ds} : ds.length ≤ 40000 → (∀ d ∈ ds, Fine n d) → Fine (n + 1) (.list ds)
  | tuple {n ds} : ds.length ≤ 40000 → (∀ d ∈ ds, Fine n d) → Fine (n + 1) (.tuple ds)
def dSeq : PyData → Bool
  | .list _ => true
  | .tuple _ => true
  | .dict _ => true
  | _ => false
theorem kit_seq {K : PySem.W.Frag} {d : PyData} : PySem.W.kitAny K (tyD d) [.type "tuple", .type "list"] = some (dSeq d) := by
  refine kitAny_cons (b := dTup d) kit_tup (fun h => kitAny_cons (b := dLst d) kit_lst (fun h' => ?_) fun h' => ?_) fun h => ?_
  · cases d <;> first | rfl | exact absurd h Bool.noConfusion | exact absurd h' Bool.noConfusion
  · cases d <;> first | rfl | exact absurd h Bool.noConfusion | exact absurd h' Bool.noConfusion
  · cases d <;> first | rfl | exact absurd h Bool.noConfusion
theorem lay_all : ∀ {ds : List PyData}, (∀ d ∈ ds, d.canLay0 = true) → PyData.canLayAll0 ds = true
  | [], _ => by simp only [PyData.canLayAll0]
  | d :: ds, h => by
    simp only [PyData.canLayAll0, Bool.and_eq_true]
    exact ⟨h d (List.mem_cons_self ..), lay_all fun e he => h e (List.mem_cons_of_mem _ he)⟩
theorem dep_all {n : Nat} : ∀ {ds : List PyData}, (∀ d ∈ ds, d.depth ≤ n) → PyData.depthAll ds ≤ n
  | [], _ => by simp only [PyData.depthAll]; exact Nat.zero_le _
  | d :: ds, h => by
    simp only [PyData.depthAll]
    exact Nat.max_le.mpr ⟨h d (List.mem_cons_self ..), dep_all fun e he => h e (List.mem_cons_of_mem _ he)⟩
theorem shaped_list {ds : List PyData} (h : ∀ d ∈ ds, d.canLay0 = true ∧ d.depth ≤ 63) : SeqAt.shaped (.list ds) = true := by
  unfold SeqAt.shaped
  rw [Bool.and_eq_true]
  refine ⟨?_, decide_eq_true ?_⟩
  · simp only [PyData.canLay0]
    exact lay_all fun d hd => (h d hd).1
  · simp only [PyData.depth]
    have := dep_all (n := 63) fun d hd => (h d hd).2
    omega
theorem shaped_ints (ns : List Int) : SeqAt.shaped (.list (ns.map .int)) = true := shaped_list fun d hd => by
  obtain ⟨i, _, rfl⟩ := List.mem_map.mp hd
  simp only [PyData.canLay0, PyData.depth, true_and]
  exact Nat.zero_le _
theorem DpAll.of_ints : ∀ ns : List Int, DpAll K H (ns.map V.int) (ns.map .int)
  | [] => .nil
  | n :: ns => .cons (.int n) (DpAll.of_ints ns)
theorem eqv_nil (ns : List Int) : PyData.eqv (.list (ns.map .int)) (.list []) = decide (ns = []) := by
  cases ns with
  | nil => simp only [List.map_nil, PyData.eqv, PyData.eqvAll]; rfl
  | cons n ns => simp only [List.map_cons, PyData.eqv, PyData.eqvAll]; rfl
end
section
variable {K : PySem.W.Frag} {σ : L2.St} {H H' : Hp} {ta tb tc te : TE} {x y z v : V} {i j k : Int} {p a c h : Addr} {xs ys : List V}
theorem ev_isiD' {n : String} {d : PyData} {b : Bool} (ha : Ev ta σ H x) (ht : Dp K H x d) (hk : PySem.W.kitOne K (tyD d) (.type n) = some b) : Ev (tCB (rIsi K) (tCons ta (tCons (tC (.ty n)) tNil))) σ H (.bl b) :=
  ev_isi ha (fun H1 e => (Dp.ty (Dp.mono' e ht))) hk
theorem ev_isiSeq {d : PyData} (ha : Ev ta σ H x) (ht : Dp K H x d) : Ev (tCB (rIsiT K) (tCons ta (tCons (tTup (tCons (tC (.ty "tuple")) (tCons (tC (.ty "list")) tNil))) tNil))) σ H (.bl (dSeq d)) := fun H1 e Q q =>
  ha H1 e _ fun H2 e2 => ⟨by show 2 ≤ sizeLine; decide, fun p hp => ⟨x, p, [.ty "tuple", .ty "list"], tyD d, [.type "tuple", .type "list"], dSeq d, rfl, upd_same, .cons (.ty _) (.cons (.ty _) .nil), Dp.ty (Dp.mono' ((e.trans e2).trans (Same.new hp)) ht), kit_seq, q _ (e2.trans (Same.new hp))⟩⟩
/-- the cells, against [] -/
theorem rv_neNil {ns : List Int} (hc : H c = some (.lst (ns.map V.int))) (hp : H p = some (.lst [])) : RV (rNeD K) (.ref c) (.ref p) H (.bl (!decide (ns = []))) := fun H1 e Q q =>
  ⟨.list (ns.map .int), .list [], .lst (SqL.of (e _ _ hc)) (DpAll.of_ints ns), .lst (SqL.of (e _ _ hp)) .nil, shaped_ints ns, shaped_ints [], by rw [eqv_nil]; exact q H1 (Ex.refl H1)⟩
theorem ev_lenD {ds : List PyData} (ha : Ev ta σ H x) (hd : Dp K H x (.list ds) ∨ Dp K H x (.tuple ds)) : Ev (tCB (rLenS K) (tCons ta tNil)) σ H (.int (ds.length : Int)) := fun H1 e Q q =>
  ha H1 e _ fun H2 e2 => by
    rcases hd with hd | hd
    · cases hd with
      | lst h t => exact ⟨_, _, rfl, .inl (ex_l (e.trans e2) h), by rw [DpAll.length t]; exact q H2 e2⟩
    · cases hd with
      | tup h t => exact ⟨_, _, rfl, .inr (ex_t (e.trans e2) h), by rw [DpAll.length t]; exact q H2 e2⟩
theorem ev_ixD {ds : List PyData} {n : Nat} {d : PyData} (ha : Ev ta σ H x) (hb : Ev tb σ H (.int (n : Int))) (hd : Dp K H x (.list ds) ∨ Dp K H x (.tuple ds)) (hn : ds[n]? = some d) : ∃ v, Dp K H v d ∧ Ev (tOp (rIx K) ta tb) σ H v := by
  rcases hd with hd | hd
  · cases hd with
    | lst h t =>
      obtain ⟨v, hv, hd⟩ := DpAll.get' t hn
      exact ⟨v, hd, ev_ixL ha hb h (atI_nat hv)⟩
  · cases hd with
    | tup h t =>
      obtain ⟨v, hv, hd⟩ := DpAll.get' t hn
      refine ⟨v, hd, fun H1 e Q q => ha H1 e _ fun H2 e2 => hb H2 (e.trans e2) _ fun H3 e3 => .inr (.inl ⟨_, _, _, v, rfl, rfl, ex_t ((e.trans e2).trans e3) h, atI_nat hv, q H3 (e2.trans e3)⟩)⟩
theorem rv_eqNil {q : Addr} (hp : H p = some (.lst [])) (hq : H q = some (.lst [])) : RV (rEqD K) (.ref p) (.ref q) H (.bl true) := fun H1 e Q k =>
  ⟨.list [], .list [], .lst (SqL.of (e _ _ hp)) .nil, .lst (SqL.of (e _ _ hq)) .nil, shaped_ints [], shaped_ints [], by
    have z : PyData.eqv (.list []) (.list []) = true := by simp only [PyData.eqv, PyData.eqvAll]
    rw [z]; exact k H1 (Ex.refl H1)⟩
abbrev rGeI : R2 := rI0 fun i j => .bl (decide (j ≤ i))
end
end Dm

namespace Dm
open PySem PySem.Spec PyProof.Rows L2 Evl
/-! ### the mathematics of fit, two ways -/
def cntEq (w m : List Int) : Nat := ((List.range 3).filter fun k => decide (w.getD k 0 = m.getD k 0)).length
def cntTold (w : List Int) : Nat := ((List.range 3).filter fun k => !decide (w.getD k 0 = -1)).length
def stepF (m : List Int) (best : Option Int) (c : List Int × Int) : Option Int :=
  if decide (cntEq c.1 m = cntTold c.1) && (best.isNone || decide (10 * c.2 + (cntEq c.1 m : Int) > best.getD 0)) then some (10 * c.2 + (cntEq c.1 m : Int)) else best
def lawFit (cs : List (List Int × Int)) (m : List Int) : Option Int := cs.foldl (stepF m) none
def optV : Option Int → V
  | none => .non
  | some i => .int i
theorem cnt_fits {w m : List Int} (hw : w.length = 3) (hm : okMarks m) : decide (cntEq w m = cntTold w) = fitsM w m ∧ (fitsM w m = true → (w.length : Int) - (w.count (-1) : Nat) = (cntEq w m : Int)) := by
  obtain ⟨h3, hr⟩ := hm
  match w, hw, m, h3 with
  | [a, b, c], _, [x, y, z], _ =>
    have hx := hr x (by simp)
    have hy := hr y (by simp)
    have hz := hr z (by simp)
    have e3 : List.range 3 = [0, 1, 2] := rfl
    have k0 : ∀ (p q r : Int), [p, q, r].getD 0 0 = p := fun _ _ _ => rfl
    have k1 : ∀ (p q r : Int), [p, q, r].getD 1 0 = q := fun _ _ _ => rfl
    have k2 : ∀ (p q r : Int), [p, q, r].getD 2 0 = r := fun _ _ _ => rfl
    unfold cntEq cntTold fitsM
    rw [e3]
    simp only [List.filter_cons, List.filter_nil, k0, k1, k2, List.zip_cons_cons, List.zip_nil_right, List.all_cons, List.all_nil, List.count_cons, List.count_nil]
    have nx : ¬ (-1 = x) := by omega
    have ny : ¬ (-1 = y) := by omega
    have nz : ¬ (-1 = z) := by omega
    rcases (show a = -1 ∨ (a ≠ -1 ∧ a = x) ∨ (a ≠ -1 ∧ a ≠ x) by omega) with ha | ⟨ha, ha'⟩ | ⟨ha, ha'⟩ <;>
    rcases (show b = -1 ∨ (b ≠ -1 ∧ b = y) ∨ (b ≠ -1 ∧ b ≠ y) by omega) with hb | ⟨hb, hb'⟩ | ⟨hb, hb'⟩ <;>
    rcases (show c = -1 ∨ (c ≠ -1 ∧ c = z) ∨ (c ≠ -1 ∧ c ≠ z) by omega) with hc | ⟨hc, hc'⟩ | ⟨hc, hc'⟩ <;>
    first
    | (subst_vars; simp_all; done)
    | (simp_all; done)
    | (subst_vars; simp_all; omega)
theorem step_eq {m : List Int} {best : Option Int} {c : List Int × Int} (hc : okClaim c) (hm : okMarks m) :
    stepF m best c = if fitsM c.1 m then (match best with | none => some (sizeM c) | some b => some (max b (sizeM c))) else best := by
  obtain ⟨h1, h2⟩ := cnt_fits hc.1 hm
  unfold stepF
  rw [h1]
  cases hf : fitsM c.1 m with
  | false => rfl
  | true =>
    have hs : 10 * c.2 + (cntEq c.1 m : Int) = sizeM c := by unfold sizeM ; have := h2 hf ; omega
    rw [hs]
    cases best with
    | none => rfl
    | some b =>
      show (if (true && (false || decide (sizeM c > b))) = true then some (sizeM c) else some b) = some (max b (sizeM c))
      by_cases hb : sizeM c > b
      · rw [decide_eq_true hb, if_pos (by rfl), Int.max_eq_right (by omega)]
      · rw [decide_eq_false hb, if_neg (by decide), Int.max_eq_left (by omega)]
theorem fold_fit {m : List Int} (hm : okMarks m) : ∀ (cs : List (List Int × Int)) (best : Option Int), (∀ c ∈ cs, okClaim c) →
    optV (cs.foldl (stepF m) best) = match best with | none => maxV (bestL cs m) | some b => .int ((bestL cs m).foldl max b)
  | [], none, _ => rfl
  | [], some b, _ => rfl
  | c :: cs, best, h => by
    have hc := h c (List.mem_cons_self ..)
    have ih := fun b => fold_fit hm cs b fun d hd => h d (List.mem_cons_of_mem _ hd)
    rw [List.foldl_cons, step_eq hc hm]
    unfold bestL at ih ⊢
    rw [List.filter_cons]
    cases hf : fitsM c.1 m with
    | false => exact ih best
    | true =>
      rw [if_pos rfl, if_pos rfl, List.map_cons]
      cases best with
      | none => exact ih (some (sizeM c))
      | some b => exact ih (some (max b (sizeM c)))
theorem fit_eq {cs : List (List Int × Int)} {m : List Int} (hc : okClaims cs) (hm : okMarks m) : maxV (bestL cs m) = optV (lawFit cs m) := (fold_fit hm cs none hc.2).symm
/-! ### what the law's helpers promise -/
def spNext : Sp := fun vs H Q _ => ∃ (h c : Addr) (k : Int), vs = [.ref h, .int k] ∧ Dr H h c ∧ 0 < k ∧ k < 1000000 ∧ ∀ (H' : Hp) (r : Int), Dr H' h c → Mv [h, c] H H' → 0 ≤ r → r < k → Q (.int r) H'
def spMix (K : PySem.W.Frag) : Sp := fun vs H Q _ => ∃ (a : Addr) (ns : List Int) (sd : Int), vs = [.ref a, .int sd] ∧ SqL K H a (ns.map V.int) ∧ ns.length ≤ 63 ∧ 0 ≤ sd ∧ sd < 2147483647 ∧
  ∀ (H' : Hp) (h c : Addr), Dr H' h c → Same H H' → H h = none → H c = none → Q (.ref h) H'
def spAlike (K : PySem.W.Frag) : Nat → Sp
  | 0 => fun _ _ _ _ => False
  | n + 1 => PV fun vs H v => ∃ x y d, vs = [x, y] ∧ Dp K H x d ∧ Dp K H y d ∧ Fine n d ∧ v = .bl true
def spMarks : Sp := fun vs H Q _ => ∃ (h c : Addr), vs = [.ref h] ∧ Dr H h c ∧ ∀ (H' : Hp) (v : V) (m : List Int), Dr H' h c → Mv [h, c] H H' → Tp H' v (mkD m) → okMarks m → Q v H'
def spClaims : Sp := fun vs H Q _ => ∃ (h c : Addr), vs = [.ref h] ∧ Dr H h c ∧ ∀ (H' : Hp) (v : V) (cs : List (List Int × Int)), Dr H' h c → Mv [h, c] H H' → Tp H' v (clsD cs) → okClaims cs → Q v H'
def spLawFit : Sp := PV fun vs H v => ∃ x y cs m, vs = [x, y] ∧ Tp H x (clsD cs) ∧ Tp H y (mkD m) ∧ okClaims cs ∧ okMarks m ∧ v = optV (lawFit cs m)
section
variable {K : PySem.W.Frag} {σ : L2.St} {H : Hp} {ta te : TE} {tl : TA} {i : Nat} {h c : Addr} {Q : VK} {E : XK}
theorem ev_alike {n : Nat} {x y : V} {d : PyData} (ha : EvA tl σ H [x, y]) (hd : ∀ H1, Same H H1 → Dp K H1 x d ∧ Dp K H1 y d) (hf : Fine n d) : Ev (tCall (spAlike K (n + 1)) [] E tl) σ H (.bl true) :=
  ev_pv ha fun H1 e => ⟨x, y, d, rfl, (hd H1 e).1, (hd H1 e).2, hf, rfl⟩
theorem el_is {xs ys : List V} (z : EvL te σ H xs) (e : xs = ys) : EvL te σ H ys := e ▸ z
/-- a draw -/
theorem nx {k : Int} (dr : Dr H h c) (h0 : 0 < k) (h1 : k < 1000000) (q : ∀ (H' : Hp) (r : Int), Dr H' h c → Mv [h, c] H H' → 0 ≤ r → r < k → Q (.int r) H') : spNext ([.ref h, .int k] ++ []) H Q E := ⟨h, c, k, rfl, dr, h0, h1, q⟩
/-- an item of a written menu, drawn -/
theorem rd_menu {n : Int} {xs : List Int} (ht : EvA tl σ H (xs.map V.int)) (hv : σ[i]? = some (some (.ref h))) (dr : Dr H h c) (hn : (xs.length : Int) = n) (h0 : 0 < n) (h1 : n < 1000)
    (q : ∀ (H' : Hp) (v : Int), Dr H' h c → Mv [h, c] H H' → v ∈ xs → Q (.int v) H') : tOp (rIx K) (tLst tl) (tCall spNext [] E (tCons (tVar i) (tCons (tC (.int n)) tNil))) σ H Q :=
  ht H (Ex.refl H) _ fun H1 e1 => ⟨sz_of (by rw [List.length_map]; omega), fun p hp => ⟨.ref h, hv, by
    show spNext ([V.ref h, V.int n] ++ []) _ (fun y H2 => rIx K (V.ref p) y H2 Q) E
    refine nx (((dr.mono e1)).upd ((dr.mono e1).new hp)) h0 (by omega) fun H2 r d2 m2 r0 r1 => ?_
    have hL : H2 p = some (.lst (xs.map V.int)) := m2.at ((dr.mono e1).new hp) upd_same
    obtain ⟨j, rfl⟩ : ∃ j : Nat, r = (j : Int) := ⟨r.toNat, by omega⟩
    have hj : j < xs.length := by omega
    have e : (xs.map V.int)[j]? = some (.int xs[j]) := by rw [List.getElem?_map, List.getElem?_eq_getElem hj] ; rfl
    exact .inl ⟨p, _, _, _, rfl, rfl, SqL.of hL, atI_nat e, q H2 _ d2 ((((Mv.of e1).trans (Mv.of (Same.new hp)))).trans m2) (List.getElem_mem hj)⟩⟩⟩
end
end Dm

/-! dicts whose keys are tuples, nested ones too -/
namespace Dm
open PySem PySem.Spec PyProof.Rows L2 Evl

abbrev NEnt := NestedKey × Addr × Value
/-- the dict at d: its entries, each with its key's own tuple; ep: how often its keys changed -/
def dnO (P : Program) (w : World) (d : Addr) (xs : List NEnt) (ep : Nat) : HO := .ext fun h =>
  ((d == sysModules) = false ∧ xs.length ≤ sizeLine ∧ (xs.map (·.1)).Nodup) ∧ h.DictRaw d (xs.map (entryOfKey (nestedKind P w))).toArray ep
theorem dnO_ok {P P' : Program} {w w' : World} {H : Hp} {h : Heap} {d : Addr} {xs : List NEnt} {ep : Nat} (h1 : (d == sysModules) = false) (h2 : xs.length ≤ sizeLine) (h3 : (xs.map (·.1)).Nodup)
    (h4 : h.DictRaw d (xs.map (entryOfKey (nestedKind P w))).toArray ep) : ObjOk P' w' H h d (dnO P w d xs ep) :=
  ⟨⟨⟨h1, h2, h3⟩, h4⟩, let ⟨o, ho, _⟩ := h4; ⟨o, ho⟩, fun g1 g2 x k => ⟨x.1, x.2.at k⟩⟩
/-- b is the tuple that is the key k -/
def NK (H : Hp) (k : NestedKey) (b : Addr) : Prop := Tp H (.ref b) k.data ∧ k.depth ≤ 8
theorem NK.mono {H H' : Hp} (e : Tst H H') {k : NestedKey} {b : Addr} (h : NK H k b) : NK H' k b := ⟨h.1.mono e, h.2⟩
abbrev NT (H : Hp) : List (NestedKey × V) → List NEnt → Prop := Paired fun p q => p.1 = q.1 ∧ NK H p.1 q.2.1 ∧ RelV p.2 q.2.2
theorem NT.mono {H H' : Hp} (e : Tst H H') {kvs : List (NestedKey × V)} {xs : List NEnt} (r : NT H kvs xs) : NT H' kvs xs := Paired.mapP r fun _ _ z => ⟨z.1, z.2.1.mono e, z.2.2⟩
/-- a dict of these keys and values stands at d -/
def DN (P : Program) (w : World) (H : Hp) (d : Addr) (kvs : List (NestedKey × V)) : Prop := ∃ xs ep, H d = some (dnO P w d xs ep) ∧ NT H kvs xs
theorem DN.mono {P : Program} {w : World} {M : List Addr} {H H' : Hp} {d : Addr} {kvs : List (NestedKey × V)} (e : Mv M H H') (hd : d ∉ M) (h : DN P w H d kvs) : DN P w H' d kvs :=
  let ⟨xs, ep, e1, e2⟩ := h; ⟨xs, ep, e.fr _ _ hd e1, e2.mono e.ts⟩
theorem DN.same {P : Program} {w : World} {H H' : Hp} {d : Addr} {kvs : List (NestedKey × V)} (e : Same H H') (h : DN P w H d kvs) : DN P w H' d kvs :=
  let ⟨xs, ep, e1, e2⟩ := h; ⟨xs, ep, e _ _ e1, e2.mono (Same.ts e)⟩
theorem dn_notup {P : Program} {w : World} {d : Addr} {xs : List NEnt} {ep : Nat} (o : Obj) (ys : List V) : dnO P w d xs ep ≠ .frz o (.tup ys) := fun z => nomatch z
/-- another dict is put in the place of this one: tuples stay -/
theorem Tst.dn {P : Program} {w : World} {H : Hp} {d : Addr} {xs : List NEnt} {ep : Nat} {u : HO} (h : H d = some (dnO P w d xs ep)) : Tst H (upd H d u) := fun a o ys e => by
  rw [upd_ne (fun z => by rw [z, h] at e; exact dn_notup o ys (Option.some.inj e))]; exact e

/-! a value that stands for data, in the heap itself -/
section
variable {P : Program} {w : World} {H : Hp} {h : Heap}
mutual
theorem nested_of (ok : HOk P w H h) : ∀ {k : NestedKey} {v : V} {u : Value}, Tp H v k.data → RelV v u → NestedIs h k u
  | .none, _, _, t, r => by
    cases t
    cases (show _ = Value.none from r)
    exact .none
  | .num i, _, _, t, r => by
    cases t
    obtain ⟨tk, rfl⟩ := (show ∃ tk, _ = Value.int i tk from r)
    exact .int i tk
  | .text x, _, _, t, r => by
    cases t
    obtain ⟨tk, rfl⟩ := (show ∃ tk, _ = Value.str x tk from r)
    exact .text x tk
  | .tup ks, _, _, t, r => by
    obtain ⟨a, xs, rfl, ⟨o, _, e⟩, ts⟩ := t.tup_inv
    cases (show _ = Value.ref a from r)
    obtain ⟨hg, _, its, rv, o', hg', hc, n, hd⟩ := (show ObjOk P w H h a (.frz o (.tup xs)) from ok a _ e)
    refine .tup hg' hc hd ?_
    exact nestedAll_of ok ts (by simpa using rv)
theorem nestedAll_of (ok : HOk P w H h) : ∀ {ks : List NestedKey} {vs : List V} {us : List Value}, Tps H vs (NestedKey.datas ks) → Vals vs us → NestedAll h ks us
  | [], _, _, t, r => by cases t; cases r; exact .nil
  | k :: ks, _, _, t, r => by
    cases t with
    | cons t1 t2 => cases r with
      | cons r1 r2 => exact .cons (nested_of ok t1 r1) (nestedAll_of ok t2 r2)
end
theorem NK.is (ok : HOk P w H h) {k : NestedKey} {b : Addr} (x : NK H k b) : (nestedKind P w).is h k b := ⟨nested_of ok x.1 rfl, x.2⟩
theorem NT.is (ok : HOk P w H h) {kvs : List (NestedKey × V)} {xs : List NEnt} (r : NT H kvs xs) : ∀ x ∈ xs, (nestedKind P w).is h x.1 x.2.1 := by
  induction r with
  | nil => exact fun x q => nomatch q
  | cons z t ih =>
    intro x q
    rcases List.mem_cons.mp q with q | q
    · subst q; exact NK.is ok (by rw [← z.1]; exact z.2.1)
    · exact ih x q
/-- what is known of the dict -/
theorem DN.at (ok : HOk P w H h) {d : Addr} {kvs : List (NestedKey × V)} {xs : List NEnt} {ep : Nat} (e : H d = some (dnO P w d xs ep)) (r : NT H kvs xs) :
    (d == sysModules) = false ∧ xs.length ≤ sizeLine ∧ h.DictRaw d (xs.map (entryOfKey (nestedKind P w))).toArray ep ∧ h.DictOfH (nestedKind P w) d xs := by
  obtain ⟨⟨⟨h1, h2, h3⟩, h4⟩, _, _⟩ := (show ObjOk P w H h d (dnO P w d xs ep) from ok d _ e)
  obtain ⟨o, ho, hx, hd⟩ := id h4
  exact ⟨h1, h2, h4, o, _, _, ho, hx, hd, by simp, r.is ok, h3⟩
theorem raw_of {h : Heap} {d : Addr} {xs : List NEnt} (x : h.DictOfH (nestedKind P w) d xs) : ∃ ep, h.DictRaw d (xs.map (entryOfKey (nestedKind P w))).toArray ep := by
  obtain ⟨o, es, ep, ho, hx, hd, he, _⟩ := x
  exact ⟨ep, o, ho, hx, by rw [hd, ← he, Array.toArray_toList]⟩
end

/-! lists of pairs as tables -/
theorem NT.val {H : Hp} {kvs : List (NestedKey × V)} {xs : List NEnt} (r : NT H kvs xs) (k : NestedKey) : RelO (valV kvs k) ((atKey xs k).map (·.2)) := by
  induction r with
  | nil => exact True.intro
  | @cons p q ps qs z t ih =>
    by_cases e : p.1 = k
    · have b : atKey (q :: qs) k = some q.2 := by simp [atKey, List.find?_cons, z.1.symm.trans e]
      rw [valV_pos e, b] ; exact z.2.2
    · have e' : ¬ q.1 = k := fun y => e (z.1.trans y)
      have b : atKey (q :: qs) k = atKey qs k := by simp [atKey, List.find?_cons, e']
      rw [valV_neg e, b] ; exact ih
theorem NT.set {H : Hp} {kvs : List (NestedKey × V)} {xs : List NEnt} (r : NT H kvs xs) (k : NestedKey) {b : Addr} {y : V} {u : Value} (hb : NK H k b) (ry : RelV y u) : NT H (putK kvs k y) (storedH xs k b u) := by
  have e : (kvs.any fun kv => decide (kv.1 = k)) = (atKey xs k).isSome := by rw [valV_any, (r.val k).isSome_eq, Option.isSome_map]
  unfold putK storedH
  rw [e]
  by_cases q : (atKey xs k).isSome = true
  · rw [if_pos q, if_pos q]
    clear e q
    induction r with
    | nil => exact .nil
    | @cons p q ps qs z t ih =>
      rw [List.map_cons, List.map_cons]
      refine .cons ?_ ih
      by_cases e : p.1 = k
      · rw [if_pos e, putAt, if_pos (z.1.symm.trans e)] ; exact ⟨z.1, z.2.1, ry⟩
      · rw [if_neg e, putAt, if_neg (fun y => e (z.1.trans y))] ; exact z
  · rw [if_neg q, if_neg q] ; exact Paired.snoc r ⟨rfl, hb, ry⟩
theorem NT.len {H : Hp} {kvs : List (NestedKey × V)} {xs : List NEnt} (r : NT H kvs xs) : kvs.length = xs.length := Paired.length r
theorem NT.keys {H : Hp} {kvs : List (NestedKey × V)} {xs : List NEnt} (r : NT H kvs xs) : kvs.map (·.1) = xs.map (·.1) := by
  induction r with
  | nil => rfl
  | cons z t ih => rw [List.map_cons, List.map_cons, ih, z.1]

/-! ### the operations -/
section
variable {X : Cx} {pins : List (Addr × Obj)} {σ : L2.St} {H : Hp} {s : Shared} {a b : Addr} {k : NestedKey} {v : V} {u r : Value} {A : Around} {E : Value → Shared → Prop} {kvs : List (NestedKey × V)}
theorem n_room (hu : A.units + 16 < cLine) : (nestedKind X.prog X.w).room A.in1 := by show A.units + 1 + 8 < cLine; omega
theorem n_get {Q : Value → Shared → Prop} (hu : A.units + 16 < cLine) (I : L2.Inv X pins σ H s) (g : DN X.prog X.w H a kvs) (hb : NK H k b) (hv : valV kvs k = some v) (h : ∀ w' s', L2.Inv X pins σ H s' → RelV v w' → Q w' s') :
    wpAny (model X.prog X.w) A (getItem (.ref a) (.ref b)) Q E s := by
  obtain ⟨xs, ep, e, rel⟩ := g
  obtain ⟨_, _, _, dd⟩ := DN.at I.hok e rel
  obtain ⟨w', hw, rw'⟩ := RelO.some_of (v := v) (o := (atKey xs k).map (·.2)) (by rw [← hv]; exact rel.val k)
  obtain ⟨p, hp, hp2⟩ := Option.map_eq_some_iff.mp hw
  refine wpAny_getItem_heap (n_room hu) (hb.is I.hok) dd hp ?_
  rw [hp2]
  exact h w' _ (I.tok _) rw'
theorem n_in {Q : Value → Shared → Prop} (hu : A.units + 16 < cLine) (I : L2.Inv X pins σ H s) (g : DN X.prog X.w H a kvs) (hb : NK H k b) (h : ∀ s', L2.Inv X pins σ H s' → Q (.bool (valV kvs k).isSome) s') :
    wpAny (model X.prog X.w) A (compareOp .In (.ref b) (.ref a)) Q E s := by
  obtain ⟨xs, ep, e, rel⟩ := g
  obtain ⟨hd, _, _, dd⟩ := DN.at I.hok e rel
  refine wpAny_in_heap (n_room hu) (hb.is I.hok) hd dd ?_
  have q := (rel.val k).isSome_eq
  rw [Option.isSome_map] at q
  rw [← q]
  exact h _ (I.tok _)
theorem n_notIn {Q : Value → Shared → Prop} (hu : A.units + 16 < cLine) (I : L2.Inv X pins σ H s) (g : DN X.prog X.w H a kvs) (hb : NK H k b) (h : ∀ s', L2.Inv X pins σ H s' → Q (.bool (!(valV kvs k).isSome)) s') :
    wpAny (model X.prog X.w) A (compareOp .NotIn (.ref b) (.ref a)) Q E s := by
  obtain ⟨xs, ep, e, rel⟩ := g
  obtain ⟨hd, _, _, dd⟩ := DN.at I.hok e rel
  refine wpAny_notIn_heap (n_room hu) (hb.is I.hok) hd dd ?_
  have q := (rel.val k).isSome_eq
  rw [Option.isSome_map] at q
  rw [← q]
  exact h _ (I.tok _)
/-- the dict is written anew -/
theorem n_write {h' : Heap} {t' : Nat} {xs : List NEnt} {ep : Nat} {xs' : List NEnt} {kvs' : List (NestedKey × V)} (I : L2.Inv X pins σ H s) (e : H a = some (dnO X.prog X.w a xs ep)) (rel : NT H kvs' xs') (hz : xs'.length ≤ sizeLine)
    (hd : (a == sysModules) = false) (dd : h'.DictOfH (nestedKind X.prog X.w) a xs') (hs : Heap.SameBut a s.heap h') : ∃ ep', L2.Inv X pins σ (upd H a (dnO X.prog X.w a xs' ep')) { s with heap := h', toks := t' } := by
  obtain ⟨ep', raw⟩ := raw_of dd
  refine ⟨ep', d_write I (by rw [e]; exact True.intro) hs (let ⟨o, ho, _⟩ := raw; ⟨o, ho⟩) (dnO_ok hd hz dd.nodup raw)⟩
theorem n_set {Q : Unit → Shared → Prop} (hu : A.units + 16 < cLine) (I : L2.Inv X pins σ H s) (g : DN X.prog X.w H a kvs) (hb : NK H k b) (hl : kvs.length < sizeLine) (rv : RelV v r)
    (h : ∀ o s', DN X.prog X.w (upd H a o) a (putK kvs k v) → Tst H (upd H a o) → L2.Inv X pins σ (upd H a o) s' → Q () s') : wpAny (model X.prog X.w) A (setItem (.ref a) (.ref b) r) Q E s := by
  obtain ⟨xs, ep, e, rel⟩ := g
  obtain ⟨hd, hz, _, dd⟩ := DN.at I.hok e rel
  refine wpAny_setItem_heap (hsz := hz) (n_room hu) (hb.is I.hok) dd fun h' dd' hs => ?_
  have rel' := rel.set k hb rv
  have hz' : (storedH xs k b r).length ≤ sizeLine := by rw [← rel'.len]; have := length_putK kvs k v; omega
  obtain ⟨ep', I'⟩ := n_write (t' := s.toks + (nestedKind X.prog X.w).draws k) I e rel' hz' hd dd' hs
  exact h _ _ ⟨_, ep', upd_same, rel'.mono (Tst.dn e)⟩ (Tst.dn e) I'
theorem n_typeIs (I : L2.Inv X pins σ H s) (g : DN X.prog X.w H a kvs) : s.TypeIs (.ref a) "dict" := by
  obtain ⟨xs, ep, e, rel⟩ := g
  obtain ⟨_, _, raw, _⟩ := DN.at I.hok e rel
  exact raw.typeIs
end

/-! ### readings and rules -/
/-- d[y] -/
def tNGet (P : Program) (w : World) (td ty : TE) : TE := fun σ H Q => td σ H fun x H1 => ty σ H1 fun y H2 => ∃ a kvs k b v, x = .ref a ∧ y = .ref b ∧ DN P w H2 a kvs ∧ NK H2 k b ∧ valV kvs k = some v ∧ Q v H2
def tNIn (P : Program) (w : World) (ty td : TE) : TE := fun σ H Q => ty σ H fun y H1 => td σ H1 fun x H2 => ∃ a kvs k b, x = .ref a ∧ y = .ref b ∧ DN P w H2 a kvs ∧ NK H2 k b ∧ Q (.bl (valV kvs k).isSome) H2
def tNNotIn (P : Program) (w : World) (ty td : TE) : TE := fun σ H Q => ty σ H fun y H1 => td σ H1 fun x H2 => ∃ a kvs k b, x = .ref a ∧ y = .ref b ∧ DN P w H2 a kvs ∧ NK H2 k b ∧ Q (.bl (!(valV kvs k).isSome)) H2
/-- d[y] = v -/
def sNPut (P : Program) (w : World) (td ty tv : TE) : TS := fun D σ H => tv σ H fun v H1 => td σ H1 fun x H2 => ty σ H2 fun y H3 => ∃ a kvs k b, x = .ref a ∧ y = .ref b ∧ DN P w H3 a kvs ∧ NK H3 k b ∧ kvs.length < sizeLine ∧
  ∀ o, DN P w (upd H3 a o) a (putK kvs k v) → Tst H3 (upd H3 a o) → D.nx σ (upd H3 a o)
section
variable {X : Cx} {o i e value : Expr} {pos pos' tpos : Pos} {td ty tv : TE} {P : Program} {w : World}
theorem pe_nget (hP : X.prog = P) (hw : X.w = w) (hu : X.A.units + 16 < cLine) (ho : PE X o td) (hi : PE X i ty) (hs : NoSl i) : PE X (.Subscript o i pos) (tNGet P w td ty) := by
  subst hP hw
  refine ⟨fun pins s σ H Q I h => ?_⟩
  refine subD_of PySem.F.slot_dict_getitem.lookup hs (thn (ho.run pins s σ H _ I h) fun u s1 ⟨x, H1, I1, rx, q1⟩ => thn (hi.run pins s1 σ H1 _ I1 q1) fun iv s2 ⟨y, H2, I2, ry, a, kvs, k, b, v, ex, ey, g, hb, hv, q2⟩ => ?_)
  subst ex ey
  obtain rfl : u = Value.ref a := rx
  obtain rfl : iv = Value.ref b := ry
  exact ⟨n_typeIs I2 g, n_get hu I2 g hb hv fun w' s3 I3 rw' => ⟨v, H2, I3, rw', q2⟩⟩
theorem pc_nin (hP : X.prog = P) (hw : X.w = w) (hu : X.A.units + 16 < cLine) (hi : PE X i ty) (ho : PE X o td) : PC X .In i o (tNIn P w ty td) := by
  subst hP hw
  refine ⟨fun pins s σ H Q I h => ?_⟩
  refine thn (hi.run pins s σ H _ I h) fun iv s1 ⟨y, H1, I1, ry, q1⟩ => thn (ho.run pins s1 σ H1 _ I1 q1) fun u s2 ⟨x, H2, I2, rx, a, kvs, k, b, ex, ey, g, hb, q2⟩ => ?_
  subst ex ey
  obtain rfl : u = Value.ref a := rx
  obtain rfl : iv = Value.ref b := ry
  exact n_in hu I2 g hb fun s3 I3 => ⟨.bl (valV kvs k).isSome, H2, I3, rfl, q2⟩
theorem pc_nnotin (hP : X.prog = P) (hw : X.w = w) (hu : X.A.units + 16 < cLine) (hi : PE X i ty) (ho : PE X o td) : PC X .NotIn i o (tNNotIn P w ty td) := by
  subst hP hw
  refine ⟨fun pins s σ H Q I h => ?_⟩
  refine thn (hi.run pins s σ H _ I h) fun iv s1 ⟨y, H1, I1, ry, q1⟩ => thn (ho.run pins s1 σ H1 _ I1 q1) fun u s2 ⟨x, H2, I2, rx, a, kvs, k, b, ex, ey, g, hb, q2⟩ => ?_
  subst ex ey
  obtain rfl : u = Value.ref a := rx
  obtain rfl : iv = Value.ref b := ry
  exact n_notIn hu I2 g hb fun s3 I3 => ⟨.bl (!(valV kvs k).isSome), H2, I3, rfl, q2⟩
theorem ps_nput (hP : X.prog = P) (hw : X.w = w) (hu : X.A.units + 16 < cLine) (ho : PE X o td) (hi : PE X i ty) (hv : PE X value tv) (hs : swapsWith value (some (.Subscript o i pos')) pos.line X.env = pure false) :
    PS X (.Assign [.Subscript o i pos'] value pos) (sNPut P w td ty tv) := by
  subst hP hw
  refine ⟨fun pins s σ H D I h => ?_⟩
  refine wpAny_Assign_Subscript (thn (hv.run pins s σ H _ I h) fun r s1 ⟨v, H1, I1, rv, q1⟩ => thn (ho.run pins s1 σ H1 _ I1 q1) fun u s2 ⟨x, H2, I2, rx, q2⟩ => thn (hi.run pins s2 σ H2 _ I2 q2) fun iv s3 ⟨y, H3, I3, ry, a, kvs, k, b, ex, ey, g, hb, hl, q3⟩ => ?_) hs
  subst ex ey
  obtain rfl : u = Value.ref a := rx
  obtain rfl : iv = Value.ref b := ry
  exact n_set hu I3 g hb hl rv fun o s4 dn ts I4 => ⟨σ, _, I4, q3 o dn ts⟩
/-- {} -/
def tNNew (P : Program) (w : World) : TE := fun _ H Q => ∀ p o, H p = none → DN P w (upd H p o) p [] → Q (.ref p) (upd H p o)
theorem dn_new {H : Hp} {p : Addr} (ep : Nat) : DN P w (upd H p (dnO P w p [] ep)) p [] := ⟨[], ep, upd_same, .nil⟩
theorem pe_dnewN (hP : X.prog = P) (hw : X.w = w) : PE X (.Dict [] [] pos) (tNNew P w) := by
  subst hP hw
  refine ⟨fun pins s σ H Q I h => ?_⟩
  refine wpAny_Dict_empty ⟨.ref s.heap.objs.size, _, I.laid (a := s.heap.objs.size) (o := dnO X.prog X.w s.heap.objs.size [] 0) (t' := s.toks) (fun _ _ q => Heap.get?_push_of_some _ q) (Nat.le_refl _) ?_, rfl, h _ _ (I.hok.fresh (Nat.le_refl _)) (dn_new 0)⟩
  exact dnO_ok (beq_eq_false_iff_ne.mpr (Ne.symm (Nat.ne_of_lt I.big))) (Nat.zero_le _) List.nodup_nil ⟨_, Heap.get?_push_size _ rfl, ⟨rfl, rfl, rfl⟩, rfl⟩
end
end Dm

/-! sorted of lists of nested tuples -/
namespace Dm
open PySem PySem.Spec PyProof.Rows L2 Evl
open PySem.W (dataLe EachIs AllAlike)

/-- values with the data that they stand for, sorted by the data -/
def srtD (bs : List (V × PyData)) : List (V × PyData) := bs.mergeSort (dataLe false fun z => z.2)
structure SrtOk (H : Hp) (bs : List (V × PyData)) : Prop where
  tp : ∀ b ∈ bs, Tp H b.1 b.2
  al : AllAlike (bs.map (·.2))
  so : PySem.W.Sortable (bs.map (·.2))
  de : ∀ b ∈ bs, b.2.depth ≤ 16
theorem SrtOk.mono {H H' : Hp} (e : Tst H H') {bs : List (V × PyData)} (h : SrtOk H bs) : SrtOk H' bs := ⟨fun b hb => (h.tp b hb).mono e, h.al, h.so, h.de⟩
def rSortD (K : PySem.W.Frag) : List V → Hp → VK → Prop := fun vs H Q => ∃ (a : Addr) (bs : List (V × PyData)), vs = [.ref a] ∧ SqL K H a (bs.map (·.1)) ∧ SrtOk H bs ∧ ∀ p, H p = none → Q (.ref p) (upd H p (.lst ((srtD bs).map (·.1))))
theorem each_vals {h : Value → V × PyData → Prop} (hr : ∀ u b, h u b → RelV b.1 u) : ∀ {us : List Value} {bs : List (V × PyData)}, EachIs h us bs → Vals (bs.map (·.1)) us
  | _, _, .nil => .nil
  | _, _, .cons a b => .cons (hr _ _ a) (each_vals hr b)
theorem vals_each {h : Value → V × PyData → Prop} : ∀ {us : List Value} {bs : List (V × PyData)}, (∀ u b, b ∈ bs → RelV b.1 u → h u b) → Vals (bs.map (·.1)) us → EachIs h us bs
  | _, [], _, r => by cases r; exact .nil
  | _, b :: bs, hr, r => by
    cases r with
    | cons r1 r2 => exact .cons (hr _ _ (List.mem_cons_self ..) r1) (vals_each (fun u c hc => hr u c (List.mem_cons_of_mem _ hc)) r2)
section
variable {X : Cx} {pins : List (Addr × Obj)} {σ : L2.St} {H : Hp} {s : Shared}
theorem cr_sortD {K : PySem.W.Frag} (hK : X.K = K) (hu : X.A.units + 64 < cLine) : CallR X (.builtin "sorted") (rSortD K) := by
  subst hK
  intro pins s σ H xs us Q I r h
  obtain ⟨a, bs, rfl, hq, ok, q⟩ := h
  obtain ⟨u, rfl, rx⟩ := vals1 r
  cases rx
  obtain ⟨its, rv, pl, hz⟩ := I.list hq
  rw [List.length_map] at hz
  have e1 : EachIs (fun u (b : V × PyData) => RelV b.1 u) its bs := vals_each (fun u b _ z => z) rv
  have e2 : EachIs (fun u (b : V × PyData) => ∃ as, PySem.Reads s.heap u b.2 as) its bs := vals_each (fun u b hb z => Dp.reads I _ _ _ (ok.tp b hb).dp z) rv
  refine PySem.W.sorted_data (enc := fun z : V × PyData => z.2) pl.isList e1 e2 ok.al ok.so hz (fun b hb => ?_) fun out hlen ho => ?_
  · have := ok.de b hb
    show X.A.units + 2 + b.2.depth < cLine
    omega
  · obtain ⟨e, he⟩ := sortedAll_at s.heap its (List.toArray out)
    have hv : Vals ((srtD bs).map (·.1)) out := each_vals (fun u b z => z) ho
    have hl : ((srtD bs).map (·.1)).length ≤ sizeLine := by rw [hv.length, hlen]; exact hz
    refine ⟨.ref (s.heap.objs.size + 1), upd H (s.heap.objs.size + 1) (.lst ((srtD bs).map (·.1))), I.laid (t' := s.toks) (fun b u e => sortedAll_old e) (Nat.le_succ _) ?_, rfl, q _ (I.hok.fresh (Nat.le_succ _))⟩
    exact (show ObjOk X.prog X.w _ _ _ (.lst _) from ⟨hl, out, e, hv, he⟩)
end
end Dm

/-! dicts with tuple keys: methods, displays, walks -/
namespace Dm
open PySem PySem.Spec PyProof.Rows L2 Evl
open PySem.W (dataLe EachIs AllAlike)

/-! ### a method of such a dict -/
def tNM0 (P : Program) (w : World) (r : V → List V → Hp → VK → Prop) (to : TE) : TE := fun σ H Q => to σ H fun x H1 => (∃ a kvs, x = .ref a ∧ DN P w H1 a kvs) ∧ r x [] H1 Q
def tNM (P : Program) (w : World) (r : V → List V → Hp → VK → Prop) (to : TE) (t : TA) : TE := fun σ H Q => to σ H fun x H1 => (∃ a kvs, x = .ref a ∧ DN P w H1 a kvs) ∧ t σ H1 fun vs H2 => r x vs H2 Q
theorem n_obj {X : Cx} {pins : List (Addr × Obj)} {σ : L2.St} {H : Hp} {s : Shared} {a : Addr} {kvs : List (NestedKey × V)} (I : L2.Inv X pins σ H s) (g : DN X.prog X.w H a kvs) :
    s.TypeIs (.ref a) "dict" ∧ ∀ b, Value.ref a = .ref b → ∃ ob, s.heap.get? b = some ob ∧ ob.dict = none := by
  obtain ⟨xs, ep, e, rel⟩ := g
  obtain ⟨_, _, raw, _⟩ := DN.at I.hok e rel
  obtain ⟨o, ho, hx, _⟩ := id raw
  exact ⟨raw.typeIs, fun b q => by cases q; exact ⟨o, ho, hx.2.1⟩⟩
section
variable {X : Cx} {o e : Expr} {es : List Expr} {to : TE} {t : TA} {name : Str} {apos cpos : Pos} {id : String} {r : V → List V → Hp → VK → Prop} {P : Program} {w : World}
theorem pe_nm0 (hP : X.prog = P) (hw : X.w = w) (slot : Slot "dict" name id) (hty : typeOf (.builtin id) = pure (.type "method_descriptor")) (hm : MtR X id r) (ho : PE X o to)
    (q1 : attributeBase o name X.env (eval o X.env) = eval o X.env := by rfl) (q3 : (apos.endLine == cpos.line) = true := by rfl) : PE X (.Call (.Attribute o name apos) [] [] cpos) (tNM0 P w r to) := by
  subst hP hw
  refine ⟨fun pins s σ H Q I h => ?_⟩
  refine wpAny_Call_method0_late q1 q3 (thn (ho.run pins s σ H _ I h) fun v s1 ⟨x, H1, I1, r1, ⟨a, kvs, ex, g⟩, k⟩ => ?_)
  subst ex
  cases r1
  obtain ⟨h1, h2⟩ := n_obj I1 g
  exact ⟨"dict", id, PySem.F.plainAttrs_dict, slot, hty, h1, h2, Calls.callWith_builtin rfl (PySem.evalArgs_none (hm pins s1 σ H1 (.ref a) [] (.ref a) [] Q I1 rfl .nil k))⟩
theorem pe_nm (hP : X.prog = P) (hw : X.w = w) (slot : Slot "dict" name id) (hty : typeOf (.builtin id) = pure (.type "method_descriptor")) (hm : MtR X id r) (ho : PE X o to) (ha : PA X (e :: es) t)
    (q1 : attributeBase o name X.env (eval o X.env) = eval o X.env := by rfl)
    (q2 : ((backTo cpos (starEach (e :: es) X.env)).all (fun x => !x.1) && (backToKw cpos (keywordEach [] X.env)).all (fun x => x.1.isSome)
      && decide ((e :: es).length + ([] : List Keyword).length + (if ([] : List Keyword).isEmpty then 0 else 1) < 30)) = true := by rfl)
    (q3 : (apos.endLine == cpos.line) = true := by rfl) (q4 : starEach (e :: es) X.env = (false, eval e X.env) :: starEach es X.env := by rfl) (q5 : (backTo cpos (starEach es X.env)).any (·.1) = false := by rfl) :
    PE X (.Call (.Attribute o name apos) (e :: es) [] cpos) (tNM P w r to t) := by
  subst hP hw
  refine ⟨fun pins s σ H Q I h => wpAny_Call_method_late q1 q2 q3 rfl (thn (ho.run pins s σ H _ I h) fun v s1 ⟨x, H1, I1, r1, ⟨a, kvs, ex, g⟩, k⟩ => ?_)⟩
  subst ex
  cases r1
  obtain ⟨h1, h2⟩ := n_obj I1 g
  refine ⟨"dict", id, PySem.F.plainAttrs_dict, slot, hty, h1, h2, ?_⟩
  have z := ha.run cpos pins s1 σ H1 _ I1 k
  rw [q4] at z ⊢
  refine Calls.callWith_builtin (by show (false || (backTo cpos (starEach es X.env)).any (·.1)) = false ; rw [q5] ; rfl) (Calls.evalArgs_plain (thn z fun us s2 ⟨vs, H2, I2, r2, k2⟩ => ?_))
  exact hm pins s2 σ H2 (.ref a) vs (.ref a) us Q I2 rfl r2 k2
end

/-! ### update -/
def mergeN (kvs more : List (NestedKey × V)) : List (NestedKey × V) := more.foldl (fun acc kv => putK acc kv.1 kv.2) kvs
theorem NT.merge {H : Hp} {more : List (NestedKey × V)} {ys : List NEnt} (r : NT H more ys) : ∀ {kvs : List (NestedKey × V)} {xs : List NEnt}, NT H kvs xs → NT H (mergeN kvs more) (storedAllH xs ys) := by
  induction r with
  | nil => exact fun q => q
  | @cons p q ps qs z t ih =>
    intro kvs xs r0
    have e : NT H (putK kvs p.1 p.2) (storedH xs q.1 q.2.1 q.2.2) := by
      rw [← z.1] ; exact r0.set p.1 z.2.1 z.2.2
    exact ih e
theorem length_mergeN : ∀ (more kvs : List (NestedKey × V)), (mergeN kvs more).length ≤ kvs.length + more.length
  | [], kvs => Nat.le_refl _
  | p :: r, kvs => by
    have h1 := length_mergeN r (putK kvs p.1 p.2)
    have h2 := length_putK kvs p.1 p.2
    show (mergeN (putK kvs p.1 p.2) r).length ≤ _
    rw [List.length_cons] ; omega
def rNUpd (P : Program) (w : World) : V → List V → Hp → VK → Prop := fun x vs H Q => ∃ d o kvs more, x = .ref d ∧ vs = [.ref o] ∧ d ≠ o ∧ DN P w H d kvs ∧ DN P w H o more ∧ (kvs ≠ [] ∨ (more.map fun p => p.1.hash w).Nodup) ∧
  kvs.length + more.length ≤ sizeLine ∧ ∀ u, DN P w (upd H d u) d (mergeN kvs more) → Tst H (upd H d u) → Q .non (upd H d u)
theorem mt_nupd {X : Cx} {P : Program} {w : World} (hP : X.prog = P) (hw : X.w = w) (hu : X.A.units + 64 < cLine) : MtR X "dict.update" (rNUpd P w) := by
  subst hP hw
  intro pins s σ H x vs v us Q I rx rs h
  obtain ⟨d, o, kvs, more, rfl, rfl, hdo, ⟨xs, ep, e1, r1⟩, ⟨ys, ep2, e2, r2⟩, hap, hz, q⟩ := h
  cases rx
  obtain ⟨u, rfl, ru⟩ := vals1 rs
  cases ru
  obtain ⟨sd, z1, _, dd⟩ := DN.at I.hok e1 r1
  obtain ⟨so, z2, _, do'⟩ := DN.at I.hok e2 r2
  refine call_update_dictH (n_room (by omega)) hdo so dd do' ?_ (by rw [← r1.len, ← r2.len]; exact hz) fun h' dd' _ hs => ?_
  · rcases hap with z | z
    · refine .inl fun y => z ?_
      have := r1.len
      rw [y] at this
      exact List.length_eq_zero_iff.mp this
    · refine .inr ⟨keyed_apart nestedKind_stays do', ?_⟩
      have e : (ys.map fun x => (nestedKind X.prog X.w).hash x.1) = more.map fun p => p.1.hash X.w := by
        have := congrArg (List.map fun k : NestedKey => k.hash X.w) r2.keys
        rw [List.map_map, List.map_map] at this
        exact this.symm
      rw [e] ; exact z
  · have r' := r2.merge r1
    have hz' : (storedAllH xs ys).length ≤ sizeLine := by rw [← r'.len]; exact Nat.le_trans (length_mergeN more kvs) hz
    obtain ⟨ep', I'⟩ := n_write (t' := s.toks) I e1 r' hz' sd dd' hs
    exact ⟨.non, _, I', rfl, q _ ⟨_, ep', upd_same, r'.mono (Tst.dn e1)⟩ (Tst.dn e1)⟩

/-! ### {k: v} -/
def tNOne (P : Program) (w : World) (tk tv : TE) : TE := fun σ H Q => ∀ p o, H p = none → DN P w (upd H p o) p [] → tk σ (upd H p o) fun y H1 => tv σ H1 fun v H2 => ∃ k b, y = .ref b ∧ NK H2 k b ∧ DN P w H2 p [] ∧
  ∀ u, DN P w (upd H2 p u) p [(k, v)] → Tst H2 (upd H2 p u) → Q (.ref p) (upd H2 p u)
theorem pe_none1 {X : Cx} {pos : Pos} {k v : Expr} {tk tv : TE} {P : Program} {w : World} (hP : X.prog = P) (hw : X.w = w) (hu : X.A.units + 16 < cLine) (hk : PE X k tk) (hv : PE X v tv) : PE X (.Dict [some k] [v] pos) (tNOne P w tk tv) := by
  subst hP hw
  refine ⟨fun pins s σ H Q I q => ?_⟩
  have hn := I.hok.fresh (Nat.le_refl s.heap.objs.size)
  have hs0 : (s.heap.objs.size == sysModules) = false := beq_eq_false_iff_ne.mpr (Ne.symm (Nat.ne_of_lt I.big))
  have I1 := I.laid (a := s.heap.objs.size) (o := dnO X.prog X.w s.heap.objs.size [] 0) (h' := s.heap.push { cls := .type "dict", data := .dict #[] }) (t' := s.toks) (fun _ _ q => Heap.get?_push_of_some _ q) (Nat.le_refl _)
    (dnO_ok hs0 (Nat.zero_le _) List.nodup_nil ⟨_, Heap.get?_push_size _ rfl, ⟨rfl, rfl, rfl⟩, rfl⟩)
  have shape : (evalEachOpt [some k] X.env).zip ((evalEach [v] X.env).map fun v => do let x ← v; standAt pos; pure x) = [(eval k X.env, do let x ← eval v X.env; standAt pos; pure x)].map fun p => (some p.1, p.2) := rfl
  rw [arm_eval_Dict, shape, dictDisplay_pairs _ (by simp) (by simp)]
  refine wpAny_bind (wpAny_standAt (wpAny_bind (wpAny_subDictH (knd := nestedKind X.prog X.w) (Q := fun d s' => wpAny (model X.prog X.w) X.A (pure (Value.ref d)) (EP X pins σ Q) X.xe s') (by show X.A.units + 8 < cLine; omega) (by simp) ?_)))
  refine pairTrees_cons_walk (thn (hk.run pins _ σ _ _ I1 (q _ _ hn (dn_new 0))) fun u s1 ⟨x, H1, I2, rx, q1⟩ => thn (hv.run pins s1 σ H1 _ I2 q1) fun w2 s2 ⟨y, H2, I3, ry, kk, b, ex, hb, ⟨xs, ep, e, rel⟩, q2⟩ => pairTrees_nil_walk ?_)
  subst ex
  cases rx
  cases rel
  obtain ⟨_, _, _, dd⟩ := DN.at I3.hok e .nil
  refine ⟨[(kk, b, w2)], ⟨rfl, rfl, hb.is I3.hok, True.intro⟩, dd, fun h' tk' dd' hs' => wpAny_pure ?_⟩
  have rel' : NT H2 [(kk, y)] [(kk, b, w2)] := .cons ⟨rfl, hb, ry⟩ .nil
  obtain ⟨ep', I'⟩ := n_write (t' := tk') I3 e rel' (by rw [sizeLine_eq]; show 1 ≤ _; omega) hs0 (show h'.DictOfH _ _ [(kk, b, w2)] from dd') hs'
  exact ⟨.ref s.heap.objs.size, _, I', rfl, q2 _ ⟨_, ep', upd_same, rel'.mono (Tst.dn e)⟩ (Tst.dn e)⟩

/-! ### d.values() -/
def valsO (p d : Addr) : HO := .ext fun h => h.IsValuesView p d
theorem valsO_ok {P : Program} {w : World} {H : Hp} {h : Heap} {p d : Addr} (e : h.get? p = some { cls := .type "dict_values", data := .fields #[.ref d] }) : ObjOk P w H h p (valsO p d) :=
  ⟨⟨_, e, rfl, rfl⟩, ⟨_, e⟩, fun h1 h2 x k => let ⟨o, ho, r⟩ := x; ⟨o, k o ho, r⟩⟩
def rNVals (P : Program) (w : World) : V → List V → Hp → VK → Prop := fun x xs H Q => ∃ a kvs, x = .ref a ∧ xs = [] ∧ DN P w H a kvs ∧ ∀ p, H p = none → Q (.ref p) (upd H p (valsO p a))
theorem mt_nvals {X : Cx} {P : Program} {w : World} (hP : X.prog = P) (hw : X.w = w) : MtR X "dict.values" (rNVals P w) := by
  subst hP hw
  intro pins s σ H x xs v us Q I rx rxs h
  obtain ⟨a, kvs, rfl, rfl, ⟨ys, ep, e, rel⟩, q⟩ := h
  cases rx
  cases rxs
  obtain ⟨hd, _, raw, _⟩ := DN.at I.hok e rel
  refine call_meetsIn PySem.F.slot_dict_values raw.typeIs PySem.F.entry_dict_values (PySem.F.args_dict_values_1 _) (meets_dict_values_raw a hd) ⟨⟨_, _, raw⟩, ?_⟩
  exact ⟨.ref s.heap.objs.size, _, I.laid (t' := s.toks) (fun b u e => Heap.get?_push_of_some _ e) (Nat.le_refl _) (valsO_ok (Heap.get?_push_size _ rfl)), rfl, q _ (I.hok.fresh (Nat.le_refl _))⟩
/-- list(d.values()) -/
def rNListVals (P : Program) (w : World) : List V → Hp → VK → Prop := fun xs H Q => ∃ p a kvs, xs = [.ref p] ∧ H p = some (valsO p a) ∧ DN P w H a kvs ∧ ∀ l, H l = none → Q (.ref l) (upd H l (.lst (kvs.map (·.2))))
theorem vals_of_at : ∀ {xs : List NEnt} {H : Hp} {kvs : List (NestedKey × V)} {us : List Value}, NT H kvs xs → us.length = xs.length → (∀ (j : Nat) (v : Value), us[j]? = some v → ∃ x : NEnt, xs[j]? = some x ∧ v = x.2.2) → Vals (kvs.map (·.2)) us
  | [], _, _, [], r, _, _ => by cases r; exact .nil
  | [], _, _, _ :: _, _, hl, _ => by simp at hl
  | _ :: _, _, _, [], _, hl, _ => by simp at hl
  | x :: xs, H, _, u :: us, r, hl, h => by
    cases r with
    | cons z t =>
      obtain ⟨y, e1, e2⟩ := h 0 u rfl
      have e1' : x = y := Option.some.inj e1
      subst e1' e2
      exact .cons z.2.2 (vals_of_at t (by simpa using hl) fun j v e => h (j + 1) v (by simpa using e))
theorem cr_nlistVals {X : Cx} {P : Program} {w : World} (hP : X.prog = P) (hw : X.w = w) (hc : X.calm = true) : CallR X (.type "list") (rNListVals P w) := by
  subst hP hw
  intro pins s σ H xs us Q I r h
  obtain ⟨p, a, kvs, rfl, hp, ⟨ys, ep, e, rel⟩, q⟩ := h
  obtain ⟨u, rfl, rx⟩ := vals1 r
  cases rx
  have view : s.heap.IsValuesView p a := (show ObjOk X.prog X.w H s.heap p (valsO p a) from I.hok p _ hp).1
  obtain ⟨hd, hz, raw, _⟩ := DN.at I.hok e rel
  refine PySem.W.kdl_call (PySem.KdlSrc.rawValues) (I.ok.hd hc) ⟨view, raw⟩ (by simpa using hz) fun h' tk acc c' hk hD hacc => ?_
  have hl : acc.toList.length = ys.length := by rw [Array.length_toList, hacc.1]; simp
  have hv : Vals (kvs.map (·.2)) acc.toList := vals_of_at rel hl fun j v ej => by
    obtain ⟨hi, ev⟩ := hacc.2 j v (by rw [← Array.getElem?_toList]; exact ej)
    have hi' : j < ys.length := by simpa using hi
    refine ⟨ys[j], List.getElem?_eq_getElem hi', ?_⟩
    rw [ev] ; simp [entryOfKey]
  refine ⟨.ref s.heap.objs.size, _, I.laid (t' := tk) hk (Nat.le_refl _) ?_, rfl, q _ (I.hok.fresh (Nat.le_refl _))⟩
  exact (show ObjOk X.prog X.w _ _ _ (.lst _) from ⟨by rw [List.length_map, rel.len]; exact hz, acc.toList, c', hv, by rw [Array.toArray_toList]; exact hD⟩)

/-! ### for k in d -/
def ItN (P : Program) (w : World) (d : Addr) (xs : List NEnt) (ep : Nat) : It :=
  ⟨fun i H => H d = some (dnO P w d xs ep) ∧ i < xs.length, fun i H x H' => H' = H ∧ ∃ q : NEnt, xs[i]? = some q ∧ x = .ref q.2.1, fun i H => H d = some (dnO P w d xs ep) ∧ xs.length ≤ i⟩
def iNKeys (P : Program) (w : World) (td : TE) : TI := fun σ H R => td σ H fun x H1 => ∃ d xs ep, x = .ref d ∧ H1 d = some (dnO P w d xs ep) ∧ R (ItN P w d xs ep) H1
theorem turn_nkeys {P : Program} {w : World} {K : PySem.W.Frag} {tg : Expr} {d : Addr} {xs : List NEnt} {ep : Nat} (it : Addr) : Turn P w K tg (ItN P w d xs ep) [it] it (fun i h => h.IsKeyIter it d i xs.length ep) where
  mem := by simp
  obj := fun i h st b hb => by
    have e : b = it := by simpa using hb
    subst e
    obtain ⟨oi, e, c, dd⟩ := st
    exact ⟨oi, e, fun v z => by rw [dd] at z; cases z⟩
  keep := fun i h h' st k => st.at fun oi e => k it (by simp) oi e
  item := by
    intro X hP hw hK hc i pins s σ H E I hf st hg
    subst hP hw hK
    obtain ⟨hd, hi⟩ := hg
    obtain ⟨f0, f1, f2, f3, f4, f5⟩ := hf it (by simp)
    obtain ⟨⟨_, o, ho, hx, hdat⟩, _⟩ := (show ObjOk X.prog X.w H s.heap d (dnO X.prog X.w d xs ep) from I.hok d _ hd)
    have hen : (xs.map (entryOfKey (nestedKind X.prog X.w))).toArray[i]? = some (entryOfKey (nestedKind X.prog X.w) xs[i]) := by simp [hi]
    refine next_key_item st ho hdat (by simp) hen fun h' st' sb => ?_
    have I1 : L2.Inv X pins σ H { s with heap := h' } := I.turned (t' := s.toks) (fun b ob hb e => (sb.2 b hb).trans e) f0 f1 f3 f4 f5
    obtain ⟨oi, e, c, dd⟩ := id st'
    exact ⟨_, rfl, go_of (s := { s with heap := h' }) e c dd (by decide) ⟨.ref xs[i].2.1, H, I1, rfl, ⟨rfl, xs[i], List.getElem?_eq_getElem hi, rfl⟩, st', fun b hb => (hf b hb).1⟩⟩
  done := by
    intro X hP hw hK hc i pins s σ H E I hf st hg
    subst hP hw hK
    obtain ⟨hd, hi⟩ := hg
    obtain ⟨f0, f1, f2, f3, f4, f5⟩ := hf it (by simp)
    obtain ⟨⟨_, o, ho, hx, hdat⟩, _⟩ := (show ObjOk X.prog X.w H s.heap d (dnO X.prog X.w d xs ep) from I.hok d _ hd)
    exact next_key_end (I.ok.hd hc) st ho hdat (by simp) hi fun h' eb => ⟨rfl, I.turned (t' := s.toks) (fun b ob hb e => eb b ob hb e) f0 f1 f3 f4 f5⟩
  self := fun A i s Q E st h => by
    refine wpAny_pyIter_slot st.typeIs F.slot_dict_keyiterator_iter (wpAny_call_entry F.slot_dict_keyiterator_iter st.typeIs F.entry_dict_keyiterator_iter ?_ (F.args_dict_keyiterator_iter_1 _))
    show wpAny _ _ (ret (.ref it)) _ _ s
    exact wpAny_pure ⟨_, rfl, "dict_keyiterator", _, st.typeIs, F.slot_dict_keyiterator_next.lookup, h⟩
theorem pi_nkeys {X : Cx} {tg e : Expr} {td : TE} {P : Program} {w : World} (hP : X.prog = P) (hw : X.w = w) (he : PE X e td) : PI X tg e (iNKeys P w td) := by
  subst hP hw
  refine ⟨fun pins s σ H R I h => ?_⟩
  refine thn (he.run pins s σ H _ I h) fun u s1 ⟨x, H1, I1, rx, d, xs, ep, ex, hd, q⟩ => ?_
  subst ex
  obtain rfl : u = Value.ref d := rx
  obtain ⟨⟨⟨h1, _⟩, o, ho, hx, hdat⟩, _⟩ := (show ObjOk X.prog X.w H1 s1.heap d (dnO X.prog X.w d xs ep) from I1.hok d _ hd)
  refine iter_keys h1 ho hx hdat (pi_one (tk := s1.toks) I1 _ (turn_nkeys _) ⟨_, Heap.get?_push_size _ rfl, rfl, ?_⟩ q)
  simp
end Dm

/-! sorted of such a dict, and of its items; tuples joined and cut -/
namespace Dm
open PySem PySem.Spec PyProof.Rows L2 Evl
open PySem.W (dataLe EachIs AllAlike)

section
variable {P : Program} {w : World} {H : Hp} {h : Heap}
mutual
theorem Tp.rds (ok : HOk P w H h) : ∀ {v : V} {d : PyData} {u : Value}, Tp H v d → RelV v u → PySem.Reads h u d []
  | _, _, _, .non, r => by cases (show _ = Value.none from r); exact .none
  | _, _, _, .bl b, r => by cases (show _ = Value.bool b from r); exact .bool b
  | _, _, _, .int i, r => by obtain ⟨tk, rfl⟩ := (show ∃ tk, _ = Value.int i tk from r); exact .int i tk
  | _, _, _, .str x, r => by obtain ⟨tk, rfl⟩ := (show ∃ tk, _ = Value.str x tk from r); exact .str x tk
  | _, _, _, .tup (a := a) (xs := xs) ht ts, r => by
    cases (show _ = Value.ref a from r)
    obtain ⟨o, _, e⟩ := ht
    obtain ⟨hg, _, its, rv, o', hg', hc, n, hd⟩ := (show ObjOk P w H h a (.frz o (.tup xs)) from ok a _ e)
    exact .tuple hg' hc hd (Tps.rds ok ts (by simpa using rv))
theorem Tps.rds (ok : HOk P w H h) : ∀ {vs : List V} {ds : List PyData} {us : List Value}, Tps H vs ds → Vals vs us → PySem.ReadsAll h us ds []
  | _, _, _, .nil, r => by cases r; exact .nil
  | _, _, _, .cons t1 t2, r => by
    cases r with
    | cons r1 r2 => exact .cons (as := []) (bs := []) (Tp.rds ok t1 r1) (Tps.rds ok t2 r2)
end
end
section
variable {X : Cx} {pins : List (Addr × Obj)} {σ : L2.St} {H : Hp} {s : Shared} {A : Around} {E : Value → Shared → Prop}
/-- the new list of these values is sorted -/
theorem sort_tail {bs : List (V × PyData)} {us : List Value} {Q : VK} (hu : A.units + 40 < cLine) (I : L2.Inv X pins σ H s) (ok : SrtOk H bs) (rv : Vals (bs.map (·.1)) us) (hz : us.length ≤ sizeLine)
    (q : ∀ p, H p = none → Q (.ref p) (upd H p (.lst ((srtD bs).map (·.1))))) :
    wpAny (model X.prog X.w) A (call (.builtin "list.sort") [.ref s.heap.objs.size]) (fun _ s' => EP X pins σ Q (.ref s.heap.objs.size) s') E { s with heap := s.heap.push { cls := .type "list", data := .seq us.toArray } } := by
  have hg : (s.heap.push { cls := .type "list", data := .seq us.toArray }).get? s.heap.objs.size = some (seqObj "list" us.toArray 0) := Heap.get?_push_size _ rfl
  have kp : ∀ b o, s.heap.get? b = some o → (s.heap.push { cls := .type "list", data := .seq us.toArray }).get? b = some o := fun b o e => Heap.get?_push_of_some _ e
  have I' : HOk X.prog X.w H (s.heap.push { cls := .type "list", data := .seq us.toArray }) := I.hok.kept kp
  have e1 : EachIs (fun u (b : V × PyData) => RelV b.1 u) us bs := vals_each (fun u b _ z => z) rv
  have e2 : EachIs (fun u (b : V × PyData) => ∃ as, PySem.Reads (s.heap.push { cls := .type "list", data := .seq us.toArray }) u b.2 as ∧ s.heap.objs.size ∉ as) us bs :=
    vals_each (fun u b hb z => ⟨[], Tp.rds I' (ok.tp b hb) z, by simp⟩) rv
  have hl : bs.length = us.length := by have := rv.length; rwa [List.length_map] at this
  refine PySem.W.list_sort_data (enc := fun z : V × PyData => z.2) hg e1 e2 ok.al ok.so (by rw [hl]; exact hz) (fun b hb => ?_) fun out hlen ho => ?_
  · have := ok.de b hb
    show A.units + 1 + b.2.depth < cLine
    omega
  · obtain ⟨e, he⟩ := sortedHeap_at (vs := us) (out := List.toArray out) hg
    have hv : Vals ((srtD bs).map (·.1)) out := each_vals (fun u b z => z) ho
    have hn : ((srtD bs).map (·.1)).length ≤ sizeLine := by rw [hv.length, hlen, hl]; exact hz
    refine ⟨.ref s.heap.objs.size, upd H s.heap.objs.size (.lst ((srtD bs).map (·.1))), I.laid (t' := s.toks) (fun b u x => ?_) (Nat.le_refl _) ?_, rfl, q _ (I.hok.fresh (Nat.le_refl _))⟩
    · have hb : b < s.heap.objs.size := Heap.lt_size x
      exact (sortedHeap_old (Nat.ne_of_lt hb) (Heap.lt_size (kp b u x))).trans (kp b u x)
    · exact (show ObjOk X.prog X.w _ _ _ (.lst _) from ⟨hn, out, e, hv, he⟩)
end

/-! ### sorted(d) -/
def rNSort (P : Program) (w : World) : List V → Hp → VK → Prop := fun vs H Q => ∃ a kvs, vs = [.ref a] ∧ DN P w H a kvs ∧ AllAlike (kvs.map fun q => q.1.data) ∧ PySem.W.Sortable (kvs.map fun q => q.1.data) ∧ (∀ q ∈ kvs, q.1.data.depth ≤ 16) ∧
  ∀ (bs : List (V × PyData)) p, bs.map (·.2) = kvs.map (fun q => q.1.data) → (∀ b ∈ bs, Tp H b.1 b.2) → H p = none → Q (.ref p) (upd H p (.lst ((srtD bs).map (·.1))))
def keyVs (xs : List NEnt) : List (V × PyData) := xs.map fun x => (V.ref x.2.1, x.1.data)
theorem vals_of_keys : ∀ {xs : List NEnt} {us : List Value}, us.length = xs.length → (∀ (j : Nat) (v : Value), us[j]? = some v → ∃ x : NEnt, xs[j]? = some x ∧ v = .ref x.2.1) → Vals ((keyVs xs).map (·.1)) us
  | [], [], _, _ => .nil
  | [], _ :: _, hl, _ => by simp at hl
  | _ :: _, [], hl, _ => by simp at hl
  | x :: xs, u :: us, hl, h => by
    obtain ⟨y, e1, e2⟩ := h 0 u rfl
    have e1' : x = y := Option.some.inj e1
    subst e1' e2
    exact .cons rfl (vals_of_keys (by simpa using hl) fun j v e => h (j + 1) v (by simpa using e))
theorem NT.keyTp {H : Hp} {kvs : List (NestedKey × V)} {xs : List NEnt} (r : NT H kvs xs) : (keyVs xs).map (·.2) = kvs.map (fun q => q.1.data) ∧ ∀ b ∈ keyVs xs, Tp H b.1 b.2 := by
  induction r with
  | nil => exact ⟨rfl, fun _ q => nomatch q⟩
  | @cons p q ps qs z t ih =>
    refine ⟨?_, fun b hb => ?_⟩
    · show q.1.data :: (keyVs qs).map (·.2) = p.1.data :: _
      rw [ih.1, z.1]
    · rcases List.mem_cons.mp hb with hb | hb
      · subst hb
        show Tp H (.ref q.2.1) q.1.data
        rw [← z.1] ; exact z.2.1.1
      · exact ih.2 b hb
theorem cr_nsort {X : Cx} {P : Program} {w : World} (hP : X.prog = P) (hw : X.w = w) (hc : X.calm = true) (hu : X.A.units + 64 < cLine) : CallR X (.builtin "sorted") (rNSort P w) := by
  subst hP hw
  intro pins s σ H xs us Q I r h
  obtain ⟨a, kvs, rfl, ⟨ys, ep, e, rel⟩, hal, hso, hde, q⟩ := h
  obtain ⟨u, rfl, rx⟩ := vals1 r
  cases rx
  obtain ⟨hd, hz, raw, _⟩ := DN.at I.hok e rel
  refine Calls.call_function_entry kind_sorted plain_sorted entry_sorted (args_sorted1 _) ?_
  unfold Builtin.«sorted»
  refine wpAny_bind (m := checkCount "sorted" 1 1 _) (wpAny_pure ?_)
  refine wpAny_bind (PySem.W.kdu_collect (A := X.A.in1) (PySem.KdlSrc.rawDict hd) (I.ok.hd hc) raw (by simpa using hz) fun h' tk acc hk hacc => ?_)
  have hl : acc.toList.length = ys.length := by rw [Array.length_toList, hacc.1]; simp
  have hv : Vals ((keyVs ys).map (·.1)) acc.toList := vals_of_keys hl fun j v ej => by
    obtain ⟨hi, ev⟩ := hacc.2 j v (by rw [← Array.getElem?_toList]; exact ej)
    have hi' : j < ys.length := by simpa using hi
    refine ⟨ys[j], List.getElem?_eq_getElem hi', ?_⟩
    rw [ev] ; simp [entryOfKey]
  have I1 : L2.Inv X pins σ H { s with heap := h', toks := tk } := I.kept hk
  obtain ⟨k1, k2⟩ := rel.keyTp
  have ok : SrtOk H (keyVs ys) := ⟨k2, by rw [k1]; exact hal, by rw [k1]; exact hso, fun b hb => by
    have hb' : b.2 ∈ (keyVs ys).map (·.2) := List.mem_map.mpr ⟨b, hb, rfl⟩
    rw [k1] at hb'
    obtain ⟨q, hq, e⟩ := List.mem_map.mp hb'
    rw [← e] ; exact hde q hq⟩
  refine wpAny_bind (wpAny_newList ?_ (by rw [hl]; exact hz))
  refine wpAny_bind (wpAny_holding (wpAny_mono (sort_tail (A := X.A.in1) (s := { s with heap := h', toks := tk }) (Q := Q) (by show X.A.units + 1 + 40 < cLine; omega) I1 ok hv (by rw [hl]; exact hz) fun p hp => q _ p k1 k2 hp) (fun _ s' x => ?_) fun _ _ e => e))
  exact wpAny_pure ⟨_, rfl, x⟩
end Dm

/-! sorted(d.items()); tuples joined and cut -/
namespace Dm
open PySem PySem.Spec PyProof.Rows L2 Evl
open PySem.W (dataLe EachIs AllAlike)

def rNItems (P : Program) (w : World) : V → List V → Hp → VK → Prop := fun x xs H Q => ∃ a kvs, x = .ref a ∧ xs = [] ∧ DN P w H a kvs ∧ ∀ p, H p = none → Q (.ref p) (upd H p (DX.itemsO p a))
theorem mt_nitems {X : Cx} {P : Program} {w : World} (hP : X.prog = P) (hw : X.w = w) : MtR X "dict.items" (rNItems P w) := by
  subst hP hw
  intro pins s σ H x xs v us Q I rx rxs h
  obtain ⟨a, kvs, rfl, rfl, ⟨ys, ep, e, rel⟩, q⟩ := h
  cases rx
  cases rxs
  obtain ⟨hd, _, raw, _⟩ := DN.at I.hok e rel
  refine DT.callItems (es := (ys.map (entryOfKey (nestedKind X.prog X.w))).toArray) (ep := ep) hd raw ?_
  exact ⟨.ref s.heap.objs.size, _, I.laid (t' := s.toks) (fun b u e => Heap.get?_push_of_some _ e) (Nat.le_refl _) (DX.itemsO_ok (Heap.get?_push_size _ rfl)), rfl, q _ (I.hok.fresh (Nat.le_refl _))⟩

/-- tuples that stand already are tracked, with their objects -/
theorem takeF {X : Cx} {pins : List (Addr × Obj)} {σ : L2.St} {H0 : Hp} {s : Shared} {h' : Heap} {tk : Nat} (I0 : L2.Inv X pins σ H0 s) : ∀ (L : List (Addr × Obj × List V)) (H1 : Hp), L2.Inv X pins σ H1 { s with heap := h', toks := tk } → (L.map (·.1)).Nodup →
    (∀ q ∈ L, s.heap.objs.size ≤ q.1 ∧ H1 q.1 = none ∧ ∀ H2, ObjOk X.prog X.w H2 h' q.1 (.frz q.2.1 (.tup q.2.2))) →
    ∃ H2, L2.Inv X pins σ H2 { s with heap := h', toks := tk } ∧ Same H1 H2 ∧ (∀ q ∈ L, H2 q.1 = some (.frz q.2.1 (.tup q.2.2))) ∧ ∀ b, b ∉ L.map (·.1) → H2 b = H1 b
  | [], H1, I1, _, _ => ⟨H1, I1, fun _ _ e => e, (fun _ h => nomatch h), fun _ _ => rfl⟩
  | q :: L, H1, I1, hn, h => by
    obtain ⟨hb, hz, ok⟩ := h q (List.mem_cons_self ..)
    have I2 : L2.Inv X pins σ (upd H1 q.1 (.frz q.2.1 (.tup q.2.2))) { s with heap := h', toks := tk } := I1.take (h' := h') (t' := tk) (fun b ob _ e => e) (I0.fpOk hb hz) (ok _)
    have hn' : q.1 ∉ L.map (·.1) ∧ (L.map (·.1)).Nodup := List.nodup_cons.mp hn
    have ne : ∀ c ∈ L, c.1 ≠ q.1 := fun c hc z => hn'.1 (List.mem_map.mpr ⟨c, hc, z⟩)
    obtain ⟨H2, I3, g, all, out⟩ := takeF I0 L _ I2 hn'.2 fun c hc => by
      obtain ⟨c1, c2, c3⟩ := h c (List.mem_cons_of_mem _ hc)
      exact ⟨c1, by rw [upd_ne (ne c hc)]; exact c2, c3⟩
    refine ⟨H2, I3, fun b o e => g b o (by rw [upd_ne (ne_of_none e hz)]; exact e), fun c hc => ?_, fun b hb => ?_⟩
    · rcases List.mem_cons.mp hc with z | z
      · rw [z] ; exact g _ _ upd_same
      · exact all c z
    · have hb1 : b ≠ q.1 := fun z => hb (by rw [z]; exact List.mem_cons_self ..)
      rw [out b fun z => hb (List.mem_cons_of_mem _ z), upd_ne hb1]

/-! ### sorted(d.items()) -/
abbrev pairD (vd : NestedKey × V → PyData) (q : NestedKey × V) : PyData := .tuple [q.1.data, vd q]
def rNSortIt (P : Program) (w : World) : List V → Hp → VK → Prop := fun vs H Q => ∃ p a kvs vd, vs = [.ref p] ∧ H p = some (DX.itemsO p a) ∧ DN P w H a kvs ∧ (∀ q ∈ kvs, Tp H q.2 (vd q)) ∧ AllAlike (kvs.map (pairD vd)) ∧ (∀ q ∈ kvs, (pairD vd q).depth ≤ 16) ∧
  ∀ (bs : List (V × PyData)) H' l, Same H H' → bs.map (·.2) = kvs.map (pairD vd) → (∀ b ∈ bs, Tp H' b.1 b.2) → H' l = none → Q (.ref l) (upd H' l (.lst ((srtD bs).map (·.1))))
abbrev tupOb (x y : Value) : Obj := { cls := .type "tuple", data := .seq #[x, y] }
theorem cr_nsortIt {X : Cx} {P : Program} {w : World} (hP : X.prog = P) (hw : X.w = w) (hc : X.calm = true) (hu : X.A.units + 64 < cLine) : CallR X (.builtin "sorted") (rNSortIt P w) := by
  subst hP hw
  intro pins s σ H xs us Q I r h
  obtain ⟨p, a, kvs, vd, rfl, hp, ⟨ys, ep, e, rel⟩, hv, hal, hde, q⟩ := h
  obtain ⟨u, rfl, rx⟩ := vals1 r
  cases rx
  have view : s.heap.IsItemsView p a := (show ObjOk X.prog X.w H s.heap p (DX.itemsO p a) from I.hok p _ hp).1
  obtain ⟨hd, hz, raw, _⟩ := DN.at I.hok e rel
  have hsz : (ys.map (entryOfKey (nestedKind X.prog X.w))).toArray.size = ys.length := by simp
  refine DT.sortedI (es := (ys.map (entryOfKey (nestedKind X.prog X.w))).toArray) (ep := ep) (I.ok.hd hc) view raw (by rw [hsz]; exact hz) fun h' tk as hk hlt hl hG => ?_
  rw [hsz] at hl
  have hkl : kvs.length = ys.length := rel.len
  let ts : List (Addr × (NestedKey × V) × NEnt) := as.zip (kvs.zip ys)
  have zl : (kvs.zip ys).length = ys.length := by rw [List.length_zip, hkl, Nat.min_self]
  have t1 : ts.map (·.1) = as := List.map_fst_zip (by rw [zl, hl]; exact Nat.le_refl _)
  have t2 : ts.map (fun t => t.2.1) = kvs := by
    have e1 : ts.map (·.2) = kvs.zip ys := List.map_snd_zip (by rw [zl, hl]; exact Nat.le_refl _)
    have e2 : (kvs.zip ys).map (·.1) = kvs := List.map_fst_zip (by rw [hkl]; exact Nat.le_refl _)
    have := congrArg (List.map fun z : (NestedKey × V) × NEnt => z.1) e1
    rw [List.map_map, e2] at this
    exact this
  have hts : ∀ t ∈ ts, h'.get? t.1 = some (tupOb (.ref t.2.2.2.1) t.2.2.2.2) ∧ t.2.1 ∈ kvs ∧ t.2.1.1 = t.2.2.1 ∧ NK H t.2.1.1 t.2.2.2.1 ∧ RelV t.2.1.2 t.2.2.2.2 ∧ t.1 ∈ as := by
    intro t ht
    obtain ⟨j, hj⟩ := List.mem_iff_getElem?.mp ht
    obtain ⟨j1, j2⟩ := List.getElem?_zip_eq_some.mp hj
    obtain ⟨j3, j4⟩ := List.getElem?_zip_eq_some.mp j2
    obtain ⟨en, he, hg⟩ := hG.pairs j t.1 j1
    have hen : en = entryOfKey (nestedKind X.prog X.w) t.2.2 := by
      have z : (ys.map (entryOfKey (nestedKind X.prog X.w))).toArray[j]? = some (entryOfKey (nestedKind X.prog X.w) t.2.2) := by simp [j4]
      exact Option.some.inj (he.symm.trans z)
    obtain ⟨y, hy, r1, r2, r3⟩ := paired_get rel j3
    have ey : y = t.2.2 := Option.some.inj (hy.symm.trans j4)
    subst ey
    exact ⟨by rw [hg, hen]; rfl, List.mem_of_getElem? j3, r1, r2, r3, List.mem_of_getElem? j1⟩
  have nd : as.Nodup := List.Pairwise.imp (fun h => Nat.ne_of_lt h) hG.rise
  have I1 : L2.Inv X pins σ H { s with heap := h', toks := tk } := I.kept hk
  let L : List (Addr × Obj × List V) := ts.map fun t => (t.1, tupOb (.ref t.2.2.2.1) t.2.2.2.2, [V.ref t.2.2.2.1, t.2.1.2])
  have L1 : L.map (·.1) = as := by rw [← t1]; simp only [L, List.map_map]; rfl
  obtain ⟨H2, I2, sm, all, _⟩ := takeF I L H I1 (by rw [L1]; exact nd) fun c hc => by
    obtain ⟨t, ht, rfl⟩ := List.mem_map.mp hc
    obtain ⟨g1, _, _, _, g5, g6⟩ := hts t ht
    have hb : s.heap.objs.size ≤ t.1 := Nat.le_of_lt (hG.above t.1 g6)
    refine ⟨hb, I.hok.fresh hb, fun H3 => ⟨g1, ?_, [.ref t.2.2.2.1, t.2.2.2.2], .cons rfl (.cons g5 .nil), ⟨_, g1, rfl, 0, rfl⟩⟩⟩
    rw [sizeLine_eq] ; show 2 ≤ _ ; omega
  let bs : List (V × PyData) := ts.map fun t => (V.ref t.1, pairD vd t.2.1)
  have b2 : bs.map (·.2) = kvs.map (pairD vd) := by rw [← t2]; simp only [bs, List.map_map]; rfl
  have b1 : bs.map (·.1) = as.map V.ref := by rw [← t1]; simp only [bs, List.map_map]; rfl
  have btp : ∀ b ∈ bs, Tp H2 b.1 b.2 := fun b hb => by
    obtain ⟨t, ht, rfl⟩ := List.mem_map.mp hb
    obtain ⟨_, g2, _, g4, _, _⟩ := hts t ht
    have at2 := all _ (List.mem_map.mpr ⟨t, ht, rfl⟩)
    exact .tup (xs := [V.ref t.2.2.2.1, t.2.1.2]) ⟨_, rfl, at2⟩ (.cons (g4.1.mono (Same.ts sm)) (.cons ((hv _ g2).mono (Same.ts sm)) .nil))
  have ok : SrtOk H2 bs := ⟨btp, by rw [b2]; exact hal, by rw [b2]; exact PySem.W.Sortable.tuples fun b => ⟨_, _, rfl⟩, fun b hb => by
    have hb' : b.2 ∈ bs.map (·.2) := List.mem_map.mpr ⟨b, hb, rfl⟩
    rw [b2] at hb'
    obtain ⟨c, hc, e⟩ := List.mem_map.mp hb'
    rw [← e] ; exact hde c hc⟩
  have hv2 : Vals (bs.map (·.1)) (as.map Value.ref) := by
    rw [b1] ; exact vals_maps V.ref Value.ref as fun _ _ => rfl
  exact sort_tail (A := X.A.in1) (s := { s with heap := h', toks := tk }) (Q := Q) (by show X.A.units + 1 + 40 < cLine; omega) I2 ok hv2 (by rw [List.length_map, hl]; exact hz) fun l hl => q bs H2 l sm b2 btp hl

/-! ### t + u, t[lo:hi], known to their objects -/
def rCatF (K : PySem.W.Frag) : R2 := fun x y H Q => ∃ a b xs ys, x = .ref a ∧ y = .ref b ∧ SqT K H a xs ∧ SqT K H b ys ∧ xs ≠ [] ∧ ys ≠ [] ∧ xs.length + ys.length ≤ sizeLine ∧
  ∀ p o, H p = none → o.dict = none → Q (.ref p) (upd H p (.frz o (.tup (xs ++ ys))))
theorem op_catF {X : Cx} {K : PySem.W.Frag} (hK : X.K = K) : OpR X (binaryOp .Add) (rCatF K) := by
  subst hK
  intro pins s σ H x y v u Q I rx ry h
  obtain ⟨a, b, xs, ys, rfl, rfl, ha, hb, hx, hy, hz, q⟩ := h
  cases rx
  cases ry
  obtain ⟨its, r1, p1, _⟩ := I.tuple ha
  obtain ⟨its2, r2, p2, _⟩ := I.tuple hb
  refine HT.cat_tup p1 p2 (fun z => hx (r1.nil_iff.mp z)) (fun z => absurd (r2.nil_iff.mp z) hy) (fun z => ?_) (by rw [← r1.length, ← r2.length]; exact hz)
  exact newTupF I (r1.append r2) (by rw [List.length_append]; exact hz) q
def rSlF (K : PySem.W.Frag) : V → Option Int → Option Int → Hp → VK → Prop := fun x lo hi H Q => ∃ a xs, x = .ref a ∧ SqT K H a xs ∧
  (HT.sIx xs.length 0 lo = 0 ∧ HT.sIx xs.length xs.length hi = xs.length → Q (.ref a) H) ∧
  (¬ (HT.sIx xs.length 0 lo = 0 ∧ HT.sIx xs.length xs.length hi = xs.length) → ∀ p o, H p = none → o.dict = none → Q (.ref p) (upd H p (.frz o (.tup (cutV xs lo hi)))))
theorem sl_tupF {X : Cx} {K : PySem.W.Frag} (hK : X.K = K) : SlR X (rSlF K) := by
  subst hK
  intro pins s σ H x v vl vu lo hi sl Q I rx hs pl pu h
  obtain ⟨a, xs, rfl, hx, q1, q2⟩ := h
  cases rx
  obtain ⟨its, r, ht, hz⟩ := I.tuple hx
  have hlen : its.toArray.size = xs.length := by rw [List.size_toArray]; exact r.length.symm
  refine ⟨"tuple", _, PyProof.Rows.slot_tuple_getitem.lookup, ht.typeIs, ?_⟩
  by_cases hw : HT.sIx xs.length 0 lo = 0 ∧ HT.sIx xs.length xs.length hi = xs.length
  · exact getItem_tuple_whole ht hs pl pu (by rw [hlen]; exact hw) ⟨.ref a, H, I, rfl, q1 hw⟩
  · refine HT.getItem_tuple_cut ht hs pl pu (by rw [hlen]; exact hw) ?_ (by rw [hlen]; exact hz)
    rw [hlen]
    exact newTupF I ((r.drop (HT.sIx xs.length 0 lo)).take (HT.sIx xs.length xs.length hi - HT.sIx xs.length 0 lo)) (Nat.le_trans (cutV_length xs lo hi) hz) (q2 hw)
end Dm

/-! rules that name the written part, further -/
namespace Dm
open PySem PySem.Spec PyProof.Rows L2 Evl
theorem _root_.L2.Room.u16 {k : Nat} {A : Around} (r : Room k A) : A.units + 16 < cLine := by have := r.un; omega
theorem _root_.L2.Room.u1 {k : Nat} {A : Around} (r : Room k A) : A.units + 1 < cLine := by have := r.un; omega
section
variable {X : Cx} {K : PySem.W.Frag} {tg e : Expr} {te : TE} {p pos : Pos}
theorem pi_revAK (h : X.K = K) (hg : Gl X "reversed") (hm : X.mg "reversed" = none) (he : PE X e te) (hs : starEach [e] X.env = (false, eval e X.env) :: starEach [] X.env := by rfl) : PI X tg (.Call (.Name "reversed" p) [e] [] pos) (RT.iRevA K te) := h ▸ RT.pi_revA hg hm he hs
end
end Dm

/-! things within things, ids, lists of things and helpers -/
namespace Dm
open PySem PySem.Spec PyProof.Rows L2 Evl
open PySem.W (dataLe EachIs AllAlike)

inductive Th where
  | mk (m : List Int) (is : List Th)
mutual
def Th.d : Th → PyData
  | .mk m is => .tuple [mkD m, .tuple (Th.ds is)]
def Th.ds : List Th → List PyData
  | [] => []
  | t :: ts => t.d :: Th.ds ts
end
theorem Th.ds_map : ∀ ts : List Th, Th.ds ts = ts.map Th.d
  | [] => by simp only [Th.ds, List.map_nil]
  | t :: ts => by simp only [Th.ds, List.map_cons, Th.ds_map ts]
theorem Th.d_mk (m : List Int) (is : List Th) : Th.d (.mk m is) = .tuple [mkD m, .tuple (is.map Th.d)] := by simp only [Th.d, Th.ds_map]
/-- at most n deep within -/
def Th.ok : Nat → Th → Prop
  | 0, .mk m is => okMarks m ∧ is = []
  | n + 1, .mk m is => okMarks m ∧ is.length ≤ 3 ∧ ∀ t ∈ is, Th.ok n t
theorem Th.ok.marks {n : Nat} {m : List Int} {is : List Th} (h : Th.ok n (.mk m is)) : okMarks m := by
  cases n with
  | zero => exact h.1
  | succ n => exact h.1
theorem Th.ok.few {n : Nat} {m : List Int} {is : List Th} (h : Th.ok n (.mk m is)) : is.length ≤ 3 := by
  cases n with
  | zero => rw [h.2]; exact Nat.zero_le _
  | succ n => exact h.2.1
theorem Th.ok.up : ∀ {n : Nat} {t : Th}, Th.ok n t → Th.ok (n + 1) t
  | 0, .mk m is, h => ⟨h.1, by rw [h.2]; exact Nat.zero_le _, by rw [h.2]; simp⟩
  | n + 1, .mk m is, h => ⟨h.1, h.2.1, fun t ht => (h.2.2 t ht).up⟩
def plAll {α : Type} (f : Nat → Th → List α) : Nat → List Th → List α
  | _, [] => []
  | k, t :: ts => f k t ++ plAll f (k + 1) ts
theorem plAll_snoc {α : Type} (f : Nat → Th → List α) : ∀ (k : Nat) (ts : List Th) (t : Th), plAll f k (ts ++ [t]) = plAll f k ts ++ f (k + ts.length) t
  | k, [], t => by simp [plAll]
  | k, s :: ts, t => by
    show f k s ++ plAll f (k + 1) (ts ++ [t]) = (f k s ++ plAll f (k + 1) ts) ++ f (k + (ts.length + 1)) t
    rw [plAll_snoc f (k + 1) ts t, List.append_assoc, show k + 1 + ts.length = k + (ts.length + 1) by omega]
theorem plAll_mem {α : Type} {f : Nat → Th → List α} {x : α} : ∀ {k : Nat} {ts : List Th}, x ∈ plAll f k ts → ∃ j t, ts[j]? = some t ∧ x ∈ f (k + j) t
  | k, [], h => nomatch h
  | k, t :: ts, h => by
    rcases List.mem_append.mp h with h | h
    · exact ⟨0, t, rfl, h⟩
    · obtain ⟨j, u, hj, hx⟩ := plAll_mem h
      exact ⟨j + 1, u, by simpa using hj, by rw [show k + (j + 1) = k + 1 + j by omega]; exact hx⟩
theorem plAll_len {α : Type} {f : Nat → Th → List α} {B : Nat} : ∀ {k : Nat} {ts : List Th}, (∀ k t, t ∈ ts → (f k t).length ≤ B) → (plAll f k ts).length ≤ ts.length * B
  | k, [], _ => Nat.zero_le _
  | k, t :: ts, h => by
    have h1 := h k t (List.mem_cons_self ..)
    have h2 := plAll_len (k := k + 1) (ts := ts) fun k u hu => h k u (List.mem_cons_of_mem _ hu)
    show (f k t ++ plAll f (k + 1) ts).length ≤ (ts.length + 1) * B
    rw [List.length_append, Nat.add_mul, Nat.one_mul]
    omega
/-- the id and the marks of a thing and of all within it, outer ones first -/
def Th.pl : Nat → List Int → Th → List (List Int × List Int)
  | 0, nm, .mk m _ => [(nm, m)]
  | n + 1, nm, .mk m is => (nm, m) :: plAll (fun k t => Th.pl n (nm ++ [(k : Int)]) t) 0 is
theorem Th.pl_pre : ∀ {n : Nat} {nm : List Int} {t : Th} {p : List Int × List Int}, p ∈ t.pl n nm → ∃ s, p.1 = nm ++ s
  | 0, nm, .mk m is, p, h => ⟨[], by rw [List.mem_singleton.mp h, List.append_nil]⟩
  | n + 1, nm, .mk m is, p, h => by
    rcases List.mem_cons.mp h with h | h
    · exact ⟨[], by rw [h, List.append_nil]⟩
    · obtain ⟨j, u, _, hx⟩ := plAll_mem h
      obtain ⟨s, hs⟩ := Th.pl_pre hx
      exact ⟨[((0 + j : Nat) : Int)] ++ s, by rw [hs, List.append_assoc]⟩
theorem plAll_pre {n : Nat} {nm : List Int} {p : List Int × List Int} {k : Nat} {ts : List Th} (h : p ∈ plAll (fun k t => Th.pl n (nm ++ [(k : Int)]) t) k ts) : ∃ (j : Nat) (s : List Int), k ≤ j ∧ p.1 = nm ++ ((j : Int) :: s) := by
  obtain ⟨j, u, _, hx⟩ := plAll_mem h
  obtain ⟨s, hs⟩ := Th.pl_pre hx
  exact ⟨k + j, s, by omega, by rw [hs, List.append_assoc]; rfl⟩
theorem Th.pl_nodup : ∀ {n : Nat} {nm : List Int} {t : Th}, ((t.pl n nm).map (·.1)).Nodup
  | 0, nm, .mk m is => by simp [Th.pl]
  | n + 1, nm, .mk m is => by
    have all : ∀ (k : Nat) (ts : List Th), ((plAll (fun k t => Th.pl n (nm ++ [(k : Int)]) t) k ts).map (·.1)).Nodup := fun k ts => by
      induction ts generalizing k with
      | nil => simp [plAll]
      | cons t ts ih =>
        show ((t.pl n (nm ++ [(k : Int)]) ++ plAll (fun k t => Th.pl n (nm ++ [(k : Int)]) t) (k + 1) ts).map (·.1)).Nodup
        rw [List.map_append, List.nodup_append]
        refine ⟨Th.pl_nodup, ih (k + 1), fun a ha b hb e => ?_⟩
        obtain ⟨p, hp, rfl⟩ := List.mem_map.mp ha
        obtain ⟨q, hq, rfl⟩ := List.mem_map.mp hb
        obtain ⟨s, hs⟩ := Th.pl_pre hp
        obtain ⟨j, s', hj, hs'⟩ := plAll_pre hq
        rw [hs, hs', List.append_assoc] at e
        have e' := List.append_cancel_left e
        have e2 : (k : Int) = (j : Int) := by injection e'
        omega
    show (nm :: (plAll (fun k t => Th.pl n (nm ++ [(k : Int)]) t) 0 is).map (·.1)).Nodup
    rw [List.nodup_cons]
    refine ⟨fun h => ?_, all 0 is⟩
    obtain ⟨p, hp, e⟩ := List.mem_map.mp h
    obtain ⟨j, s, _, hs⟩ := plAll_pre hp
    rw [hs] at e
    have := congrArg List.length e
    rw [List.length_append, List.length_cons] at this
    omega
theorem Th.pl_len : ∀ {n : Nat} {nm : List Int} {t : Th}, t.ok n → (t.pl n nm).length ≤ 4 ^ n
  | 0, nm, .mk m is, h => Nat.le_refl _
  | n + 1, nm, .mk m is, h => by
    have h1 := plAll_len (f := fun k t => Th.pl n (nm ++ [(k : Int)]) t) (B := 4 ^ n) (k := 0) (ts := is) fun k t ht => Th.pl_len (h.2.2 t ht)
    have h2 : is.length * 4 ^ n ≤ 3 * 4 ^ n := Nat.mul_le_mul_right _ h.2.1
    show (plAll (fun k t => Th.pl n (nm ++ [(k : Int)]) t) 0 is).length + 1 ≤ 4 ^ (n + 1)
    have h3 : 0 < 4 ^ n := Nat.pow_pos (by decide)
    rw [Nat.pow_succ]
    omega
theorem Th.pl_name_len : ∀ {n : Nat} {nm : List Int} {t : Th} {p : List Int × List Int}, p ∈ t.pl n nm → p.1.length ≤ nm.length + n ∧ nm.length ≤ p.1.length
  | 0, nm, .mk m is, p, h => by rw [List.mem_singleton.mp h]; exact ⟨Nat.le_refl _, Nat.le_refl _⟩
  | n + 1, nm, .mk m is, p, h => by
    rcases List.mem_cons.mp h with h | h
    · rw [h]; exact ⟨Nat.le_add_right _ _, Nat.le_refl _⟩
    · obtain ⟨j, u, _, hx⟩ := plAll_mem h
      have := Th.pl_name_len hx
      rw [List.length_append, List.length_singleton] at this
      omega
theorem Th.pl_marks : ∀ {n : Nat} {nm : List Int} {t : Th} {p : List Int × List Int}, t.ok n → p ∈ t.pl n nm → okMarks p.2
  | 0, nm, .mk m is, p, ht, h => by rw [List.mem_singleton.mp h]; exact ht.1
  | n + 1, nm, .mk m is, p, ht, h => by
    rcases List.mem_cons.mp h with h | h
    · rw [h]; exact ht.1
    · obtain ⟨j, u, hu, hx⟩ := plAll_mem h
      exact Th.pl_marks (ht.2.2 u (List.mem_of_getElem? hu)) hx

/-- how many they are -/
def Th.sz : Nat → Th → Nat
  | 0, _ => 1
  | n + 1, .mk _ is => 1 + (is.map (Th.sz n)).sum
theorem Th.sz_pos : ∀ (n : Nat) (t : Th), 0 < Th.sz n t
  | 0, _ => Nat.one_pos
  | n + 1, .mk m is => by show 0 < 1 + _; omega
theorem Th.sz_le' : ∀ {n : Nat} {t : Th}, t.ok n → Th.sz n t ≤ 4 ^ n
  | 0, t, _ => Nat.le_refl _
  | n + 1, .mk m is, h => by
    have all : ∀ ts : List Th, (∀ t ∈ ts, Th.ok n t) → (ts.map (Th.sz n)).sum ≤ ts.length * 4 ^ n := fun ts => by
      induction ts with
      | nil => exact fun _ => Nat.zero_le _
      | cons t ts ih =>
        intro hh
        have h1 := Th.sz_le' (hh t (List.mem_cons_self ..))
        have h2 := ih fun u hu => hh u (List.mem_cons_of_mem _ hu)
        rw [List.map_cons, List.sum_cons, List.length_cons, Nat.add_mul, Nat.one_mul]
        omega
    have h1 := all is h.2.2
    have h2 : is.length * 4 ^ n ≤ 3 * 4 ^ n := Nat.mul_le_mul_right _ h.2.1
    have h3 : 0 < 4 ^ n := Nat.pow_pos (by decide)
    show 1 + (is.map (Th.sz n)).sum ≤ 4 ^ (n + 1)
    rw [Nat.pow_succ]
    omega
theorem Th.sz_le {t : Th} (h : t.ok 2) : Th.sz 2 t ≤ 16 := Th.sz_le' h
theorem Tps.split {H : Hp} : ∀ {vs : List V} {ds es : List PyData}, Tps H vs (ds ++ es) → ∃ v1 v2, vs = v1 ++ v2 ∧ Tps H v1 ds ∧ Tps H v2 es
  | vs, [], es, h => ⟨[], vs, rfl, .nil, h⟩
  | _, d :: ds, es, .cons h t => by
    obtain ⟨v1, v2, rfl, h1, h2⟩ := Tps.split t
    exact ⟨_ :: v1, v2, rfl, .cons h h1, h2⟩
theorem Tps.one {H : Hp} {vs : List V} {d : PyData} (h : Tps H vs [d]) : ∃ x, vs = [x] ∧ Tp H x d := by
  cases h with
  | cons h t => cases t; exact ⟨_, rfl, h⟩
/-! ids as keys -/
def idK (nm : List Int) : NestedKey := .tup (nm.map .num)
theorem datas_num : ∀ nm : List Int, NestedKey.datas (nm.map .num) = nm.map .int
  | [] => by simp only [List.map_nil, NestedKey.datas]
  | i :: nm => by simp only [List.map_cons, NestedKey.datas, NestedKey.data, datas_num nm]
theorem idK_data (nm : List Int) : (idK nm).data = mkD nm := by
  show NestedKey.data (.tup (nm.map .num)) = .tuple (nm.map .int)
  simp only [NestedKey.data, datas_num]
theorem num_inj : ∀ {a b : List Int}, a.map NestedKey.num = b.map NestedKey.num → a = b
  | [], [], _ => rfl
  | [], _ :: _, h => by simp at h
  | _ :: _, [], h => by simp at h
  | x :: a, y :: b, h => by
    rw [List.map_cons, List.map_cons] at h
    injection h with h1 h2
    injection h1 with h1
    rw [h1, num_inj h2]
theorem idK_inj {a b : List Int} (h : idK a = idK b) : a = b := by
  unfold idK at h
  injection h with h
  exact num_inj h
theorem depth_num : ∀ nm : List Int, NestedKey.depthAll (nm.map .num) = 0
  | [] => by simp only [List.map_nil, NestedKey.depthAll]
  | i :: nm => by simp only [List.map_cons, NestedKey.depthAll, NestedKey.depth, depth_num nm]; rfl
theorem idK_depth (nm : List Int) : (idK nm).depth = 1 := by
  show NestedKey.depth (.tup (nm.map .num)) = 1
  simp only [NestedKey.depth, depth_num]
theorem nk_id {H : Hp} {nm : List Int} {b : Addr} (h : Tp H (.ref b) (mkD nm)) : NK H (idK nm) b := ⟨by rw [idK_data]; exact h, by rw [idK_depth]; decide⟩
end Dm

/-! lists of things and helpers; what is had at rest, reckoned -/
namespace Dm
open PySem PySem.Spec PyProof.Rows L2 Evl
open PySem.W (dataLe EachIs AllAlike)

abbrev Hlp := Int × List (List Int × Int) × Int
def tgD (t : Int × Th) : PyData := .tuple [.int t.1, t.2.d]
def hpD (h : Hlp) : PyData := .tuple [.int h.1, clsD h.2.1, .int h.2.2]
def plD (p : List Int × List Int) : PyData := .tuple [mkD p.1, mkD p.2]
def prD (p : List Int × Int) : PyData := .tuple [mkD p.1, .int p.2]
structure OkNums (ns : List Int) : Prop where
  len : ns.length ≤ 16
  rise : ns.Pairwise (· < ·)
  rng : ∀ n ∈ ns, 0 ≤ n ∧ n ≤ 999
structure OkThings (ts : List (Int × Th)) : Prop where
  nums : OkNums (ts.map (·.1))
  ok : ∀ t ∈ ts, Th.ok 2 t.2
structure OkHelpers (hs : List Hlp) : Prop where
  nums : OkNums (hs.map (·.1))
  ok : ∀ h ∈ hs, okClaims h.2.1 ∧ 0 ≤ h.2.2 ∧ h.2.2 ≤ 4
theorem OkNums.nodup {ns : List Int} (h : OkNums ns) : ns.Nodup := h.rise.imp fun h => by omega
def plcs (ts : List (Int × Th)) : List (List Int × List Int) := ts.flatMap fun t => t.2.pl 2 [t.1]
abbrev Rk := List Int × Int × Int
def rkD (r : Rk) : PyData := .tuple [.int (r.1.length : Int), .int (-r.2.1), .int r.2.2, mkD r.1]
def rkOf (p : List Int × List Int) (hs : List Hlp) : List Rk := hs.filterMap fun h => (lawFit h.2.1 p.2).map fun k => (p.1, k, h.1)
def rks (ps : List (List Int × List Int)) (hs : List Hlp) : List Rk := ps.flatMap fun p => rkOf p hs
def ordR (rs : List Rk) : List Rk := rs.mergeSort (dataLe false rkD)
def prsM (ps : List (List Int × List Int)) (hs : List Hlp) : List (List Int × Int) := (ordR (rks ps hs)).map fun r => (r.1, r.2.2)
def roomM (hs : List Hlp) (n : Int) : Int := ((hs.find? fun h => decide (h.1 = n)).map (·.2.2)).getD 0
def cntM (had : List (List Int × Int)) (n : Int) : Nat := (had.map (·.2)).count n
def canM (rm : Int → Int) (had : List (List Int × Int)) (p : List Int × Int) : Bool :=
  !decide (p.1 ∈ had.map (·.1)) && ((decide (p.1.length = 1) || decide (p.1.dropLast ∈ had.map (·.1))) && decide ((cntM had p.2 : Int) < rm p.2))
def chStep (rm : Int → Int) (had : List (List Int × Int)) (p : List Int × Int) : List (List Int × Int) := if canM rm had p then had ++ [p] else had
def chM (rm : Int → Int) (prs : List (List Int × Int)) : List (List Int × Int) := prs.foldl (chStep rm) []
def restM (ts : List (Int × Th)) (hs : List Hlp) : List (List Int × Int) := chM (roomM hs) (prsM (plcs ts) hs)

/-! sorted data -/
theorem srt_data {α : Type} (enc : α → PyData) {bs : List (V × PyData)} {rs : List α} (h : bs.map (·.2) = rs.map enc) : (srtD bs).map (·.2) = (rs.mergeSort (dataLe false enc)).map enc := by
  have e1 := PySem.W.sort_maps (r := dataLe false fun z : V × PyData => z.2) (s := dataLe false fun d : PyData => d) (fun z : V × PyData => z.2) (l := bs) (fun _ _ _ _ => rfl)
  have e2 := PySem.W.sort_maps (r := dataLe false enc) (s := dataLe false fun d : PyData => d) enc (l := rs) (fun _ _ _ _ => rfl)
  unfold srtD
  rw [e1, h, ← e2]
theorem Tps.zipped {H : Hp} : ∀ {vs : List V} {ds : List PyData}, Tps H vs ds → (vs.zip ds).map (·.1) = vs ∧ (vs.zip ds).map (·.2) = ds ∧ ∀ b ∈ vs.zip ds, Tp H b.1 b.2
  | _, _, .nil => ⟨rfl, rfl, fun _ h => nomatch h⟩
  | _, _, .cons (v := v) (d := d) h t => by
    obtain ⟨h1, h2, h3⟩ := Tps.zipped t
    refine ⟨by rw [List.zip_cons_cons, List.map_cons, h1], by rw [List.zip_cons_cons, List.map_cons, h2], fun b hb => ?_⟩
    rcases List.mem_cons.mp hb with z | z
    · subst z; exact h
    · exact h3 b z
theorem Tps.unzip {H : Hp} : ∀ {bs : List (V × PyData)}, (∀ b ∈ bs, Tp H b.1 b.2) → Tps H (bs.map (·.1)) (bs.map (·.2))
  | [], _ => .nil
  | b :: bs, h => .cons (h b (List.mem_cons_self ..)) (Tps.unzip fun c hc => h c (List.mem_cons_of_mem _ hc))
theorem srt_mem {bs : List (V × PyData)} {b : V × PyData} (h : b ∈ srtD bs) : b ∈ bs := (List.mergeSort_perm bs _).mem_iff.mp h
theorem alike_rk (r r' : Rk) : PySem.W.alike (rkD r) (rkD r') = true := by
  have := PySem.W.alike_ints r.1 r'.1
  simp [PySem.W.alike, PySem.W.alikeAll, rkD, mkD, this]
theorem depth_mk (m : List Int) : (mkD m).depth ≤ 1 := by
  show PyData.depth (.tuple (m.map .int)) ≤ 1
  have := PySem.W.depth_ints m
  simp only [PyData.depth]
  omega
theorem depth_rk (r : Rk) : (rkD r).depth ≤ 16 := by
  have := depth_mk r.1
  show PyData.depth (.tuple [.int _, .int _, .int _, mkD r.1]) ≤ 16
  simp only [PyData.depth, PyData.depthAll]
  omega
theorem srt_rk {H : Hp} {vs : List V} {rs : List Rk} (h : Tps H vs (rs.map rkD)) : SrtOk H (vs.zip (rs.map rkD)) := by
  obtain ⟨h1, h2, h3⟩ := h.zipped
  refine ⟨h3, by rw [h2]; exact PySem.W.AllAlike.of alike_rk, by rw [h2]; exact PySem.W.Sortable.tuples fun r => ⟨_, _, rfl⟩, fun b hb => ?_⟩
  have : b.2 ∈ (vs.zip (rs.map rkD)).map (·.2) := List.mem_map.mpr ⟨b, hb, rfl⟩
  rw [h2] at this
  obtain ⟨r, _, e⟩ := List.mem_map.mp this
  rw [← e]
  exact depth_rk r
/-- the sorted values stand for the sorted ranks -/
theorem srt_rks {H : Hp} {vs : List V} {rs : List Rk} (h : Tps H vs (rs.map rkD)) : Tps H ((srtD (vs.zip (rs.map rkD))).map (·.1)) ((ordR rs).map rkD) := by
  obtain ⟨h1, h2, h3⟩ := h.zipped
  have := Tps.unzip (bs := srtD (vs.zip (rs.map rkD))) fun b hb => h3 b (srt_mem hb)
  rwa [srt_data rkD h2] at this
theorem rks_take (ps : List (List Int × List Int)) (hs : List Hlp) {i : Nat} {p : List Int × List Int} (h : ps[i]? = some p) : rks (ps.take (i + 1)) hs = rks (ps.take i) hs ++ rkOf p hs := by
  unfold rks
  rw [List.take_add_one, h, Option.toList_some, List.flatMap_append, List.flatMap_singleton]
theorem rkOf_take (p : List Int × List Int) (hs : List Hlp) {i : Nat} {h : Hlp} (e : hs[i]? = some h) : rkOf p (hs.take (i + 1)) = rkOf p (hs.take i) ++ (match lawFit h.2.1 p.2 with | none => [] | some k => [(p.1, k, h.1)]) := by
  unfold rkOf
  rw [List.take_add_one, e, Option.toList_some, List.filterMap_append]
  congr 1
  rw [List.filterMap_cons, List.filterMap_nil]
  cases lawFit h.2.1 p.2 with
  | none => rfl
  | some k => rfl
theorem rkOf_len (p : List Int × List Int) (hs : List Hlp) : (rkOf p hs).length ≤ hs.length := List.length_filterMap_le _ _
theorem rks_len (hs : List Hlp) : ∀ ps : List (List Int × List Int), (rks ps hs).length ≤ ps.length * hs.length
  | [] => Nat.zero_le _
  | p :: ps => by
    have h1 := rkOf_len p hs
    have h2 := rks_len hs ps
    show (rkOf p hs ++ rks ps hs).length ≤ (ps.length + 1) * hs.length
    rw [List.length_append, Nat.add_mul, Nat.one_mul]
    omega
theorem plcs_take (ts : List (Int × Th)) {i : Nat} {t : Int × Th} (h : ts[i]? = some t) : plcs (ts.take (i + 1)) = plcs (ts.take i) ++ t.2.pl 2 [t.1] := by
  unfold plcs
  rw [List.take_add_one, h, Option.toList_some, List.flatMap_append, List.flatMap_singleton]
theorem plcs_len : ∀ {ts : List (Int × Th)}, (∀ t ∈ ts, Th.ok 2 t.2) → (plcs ts).length ≤ ts.length * 16
  | [], _ => Nat.zero_le _
  | t :: ts, h => by
    have h1 := Th.pl_len (nm := [t.1]) (h t (List.mem_cons_self ..))
    have h2 := plcs_len (ts := ts) fun u hu => h u (List.mem_cons_of_mem _ hu)
    show (t.2.pl 2 [t.1] ++ plcs ts).length ≤ (ts.length + 1) * 16
    rw [List.length_append]
    omega
theorem plcs_mem {ts : List (Int × Th)} (h : ∀ t ∈ ts, Th.ok 2 t.2) {p : List Int × List Int} (hp : p ∈ plcs ts) : okMarks p.2 ∧ p.1 ≠ [] ∧ p.1.length ≤ 3 := by
  obtain ⟨t, ht, hx⟩ := List.mem_flatMap.mp hp
  have h1 := Th.pl_marks (h t ht) hx
  have h2 := Th.pl_name_len hx
  refine ⟨h1, fun z => ?_, h2.1⟩
  rw [z] at h2
  have : (1 : Nat) ≤ 0 := h2.2
  omega
end Dm

namespace Dm
open PySem PySem.Spec PyProof.Rows L2 Evl
open PySem.W (dataLe EachIs AllAlike)
section
variable {K : PySem.W.Frag} {σ : L2.St} {H H' : Hp} {to te : TE} {ta : TA} {D : Ends} {tz : L2.TS}
/-- found.append((.., ..)) -/
theorem s_appF {l : Addr} {xs vs : List V} (hl : H l = some (.lst xs)) (ho : Ev to σ H (.ref l)) (h : EvA ta σ H vs) (hv : vs.length ≤ 100000) (hz : xs.length < 100000)
    (k : ∀ H1 p, Same H H1 → TupAt H1 p vs → Tst H1 (upd H1 l (.lst (xs ++ [.ref p]))) → D.nx σ (upd H1 l (.lst (xs ++ [.ref p])))) : tDrop (tBM K "list" rAppend to (tCons (tTupF ta) tNil)) D σ H :=
  ho H (Ex.refl H) _ fun H1 e1 => ⟨.inl ⟨rfl, xs, SqL.of (e1 _ _ hl)⟩, h H1 e1 _ fun H2 e2 => ⟨sz_of hv, fun p o hp hd => by
    have e3 : Same H2 (upd H2 p (.frz o (.tup vs))) := Same.new hp
    have hl3 := e3 _ _ (e2 _ _ (e1 _ _ hl))
    exact ⟨l, xs, .ref p, rfl, rfl, hl3, sz_lt hz, k _ p ((e1.trans e2).trans e3) (TupAt.new hd) ((Mv.refl [l] _).upd' (by simp) (fun u ys z => by rw [hl3] at z; cases z)).ts⟩⟩⟩
theorem q_appF {l : Addr} {xs vs : List V} (hl : H l = some (.lst xs)) (ho : Ev to σ H (.ref l)) (h : EvA ta σ H vs) (hv : vs.length ≤ 100000) (hz : xs.length < 100000)
    (k : ∀ H1 p, Same H H1 → TupAt H1 p vs → Tst H1 (upd H1 l (.lst (xs ++ [.ref p]))) → tz D σ (upd H1 l (.lst (xs ++ [.ref p])))) : tSeq (tDrop (tBM K "list" rAppend to (tCons (tTupF ta) tNil))) tz D σ H := s_appF (D := { D with nx := tz D }) hl ho h hv hz k
/-- (.., ..) -/
theorem eF_tup {vs : List V} {Q : VK} (h : EvA ta σ H vs) (hv : vs.length ≤ 100000) (k : ∀ H1 p, Same H H1 → H p = none → TupAt H1 p vs → Q (.ref p) H1) : tTupF ta σ H Q :=
  h H (Ex.refl H) _ fun H1 e1 => ⟨sz_of hv, fun p o hp hd => k _ p (e1.trans (Same.new hp)) (fresh_back e1 hp) (TupAt.new hd)⟩
/-- the next item of a comprehension that makes tuples -/
theorem cF_next {L : Addr} {acc vs : List V} {P : Hp → Prop} (hL : H L = some (.lst acc)) (h : EvA ta σ H vs) (hv : vs.length ≤ 100000) (hz : acc.length < 100000)
    (k : ∀ H1 p, Same H H1 → TupAt H1 p vs → Tst H1 (upd H1 L (.lst (acc ++ [.ref p]))) → P (upd H1 L (.lst (acc ++ [.ref p])))) : tTupF ta σ H fun y H4 => ∃ acc, H4 L = some (.lst acc) ∧ acc.length < sizeLine ∧ P (upd H4 L (.lst (acc ++ [y]))) :=
  eF_tup h hv fun H1 p e1 _ t1 => ⟨acc, e1 _ _ hL, sz_lt hz, k H1 p e1 t1 ((Mv.refl [L] _).upd' (by simp) (fun u ys z => by rw [e1 _ _ hL] at z; cases z)).ts⟩
theorem Same.put {p : Addr} {o : HO} (e : Same H H') (h : H p = none) : Same H (upd H' p o) := fun b u hb => by rw [upd_ne (ne_of_none hb h)]; exact e b u hb
end
end Dm

namespace Dm
open PySem PySem.Spec PyProof.Rows L2 Evl
open PySem.W (dataLe EachIs AllAlike)
/-! ### had, rooms as dicts -/
abbrev hadE (p : List Int × Int) : NestedKey × V := (idK p.1, .int p.2)
abbrev rmE (h : Hlp) : Key × V := (Sum.inl h.1, .int h.2.2)
theorem had_val (nm : List Int) : ∀ had : List (List Int × Int), (valV (had.map hadE) (idK nm)).isSome = decide (nm ∈ had.map (·.1))
  | [] => rfl
  | p :: had => by
    rw [List.map_cons, List.map_cons]
    by_cases e : p.1 = nm
    · rw [valV_pos (by show idK p.1 = idK nm; rw [e]), decide_eq_true (by rw [e]; exact List.mem_cons_self ..)] ; rfl
    · rw [valV_neg (fun z => e (idK_inj z)), had_val nm had]
      rw [Bool.eq_iff_iff, decide_eq_true_iff, decide_eq_true_iff, List.mem_cons]
      exact ⟨.inr, fun h => h.resolve_left fun z => e z.symm⟩
theorem had_new {had : List (List Int × Int)} {p : List Int × Int} (h : p.1 ∉ had.map (·.1)) : putK (had.map hadE) (idK p.1) (.int p.2) = (had ++ [p]).map hadE := by
  rw [putK_new, List.map_append] ; · rfl
  have := had_val p.1 had
  rw [decide_eq_false h] at this
  cases hv : valV (had.map hadE) (idK p.1) with
  | none => rfl
  | some v => rw [hv] at this ; cases this
theorem rm_none {n : Int} : ∀ {hs : List Hlp}, n ∉ hs.map (·.1) → valV (hs.map rmE) (Sum.inl n) = none
  | [], _ => rfl
  | h :: hs, hn => by
    rw [List.map_cons] at hn ⊢
    rw [valV_neg (fun z => hn (by injection z with z; rw [← z]; exact List.mem_cons_self ..)), rm_none fun z => hn (List.mem_cons_of_mem _ z)]
theorem rm_val {n : Int} : ∀ {hs : List Hlp}, n ∈ hs.map (·.1) → valV (hs.map rmE) (Sum.inl n) = some (.int (roomM hs n))
  | [], h => nomatch h
  | h :: hs, hn => by
    rw [List.map_cons] at hn ⊢
    by_cases e : h.1 = n
    · rw [valV_pos (by show Sum.inl h.1 = Sum.inl n; rw [e])]
      unfold roomM
      rw [List.find?_cons, decide_eq_true e] ; rfl
    · rw [valV_neg (fun z => e (by injection z)), rm_val ((List.mem_cons.mp hn).resolve_left fun z => e z.symm)]
      unfold roomM
      rw [List.find?_cons, decide_eq_false e]
theorem cnt_snoc (had : List (List Int × Int)) (p : List Int × Int) (n : Int) : cntM (had ++ [p]) n = cntM had n + if p.2 = n then 1 else 0 := by
  unfold cntM
  rw [List.map_append, List.count_append, List.map_cons, List.map_nil, List.count_singleton]
  by_cases e : p.2 = n
  · rw [if_pos e, if_pos (by rw [e]; exact beq_self_eq_true n)]
  · rw [if_neg e, if_neg (by simpa using e)]
/-- what is had was told, each id once -/
theorem ch_fold {rm : Int → Int} : ∀ (prs had : List (List Int × Int)), (had.map (·.1)).Nodup → (((prs.foldl (chStep rm) had).map (·.1)).Nodup ∧ (∀ p ∈ prs.foldl (chStep rm) had, p ∈ had ∨ p ∈ prs) ∧ (prs.foldl (chStep rm) had).length ≤ had.length + prs.length)
  | [], had, h => ⟨h, fun p hp => .inl hp, Nat.le_refl _⟩
  | q :: prs, had, h => by
    rw [List.foldl_cons]
    by_cases c : canM rm had q = true
    · have hs : chStep rm had q = had ++ [q] := if_pos c
      rw [hs]
      have hn : q.1 ∉ had.map (·.1) := by
        unfold canM at c
        rw [Bool.and_eq_true] at c
        intro z
        rw [decide_eq_true z] at c
        exact absurd c.1 (by decide)
      obtain ⟨h1, h2, h3⟩ := ch_fold prs (had ++ [q]) (by rw [List.map_append, List.nodup_append]; exact ⟨h, by simp, fun a ha b hb e => hn (by have z : b = q.1 := List.mem_singleton.mp hb; rw [← z, ← e]; exact ha)⟩)
      refine ⟨h1, fun p hp => ?_, ?_⟩
      · rcases h2 p hp with z | z
        · rcases List.mem_append.mp z with z | z
          · exact .inl z
          · exact .inr (by rw [List.mem_singleton.mp z]; exact List.mem_cons_self ..)
        · exact .inr (List.mem_cons_of_mem _ z)
      · rw [List.length_append] at h3
        simp only [List.length_cons, List.length_nil] at h3 ⊢
        omega
    · have hs : chStep rm had q = had := if_neg c
      rw [hs]
      obtain ⟨h1, h2, h3⟩ := ch_fold prs had h
      refine ⟨h1, fun p hp => ?_, by rw [List.length_cons]; omega⟩
      rcases h2 p hp with z | z
      · exact .inl z
      · exact .inr (List.mem_cons_of_mem _ z)
theorem ch_all {rm : Int → Int} (prs : List (List Int × Int)) : ((chM rm prs).map (·.1)).Nodup ∧ (∀ p ∈ chM rm prs, p ∈ prs) ∧ (chM rm prs).length ≤ prs.length := by
  obtain ⟨h1, h2, h3⟩ := ch_fold (rm := rm) prs [] List.nodup_nil
  exact ⟨h1, fun p hp => (h2 p hp).resolve_left (fun z => nomatch z), by have h4 := h3; rw [List.length_nil, Nat.zero_add] at h4; exact h4⟩
theorem prs_mem {ps : List (List Int × List Int)} {hs : List Hlp} {p : List Int × Int} (h : p ∈ prsM ps hs) : (∃ q ∈ ps, q.1 = p.1) ∧ p.2 ∈ hs.map (·.1) := by
  obtain ⟨r, hr, rfl⟩ := List.mem_map.mp h
  have hr' : r ∈ rks ps hs := (List.mergeSort_perm _ _).mem_iff.mp hr
  obtain ⟨q, hq, hx⟩ := List.mem_flatMap.mp hr'
  obtain ⟨hl, hhl, e⟩ := List.mem_filterMap.mp hx
  obtain ⟨k, _, e⟩ := Option.map_eq_some_iff.mp e
  subst e
  exact ⟨⟨q, hq, rfl⟩, List.mem_map.mpr ⟨hl, hhl, rfl⟩⟩
theorem prs_len (ps : List (List Int × List Int)) (hs : List Hlp) : (prsM ps hs).length ≤ ps.length * hs.length := by
  unfold prsM ordR
  rw [List.length_map, List.length_mergeSort]
  exact rks_len hs ps

/-! ### rules read -/
section
variable {P : Program} {w : World} {K : PySem.W.Frag} {σ : L2.St} {H H' : Hp} {td ty te : TE} {tl th : TO} {a b : Addr} {k : NestedKey} {kvs : List (NestedKey × V)} {v : V} {xs : List V}
theorem ev_nget (hd : Ev td σ H (.ref a)) (hy : Ev ty σ H (.ref b)) (g : DN P w H a kvs) (hb : NK H k b) (hv : valV kvs k = some v) : Ev (tNGet P w td ty) σ H v := fun H1 e Q q =>
  hd H1 e _ fun H2 e2 => hy H2 (e.trans e2) _ fun H3 e3 => ⟨a, kvs, k, b, v, rfl, rfl, g.same ((e.trans e2).trans e3), hb.mono (Same.ts ((e.trans e2).trans e3)), hv, q H3 (e2.trans e3)⟩
theorem ev_nnotin (hy : Ev ty σ H (.ref b)) (hd : Ev td σ H (.ref a)) (g : DN P w H a kvs) (hb : NK H k b) : Ev (tNNotIn P w ty td) σ H (.bl (!(valV kvs k).isSome)) := fun H1 e Q q =>
  hy H1 e _ fun H2 e2 => hd H2 (e.trans e2) _ fun H3 e3 => ⟨a, kvs, k, b, rfl, rfl, g.same ((e.trans e2).trans e3), hb.mono (Same.ts ((e.trans e2).trans e3)), q H3 (e2.trans e3)⟩
theorem ev_kget {kv : List (Key × V)} {j : Key} (hd : Ev td σ H (.ref a)) (hy : Ev ty σ H (kV j)) (g : H a = some (.dK kv)) (hv : valV kv j = some v) : Ev (tDGet td ty) σ H v := fun H1 e Q q =>
  hd H1 e _ fun H2 e2 => hy H2 (e.trans e2) _ fun H3 e3 => ⟨a, v, rfl, by rw [← hv]; exact DGet.k ((e.trans e2).trans e3 _ _ g), q H3 (e2.trans e3)⟩
/-- t[:-1] -/
theorem sl_last {Q : VK} (h : Ev te σ H (.ref a)) (h1 : EvO tl σ H none) (h2 : EvO th σ H (some (-1))) (hx : TupAt H a xs) (h3 : 1 ≤ xs.length) (q : ∀ H2 p, Same H H2 → TupAt H2 p xs.dropLast → Q (.ref p) H2) : tSl (rSlF K) te tl th σ H Q :=
  h H (Ex.refl H) _ fun H1 e1 => h1 H1 e1 _ fun H2 e2 => h2 H2 (e1.trans e2) _ fun H3 e3 => by
    have e := (e1.trans e2).trans e3
    have hi : HT.sIx xs.length xs.length (some (-1)) = xs.length - 1 := by
      show (if (-1 : Int) < 0 then ((-1 : Int) + (xs.length : Int)).toNat else min (-1 : Int).toNat xs.length) = xs.length - 1
      rw [if_pos (by decide)] ; omega
    refine ⟨a, xs, rfl, (hx.mono (Same.ts e)).sq, fun z => ?_, fun _ p o hp ho => ?_⟩
    · rw [hi] at z ; omega
    · have ec : cutV xs none (some (-1)) = xs.dropLast := by
        unfold cutV
        rw [hi, HT.sIx_none, List.drop_zero, Nat.sub_zero, List.dropLast_eq_take]
      rw [ec]
      exact q _ p (e.trans (Same.new hp)) (TupAt.new ho)
/-- t[:-1] in d -/
theorem ev_ninLast {nm : List Int} (h : Ev te σ H (.ref b)) (h1 : EvO tl σ H none) (h2 : EvO th σ H (some (-1))) (hd : Ev td σ H (.ref a)) (hb : Tp H (.ref b) (mkD nm)) (hne : nm ≠ []) (g : DN P w H a kvs) :
    Ev (tNIn P w (tSl (rSlF K) te tl th) td) σ H (.bl (valV kvs (idK nm.dropLast)).isSome) := fun H1 e Q q => by
  obtain ⟨c, ys, ec, hc, hys⟩ := hb.tup_inv
  cases ec
  have z := hys.ints ; subst z
  have hlen : 1 ≤ nm.length := List.length_pos_iff.mpr hne
  refine sl_last (h.mono e) (fun H2 e2 => h1 H2 (e.trans e2)) (fun H2 e2 => h2 H2 (e.trans e2)) (hc.mono (Same.ts e)) (by rw [List.length_map]; exact hlen) fun H2 p e2 tp => ?_
  refine hd H2 (e.trans e2) _ fun H3 e3 => ⟨a, kvs, idK nm.dropLast, p, rfl, rfl, g.same ((e.trans e2).trans e3), nk_id (.tup (tp.mono (Same.ts e3)) ?_), q H3 (e2.trans e3)⟩
  rw [← List.map_dropLast]
  exact Tps.of_ints _
/-- {k: v for .. in a list} -/
theorem dc_list {xs : List V} {g : TG} {tt : TT} {tk tv : TE} {vs : List Nat} {H1 : Hp} {D : Addr} {Qd : Hp → Prop} (Pv : Nat → Hp → Prop) (h0 : Pv 0 (upd H1 D (.dK []))) (hl : ∀ i H, i ≤ xs.length → Pv i H → SqL K H a xs)
    (hs : ∀ i x H, xs[i]? = some x → Pv i H → g x (wipe σ vs) H fun σ2 H2 => wipe σ2 vs = wipe σ vs ∧ tt σ2 H2 fun b H3 =>
      if b = true then tk σ2 H3 fun y H4 => tv σ2 H4 fun z H5 => ∃ kvs k, y = kV k ∧ H5 D = some (.dK kvs) ∧ kvs.length < sizeLine ∧ Pv (i + 1) (upd H5 D (.dK (putK kvs k z))) else Pv (i + 1) H3) (hd : ∀ H, Pv xs.length H → Qd H) :
    ∃ W : Nat → Nat → Hp → Prop, (∃ m, W 0 m (upd H1 D (.dK []))) ∧ ∀ i m H, W i m H →
      ((Itl K a).stop i H ∧ Qd H) ∨ ((Itl K a).go i H ∧ ∃ Nx : Hp → Prop, (∀ H', Nx H' → ∃ m', m' < m ∧ W (i + 1) m' H') ∧ ∀ x H', (Itl K a).yld i H x H' → g x (wipe σ vs) H' fun σ2 H2 => wipe σ2 vs = wipe σ vs ∧ tt σ2 H2 fun b H3 =>
        if b = true then tk σ2 H3 fun y H4 => tv σ2 H4 fun z H5 => ∃ kvs k, y = kV k ∧ H5 D = some (.dK kvs) ∧ kvs.length < sizeLine ∧ Nx (upd H5 D (.dK (putK kvs k z))) else Nx H3) := by
  refine ⟨fun i m H => m = xs.length - i ∧ i ≤ xs.length ∧ Pv i H, ⟨xs.length, rfl, Nat.zero_le _, h0⟩, fun i m H ⟨em, hi, p⟩ => ?_⟩
  have q := hl i H hi p
  by_cases hlt : i < xs.length
  · refine .inr ⟨⟨xs, xs[i], q, List.getElem?_eq_getElem hlt⟩, Pv (i + 1), fun H' p' => ⟨xs.length - (i + 1), by omega, rfl, hlt, p'⟩, fun x H' y => ?_⟩
    obtain ⟨e, y⟩ := y
    subst e
    exact hs i x _ (y xs q) p
  · have e : i = xs.length := by omega
    subst e
    exact .inl ⟨⟨xs, q, Nat.le_refl _⟩, hd H p⟩
end
end Dm

namespace Dm
open PySem PySem.Spec PyProof.Rows L2 Evl
/-- numbers that rise, by at most three each -/
structure NumsB (ns : List Int) : Prop where
  rise : ns.Pairwise (· < ·)
  bnd : ∀ (i : Nat) (n : Int), ns[i]? = some n → 0 ≤ n ∧ n ≤ 3 * (i : Int) + 2
theorem NumsB.nil : NumsB [] := ⟨List.Pairwise.nil, fun i n h => by simp at h⟩
theorem NumsB.snoc {ns : List Int} (h : NumsB ns) {x : Int} (h0 : 0 ≤ x) (h1 : x ≤ 3 * (ns.length : Int) + 2) (h2 : ∀ m ∈ ns, m < x) : NumsB (ns ++ [x]) := by
  refine ⟨List.pairwise_append.mpr ⟨h.rise, List.pairwise_singleton .., fun a ha b hb => by rw [List.mem_singleton.mp hb]; exact h2 a ha⟩, fun i n hn => ?_⟩
  by_cases hi : i < ns.length
  · rw [List.getElem?_append_left hi] at hn
    exact h.bnd i n hn
  · rw [List.getElem?_append_right (by omega)] at hn
    have : i - ns.length = 0 := by
      have := (List.getElem?_eq_some_iff.mp hn).1
      simp only [List.length_singleton] at this
      omega
    rw [this] at hn
    have hn' : x = n := Option.some.inj hn
    have hi' : i = ns.length := by omega
    rw [← hn', hi'] ; exact ⟨h0, h1⟩
theorem NumsB.ok {ns : List Int} (h : NumsB ns) (hl : ns.length ≤ 16) : OkNums ns := ⟨hl, h.rise, fun n hn => by
  obtain ⟨i, hi⟩ := List.mem_iff_getElem?.mp hn
  have := h.bnd i n hi
  have := (List.getElem?_eq_some_iff.mp hi).1
  omega⟩
/-- the two lists as they are drawn -/
structure Drawn (H : Hp) (lt lh : Addr) (xs ys : List V) (ts : List (Int × Th)) (hs : List Hlp) : Prop where
  a : H lt = some (.lst xs)
  b : H lh = some (.lst ys)
  tx : Tps H xs (ts.map tgD)
  ty : Tps H ys (hs.map hpD)
  nt : NumsB (ts.map (·.1))
  nh : NumsB (hs.map (·.1))
  ot : ∀ t ∈ ts, Th.ok 2 t.2
  oh : ∀ h ∈ hs, okClaims h.2.1 ∧ 0 ≤ h.2.2 ∧ h.2.2 ≤ 4
  lt' : ts.length ≤ 16
  lh' : hs.length ≤ 16
theorem Drawn.things {H : Hp} {lt lh : Addr} {xs ys : List V} {ts : List (Int × Th)} {hs : List Hlp} (d : Drawn H lt lh xs ys ts hs) : OkThings ts := ⟨d.nt.ok (by rw [List.length_map]; exact d.lt'), d.ot⟩
theorem Drawn.helpers {H : Hp} {lt lh : Addr} {xs ys : List V} {ts : List (Int × Th)} {hs : List Hlp} (d : Drawn H lt lh xs ys ts hs) : OkHelpers hs := ⟨d.nh.ok (by rw [List.length_map]; exact d.lh'), d.oh⟩
theorem Drawn.low {H : Hp} {lt lh : Addr} {xs ys : List V} {ts : List (Int × Th)} {hs : List Hlp} (d : Drawn H lt lh xs ys ts hs) : ∀ n ∈ ts.map (·.1), n ≤ 60 := fun n hn => by
  obtain ⟨i, hi⟩ := List.mem_iff_getElem?.mp hn
  have h1 := d.nt.bnd i n hi
  have h2 := (List.getElem?_eq_some_iff.mp hi).1
  rw [List.length_map] at h2
  have h3 := d.lt'
  omega
theorem Drawn.ne {H : Hp} {lt lh : Addr} {xs ys : List V} {ts : List (Int × Th)} {hs : List Hlp} (d : Drawn H lt lh xs ys ts hs) {M : List Addr} {H' : Hp} (m : Mv M H H') (h1 : lt ∉ M) (h2 : lh ∉ M) : Drawn H' lt lh xs ys ts hs :=
  ⟨m.at h1 d.a, m.at h2 d.b, d.tx.mono m.ts, d.ty.mono m.ts, d.nt, d.nh, d.ot, d.oh, d.lt', d.lh'⟩
/-- another thing -/
theorem Drawn.thing {H : Hp} {lt lh p : Addr} {xs ys : List V} {ts : List (Int × Th)} {hs : List Hlp} (d : Drawn H lt lh xs ys ts hs) (hne : lt ≠ lh) {t : Int × Th} (tp : Tp H (.ref p) (tgD t)) (ok : Th.ok 2 t.2) (h0 : 0 ≤ t.1) (h1 : t.1 ≤ 3 * (ts.length : Int) + 2) (h2 : ∀ m ∈ ts.map (·.1), m < t.1) (hl : ts.length < 16) :
    Drawn (upd H lt (.lst (xs ++ [.ref p]))) lt lh (xs ++ [.ref p]) ys (ts ++ [t]) hs := by
  have m : Mv [lt] H (upd H lt (.lst (xs ++ [.ref p]))) := (Mv.refl [lt] H).upd' (by simp) (fun u ws z => by rw [d.a] at z; cases z)
  refine ⟨upd_same, m.at (by simpa using Ne.symm hne) d.b, ?_, d.ty.mono m.ts, ?_, d.nh, fun u hu => ?_, d.oh, by rw [List.length_append]; exact hl, d.lh'⟩
  · rw [List.map_append]
    exact (d.tx.mono m.ts).append (.cons (tp.mono m.ts) .nil)
  · rw [List.map_append]
    exact d.nt.snoc h0 (by rw [List.length_map]; exact h1) h2
  · rcases List.mem_append.mp hu with z | z
    · exact d.ot u z
    · rw [List.mem_singleton.mp z]; exact ok
theorem Drawn.helper {H : Hp} {lt lh p : Addr} {xs ys : List V} {ts : List (Int × Th)} {hs : List Hlp} (d : Drawn H lt lh xs ys ts hs) (hne : lt ≠ lh) {t : Hlp} (tp : Tp H (.ref p) (hpD t)) (ok : okClaims t.2.1 ∧ 0 ≤ t.2.2 ∧ t.2.2 ≤ 4) (h0 : 0 ≤ t.1) (h1 : t.1 ≤ 3 * (hs.length : Int) + 2) (h2 : ∀ m ∈ hs.map (·.1), m < t.1) (hl : hs.length < 16) :
    Drawn (upd H lh (.lst (ys ++ [.ref p]))) lt lh xs (ys ++ [.ref p]) ts (hs ++ [t]) := by
  have m : Mv [lh] H (upd H lh (.lst (ys ++ [.ref p]))) := (Mv.refl [lh] H).upd' (by simp) (fun u ws z => by rw [d.b] at z; cases z)
  refine ⟨m.at (by simpa using hne) d.a, upd_same, d.tx.mono m.ts, ?_, d.nt, ?_, d.ot, fun u hu => ?_, d.lt', by rw [List.length_append]; exact hl⟩
  · rw [List.map_append]
    exact (d.ty.mono m.ts).append (.cons (tp.mono m.ts) .nil)
  · rw [List.map_append]
    exact d.nh.snoc h0 (by rw [List.length_map]; exact h1) h2
  · rcases List.mem_append.mp hu with z | z
    · exact d.oh u z
    · rw [List.mem_singleton.mp z]; exact ok
end Dm

namespace Dm
open PySem PySem.Spec PyProof.Rows L2 Evl
/-! ### ids by their hashes -/
def fullT : Nat → Th
  | 0 => .mk [] []
  | n + 1 => .mk [] [fullT n, fullT n, fullT n]
theorem plAll_sub {f g : Nat → Th → List (List Int × List Int)} {F : Th} : ∀ (ts : List Th) (m k : Nat), ts.length ≤ m → (∀ k t, t ∈ ts → ((f k t).map (·.1)).Sublist ((g k F).map (·.1))) → ((plAll f k ts).map (·.1)).Sublist ((plAll g k (List.replicate m F)).map (·.1))
  | [], m, k, _, _ => List.nil_sublist _
  | t :: ts, m + 1, k, hl, h => by
    show ((f k t ++ plAll f (k + 1) ts).map (·.1)).Sublist ((g k F ++ plAll g (k + 1) (List.replicate m F)).map (·.1))
    rw [List.map_append, List.map_append]
    exact (h k t (List.mem_cons_self ..)).append (plAll_sub ts m (k + 1) (by simpa using hl) fun k u hu => h k u (List.mem_cons_of_mem _ hu))
theorem pl_sub : ∀ {n : Nat} {nm : List Int} {t : Th}, t.ok n → ((t.pl n nm).map (·.1)).Sublist (((fullT n).pl n nm).map (·.1))
  | 0, nm, .mk m is, h => List.Sublist.refl _
  | n + 1, nm, .mk m is, h => by
    show (nm :: (plAll (fun k t => Th.pl n (nm ++ [(k : Int)]) t) 0 is).map (·.1)).Sublist (nm :: (plAll (fun k t => Th.pl n (nm ++ [(k : Int)]) t) 0 (List.replicate 3 (fullT n))).map (·.1))
    refine List.Sublist.cons₂ nm ?_
    exact plAll_sub (f := fun k t => Th.pl n (nm ++ [(k : Int)]) t) (g := fun k t => Th.pl n (nm ++ [(k : Int)]) t) is 3 0 h.2.1 fun k t ht => pl_sub (h.2.2 t ht)
def idH (nm : List Int) : Int := reduceHash (Builtin.Tuple.tupleHashOf (nm.map hashInt))
theorem hashes_num (w : World) : ∀ nm : List Int, NestedKey.hashes w (nm.map .num) = nm.map hashInt
  | [] => by simp only [List.map_nil, NestedKey.hashes]
  | i :: nm => by simp only [List.map_cons, NestedKey.hashes, NestedKey.hash, hashes_num w nm]
theorem idK_hash (w : World) (nm : List Int) : (idK nm).hash w = idH nm := by
  show NestedKey.hash w (.tup (nm.map .num)) = idH nm
  simp only [NestedKey.hash, hashes_num, idH]
theorem hash_full' : ∀ n : Fin 61, (((fullT 2).pl 2 [((n.1 : Nat) : Int)]).map fun p => idH p.1).Nodup := by decide +kernel
theorem hash_full (w : World) (n : Fin 61) : (((fullT 2).pl 2 [((n.1 : Nat) : Int)]).map fun p => (idK p.1).hash w).Nodup := by
  have e : (fun p : List Int × List Int => (idK p.1).hash w) = fun p => idH p.1 := funext fun p => idK_hash w p.1
  rw [e] ; exact hash_full' n
theorem hash_nodup (w : World) {n : Int} (h0 : 0 ≤ n) (h1 : n ≤ 60) {t : Th} (h : t.ok 2) : ((t.pl 2 [n]).map fun p => (idK p.1).hash w).Nodup := by
  obtain ⟨k, rfl⟩ : ∃ k : Nat, n = (k : Int) := ⟨n.toNat, by omega⟩
  have h2 := hash_full w ⟨k, by omega⟩
  have s := (pl_sub (nm := [(k : Int)]) h).map fun nm => (idK nm).hash w
  rw [List.map_map, List.map_map] at s
  exact h2.sublist s
/-! ### marks by ids -/
abbrev WK (H : Hp) : List (NestedKey × V) → List (List Int × List Int) → Prop := Paired fun q p => q.1 = idK p.1 ∧ Tp H q.2 (mkD p.2)
theorem WK.mono {H H' : Hp} (e : Tst H H') {kvs : List (NestedKey × V)} {ps : List (List Int × List Int)} (h : WK H kvs ps) : WK H' kvs ps := Paired.mapP h fun _ _ z => ⟨z.1, z.2.mono e⟩
theorem WK.append {H : Hp} : ∀ {k1 k2 : List (NestedKey × V)} {p1 p2 : List (List Int × List Int)}, WK H k1 p1 → WK H k2 p2 → WK H (k1 ++ k2) (p1 ++ p2)
  | _, _, _, _, .nil, h => h
  | _, _, _, _, .cons a b, h => .cons a (WK.append b h)
theorem WK.keys {H : Hp} {kvs : List (NestedKey × V)} {ps : List (List Int × List Int)} (h : WK H kvs ps) : kvs.map (·.1) = (ps.map (·.1)).map idK := by
  induction h with
  | nil => rfl
  | cons a b ih => rw [List.map_cons, List.map_cons, List.map_cons, ih, a.1]
theorem WK.hashes {H : Hp} (w : World) {kvs : List (NestedKey × V)} {ps : List (List Int × List Int)} (h : WK H kvs ps) : (kvs.map fun p => p.1.hash w) = ps.map fun p => (idK p.1).hash w := by
  induction h with
  | nil => rfl
  | cons a b ih => rw [List.map_cons, List.map_cons, ih, a.1]
theorem WK.len {H : Hp} {kvs : List (NestedKey × V)} {ps : List (List Int × List Int)} (h : WK H kvs ps) : kvs.length = ps.length := Paired.length h
theorem idK_nodup : ∀ {l : List (List Int)}, l.Nodup → (l.map idK).Nodup
  | [], _ => List.nodup_nil
  | a :: l, h => by
    obtain ⟨h1, h2⟩ := List.nodup_cons.mp h
    rw [List.map_cons, List.nodup_cons]
    refine ⟨fun z => ?_, idK_nodup h2⟩
    obtain ⟨b, hb, e⟩ := List.mem_map.mp z
    rw [idK_inj e] at hb
    exact h1 hb
theorem valV_fresh {kvs : List (NestedKey × V)} {k : NestedKey} (h : k ∉ kvs.map (·.1)) : valV kvs k = none := by
  have := valV_any k kvs
  cases hv : valV kvs k with
  | none => rfl
  | some v =>
    rw [hv] at this
    obtain ⟨p, hp, e⟩ := List.any_eq_true.mp this
    exact absurd (List.mem_map.mpr ⟨p, hp, of_decide_eq_true e⟩) h
theorem merge_append : ∀ {more kvs : List (NestedKey × V)}, ((kvs ++ more).map (·.1)).Nodup → mergeN kvs more = kvs ++ more
  | [], kvs, _ => by rw [List.append_nil]; rfl
  | p :: more, kvs, h => by
    have h1 : p.1 ∉ kvs.map (·.1) := by
      rw [List.map_append, List.nodup_append] at h
      exact fun z => h.2.2 p.1 z p.1 (List.mem_cons_self ..) rfl
    show mergeN (putK kvs p.1 p.2) more = kvs ++ p :: more
    rw [putK_new p.2 (valV_fresh h1)]
    have e : kvs ++ p :: more = (kvs ++ [(p.1, p.2)]) ++ more := by rw [List.append_assoc] ; rfl
    rw [e] at h ⊢
    exact merge_append h
theorem WK.merge {H : Hp} {k1 k2 : List (NestedKey × V)} {p1 p2 : List (List Int × List Int)} (h1 : WK H k1 p1) (h2 : WK H k2 p2) (hn : ((p1 ++ p2).map (·.1)).Nodup) : mergeN k1 k2 = k1 ++ k2 :=
  merge_append (by rw [(h1.append h2).keys]; exact idK_nodup hn)
theorem WK.at {H : Hp} : ∀ {kvs : List (NestedKey × V)} {ps : List (List Int × List Int)} {i : Nat} {q : NestedKey × V}, WK H kvs ps → kvs[i]? = some q → ∃ p, ps[i]? = some p ∧ q.1 = idK p.1 ∧ Tp H q.2 (mkD p.2)
  | _, _, i, q, .nil, h => by simp at h
  | _, _, 0, q, .cons a b, h => by
    have e := Option.some.inj h
    subst e
    exact ⟨_, rfl, a⟩
  | _, _, i + 1, q, .cons a b, h => WK.at (i := i) b (by simpa using h)
/-- ids of different things differ -/
theorem plcs_nodup : ∀ {ts : List (Int × Th)}, (ts.map (·.1)).Nodup → ((plcs ts).map (·.1)).Nodup
  | [], _ => List.nodup_nil
  | t :: ts, h => by
    obtain ⟨h1, h2⟩ := List.nodup_cons.mp (show (t.1 :: ts.map (·.1)).Nodup from h)
    show ((t.2.pl 2 [t.1] ++ plcs ts).map (·.1)).Nodup
    rw [List.map_append, List.nodup_append]
    refine ⟨Th.pl_nodup, plcs_nodup h2, fun a ha b hb e => ?_⟩
    obtain ⟨p, hp, rfl⟩ := List.mem_map.mp ha
    obtain ⟨q, hq, rfl⟩ := List.mem_map.mp hb
    obtain ⟨u, hu, hx⟩ := List.mem_flatMap.mp hq
    obtain ⟨s1, e1⟩ := Th.pl_pre hp
    obtain ⟨s2, e2⟩ := Th.pl_pre hx
    rw [e1, e2] at e
    have e3 : t.1 = u.1 := by injection e
    exact h1 (by rw [e3]; exact List.mem_map.mpr ⟨u, hu, rfl⟩)
end Dm

namespace Dm
open PySem PySem.Spec PyProof.Rows L2 Evl
theorem for_nkeys {P : Program} {w : World} {d : Addr} {xs : List NEnt} {ep : Nat} {g : TG} {tb : L2.TS} {D : Ends} {σ : L2.St} {H : Hp} (Pv : Nat → L2.St → Hp → Prop) (h0 : Pv 0 σ H) (hl : ∀ i σ H, i ≤ xs.length → Pv i σ H → H d = some (dnO P w d xs ep))
    (hs : ∀ (i : Nat) (q : NEnt) σ H, xs[i]? = some q → Pv i σ H → g (.ref q.2.1) σ H fun σ2 H2 => tb { D with nx := Pv (i + 1), ct := Pv (i + 1), bk := D.nx } σ2 H2) (hd : ∀ σ H, Pv xs.length σ H → D.nx σ H) :
    ∃ W : Nat → Nat → L2.St → Hp → Prop, (∃ m, W 0 m σ H) ∧ ∀ i m σ H, W i m σ H →
      ((ItN P w d xs ep).stop i H ∧ D.nx σ H) ∨ ((ItN P w d xs ep).go i H ∧ ∃ N : L2.St → Hp → Prop, (∀ σ' H', N σ' H' → ∃ m', m' < m ∧ W (i + 1) m' σ' H') ∧ ∀ x H', (ItN P w d xs ep).yld i H x H' → g x σ H' fun σ2 H2 => tb { D with nx := N, ct := N, bk := D.nx } σ2 H2) :=
  for_any (J := ItN P w d xs ep) (n := xs.length) Pv h0 (fun i σ H hi p => ⟨hl i σ H (Nat.le_of_lt hi) p, hi⟩) (fun σ H p => ⟨hl _ σ H (Nat.le_refl _) p, Nat.le_refl _⟩) (fun i x σ H H' hi p y => by
    obtain ⟨rfl, q, hq, rfl⟩ := y
    exact hs i q σ H' hq p) hd
theorem valV_at {kvs : List (NestedKey × V)} {i : Nat} {q : NestedKey × V} (hn : (kvs.map (·.1)).Nodup) (h : kvs[i]? = some q) : valV kvs q.1 = some q.2 := by
  induction kvs generalizing i with
  | nil => simp at h
  | cons p kvs ih =>
    obtain ⟨h1, h2⟩ := List.nodup_cons.mp (show (p.1 :: kvs.map (·.1)).Nodup from hn)
    cases i with
    | zero =>
      have e := Option.some.inj h
      subst e
      exact valV_pos rfl
    | succ i =>
      have h' : kvs[i]? = some q := by simpa using h
      rw [valV_neg fun z => h1 (by rw [z]; exact List.mem_map.mpr ⟨q, List.mem_of_getElem? h', rfl⟩)]
      exact ih h2 h'
/-- the i-th id: its tuple and its marks -/
theorem id_at {P : Program} {w : World} {H : Hp} {d : Addr} {kvs : List (NestedKey × V)} {ps : List (List Int × List Int)} {xs : List NEnt} (nt : NT H kvs xs) (wk : WK H kvs ps) (hn : (ps.map (·.1)).Nodup) {i : Nat} {q : NEnt} (hq : xs[i]? = some q) :
    ∃ (p : List Int × List Int) (v : V), ps[i]? = some p ∧ Tp H (.ref q.2.1) (mkD p.1) ∧ valV kvs (idK p.1) = some v ∧ Tp H v (mkD p.2) := by
  obtain ⟨e, he, z⟩ := L2.DX.pget nt hq
  obtain ⟨p, hp, e1, e2⟩ := WK.at wk he
  refine ⟨p, e.2, hp, ?_, ?_, e2⟩
  · have := z.2.1.1
    rw [e1, idK_data] at this
    exact this
  · rw [← e1]
    exact valV_at (by rw [wk.keys]; exact idK_nodup hn) he
section
variable {P : Program} {w : World} {K : PySem.W.Frag} {σ : L2.St} {H H' : Hp} {ta tb td ty te : TE} {a b p : Addr} {v x y z u : V} {xs : List V} {i j k l : Nat}
abbrev gT4 (K : PySem.W.Frag) (i j k l : Nat) : TG := gTup K 4 (gCons (gName i) (gCons (gName j) (gCons (gName k) (gCons (gName l) gNil))))
theorem g_un4 {R : L2.St → Hp → Prop} (ha : SqT K H a [x, y, z, u]) (q : R ((((σ.set i (some x)).set j (some y)).set k (some z)).set l (some u)) H) : gT4 K i j k l (.ref a) σ H R :=
  ⟨a, [x, y, z, u], rfl, ha, rfl, x, [y, z, u], rfl, y, [z, u], rfl, z, [u], rfl, u, [], rfl, rfl, q⟩
theorem rv_ixN {n : Int} (h : H p = some (.lst xs)) (hi : atI xs n = some v) : RV (rIx K) (.ref p) (.int n) H v := fun H1 e Q q => .inl ⟨p, xs, n, v, rfl, rfl, SqL.of (e _ _ h), hi, q H1 (Ex.refl _)⟩
theorem ev_ixNL {n : Int} (ha : EvL ta σ H xs) (hb : ∀ H1, Ex H H1 → Ev tb σ H1 (.int n)) (hi : atI xs n = some v) : Ev (tOp (rIx K) ta tb) σ H v := ev_opL1 ha hb fun _ _ h _ => rv_ixN h hi
/-- list(d.values()).count(n) -/
theorem ev_valsCount {kvs : List (NestedKey × V)} {ns : List Int} {n : Int} (hd : Ev td σ H (.ref a)) (hb : Ev tb σ H (.int n)) (g : DN P w H a kvs) (hv : kvs.map (·.2) = ns.map V.int) :
    Ev (tBM K "list" (rCntI K) (tCB (rNListVals P w) (tCons (tNM0 P w (rNVals P w) td) tNil)) (tCons tb tNil)) σ H (.int (ns.count n : Nat)) := fun H1 e Q q =>
  hd H1 e _ fun H2 e2 => by
    have g2 := g.same (e.trans e2)
    refine ⟨⟨a, kvs, rfl, g2⟩, a, kvs, rfl, rfl, g2, fun p hp => ?_⟩
    have e3 : Same H2 (upd H2 p (valsO p a)) := Same.new hp
    refine ⟨p, a, kvs, rfl, upd_same, g2.same e3, fun l hl => ?_⟩
    have e4 : Same (upd H2 p (valsO p a)) (upd (upd H2 p (valsO p a)) l (.lst (kvs.map (·.2)))) := Same.new hl
    have hl4 : (upd (upd H2 p (valsO p a)) l (.lst (kvs.map (·.2)))) l = some (.lst (ns.map V.int)) := by rw [upd_same, hv]
    have E := (e2.trans e3).trans e4
    generalize (upd (upd H2 p (valsO p a)) l (.lst (kvs.map (·.2)))) = H4 at e4 hl4 E ⊢
    refine ⟨.inl ⟨rfl, _, SqL.of hl4⟩, hb H4 (e.trans E) _ fun H5 e5 => ⟨l, ns, n, rfl, rfl, SqL.of (e5 _ _ hl4), q H5 (E.trans e5)⟩⟩
end
theorem room_first {hs : List Hlp} {n : Int} (h : n ∈ hs.map (·.1)) : atI ((hs.filter fun h => decide (h.1 = n)).map fun h => V.int h.2.2) 0 = some (.int (roomM hs n)) := by
  refine atI_nat (j := 0) ?_
  have e : (hs.filter fun h => decide (h.1 = n))[0]? = hs.find? fun h => decide (h.1 = n) := by
    rw [← List.head?_eq_getElem?, List.head?_filter]
  rw [List.getElem?_map, e]
  unfold roomM
  cases hf : hs.find? fun h => decide (h.1 = n) with
  | none =>
    obtain ⟨x, hx, ex⟩ := List.mem_map.mp h
    have := List.find?_eq_none.mp hf x hx
    exact absurd (decide_eq_true ex) this
  | some x => rfl
end Dm

namespace Dm
open PySem PySem.Spec PyProof.Rows L2 Evl
open PySem.W (dataLe EachIs AllAlike)
/-! ### how deep -/
/-- data of numbers alone, at most n deep -/
inductive Fint : Nat → PyData → Prop
  | non (n) : Fint n .none
  | bool (n b) : Fint n (.bool b)
  | int (n i) : Fint n (.int i)
  | list {n ds} : ds.length ≤ 40000 → (∀ d ∈ ds, Fint n d) → Fint (n + 1) (.list ds)
  | tuple {n ds} : ds.length ≤ 40000 → (∀ d ∈ ds, Fint n d) → Fint (n + 1) (.tuple ds)
theorem Fint.fine {n : Nat} {d : PyData} (h : Fint n d) : Fine n d := by
  induction h with
  | non n => exact .non _
  | bool n b => exact .bool _ b
  | int n i => exact .int _ i
  | list hl _ ih => exact .list hl ih
  | tuple hl _ ih => exact .tuple hl ih
theorem Fint.up {n : Nat} {d : PyData} (h : Fint n d) : Fint (n + 1) d := by
  induction h with
  | non n => exact .non _
  | bool n b => exact .bool _ b
  | int n i => exact .int _ i
  | list hl _ ih => exact .list hl ih
  | tuple hl _ ih => exact .tuple hl ih
theorem Fint.le {n m : Nat} {d : PyData} (h : Fint n d) (hm : n ≤ m) : Fint m d := by
  induction hm with
  | refl => exact h
  | step _ ih => exact ih.up
theorem Fint.lay {n : Nat} {d : PyData} (h : Fint n d) : d.canLay0 = true ∧ d.depth ≤ n := by
  induction h with
  | non n => exact ⟨rfl, Nat.zero_le _⟩
  | bool n b => exact ⟨rfl, Nat.zero_le _⟩
  | int n i => exact ⟨by simp only [PyData.canLay0], by simp only [PyData.depth]; exact Nat.zero_le _⟩
  | list hl _ ih =>
    refine ⟨?_, ?_⟩
    · simp only [PyData.canLay0]
      exact lay_all fun d hd => (ih d hd).1
    · simp only [PyData.depth]
      have := dep_all fun d hd => (ih d hd).2
      omega
  | tuple hl _ ih =>
    refine ⟨?_, ?_⟩
    · simp only [PyData.canLay0]
      exact lay_all fun d hd => (ih d hd).1
    · simp only [PyData.depth]
      have := dep_all fun d hd => (ih d hd).2
      omega
theorem Fint.shaped {n : Nat} {d : PyData} (h : Fint n d) (hn : n ≤ 64) : SeqAt.shaped d = true := by
  unfold SeqAt.shaped
  rw [Bool.and_eq_true]
  exact ⟨h.lay.1, decide_eq_true (Nat.le_trans h.lay.2 hn)⟩
theorem fine_mk {m : List Int} (h : m.length ≤ 40000) : Fint 1 (mkD m) := .tuple (by rw [List.length_map]; exact h) fun d hd => by
  obtain ⟨i, _, rfl⟩ := List.mem_map.mp hd
  exact .int _ i
theorem fine_two {n : Nat} {a b : PyData} (ha : Fint n a) (hb : Fint n b) : Fint (n + 1) (.tuple [a, b]) := .tuple (by simp) fun d hd => by
  simp only [List.mem_cons, List.not_mem_nil, or_false] at hd
  rcases hd with rfl | rfl
  · exact ha
  · exact hb
theorem fine_three {n : Nat} {a b c : PyData} (ha : Fint n a) (hb : Fint n b) (hc : Fint n c) : Fint (n + 1) (.tuple [a, b, c]) := .tuple (by simp) fun d hd => by
  simp only [List.mem_cons, List.not_mem_nil, or_false] at hd
  rcases hd with rfl | rfl | rfl
  · exact ha
  · exact hb
  · exact hc
theorem fine_th : ∀ {n : Nat} {t : Th}, t.ok n → Fint (2 * n + 2) t.d
  | 0, .mk m is, h => by
    rw [Th.d_mk]
    refine fine_two (fine_mk (by rw [h.1.1]; decide)) ?_
    rw [h.2]
    exact .tuple (by simp) fun d hd => nomatch hd
  | n + 1, .mk m is, h => by
    rw [Th.d_mk]
    refine fine_two ((fine_mk (by rw [h.1.1]; decide)).le (by omega)) ?_
    refine .tuple (n := 2 * n + 2) (by rw [List.length_map]; have := h.2.1; omega) fun d hd => ?_
    obtain ⟨t, ht, rfl⟩ := List.mem_map.mp hd
    exact fine_th (h.2.2 t ht)
theorem fine_tg {t : Int × Th} (h : Th.ok 2 t.2) : Fint 7 (tgD t) := fine_two (.int _ _) (fine_th h)
theorem fine_hp {h : Hlp} (ok : okClaims h.2.1) : Fint 4 (hpD h) := fine_three (.int _ _) (.tuple (n := 2) (by rw [List.length_map]; have := ok.1; omega) fun d hd => by
  obtain ⟨c, hc, rfl⟩ := List.mem_map.mp hd
  exact fine_two (fine_mk (by rw [(ok.2 c hc).1]; decide)) (.int _ _)) (.int _ _)
theorem fine_lists {ts : List (Int × Th)} {hs : List Hlp} (ht : OkThings ts) (hh : OkHelpers hs) : Fint 9 (.list [.list (ts.map tgD), .list (hs.map hpD)]) := by
  have l1 := ht.nums.len
  have l2 := hh.nums.len
  rw [List.length_map] at l1 l2
  refine .list (by simp) fun d hd => ?_
  simp only [List.mem_cons, List.not_mem_nil, or_false] at hd
  rcases hd with rfl | rfl
  · refine .list (n := 7) (by rw [List.length_map]; omega) fun d hd => ?_
    obtain ⟨t, h, rfl⟩ := List.mem_map.mp hd
    exact fine_tg (ht.ok t h)
  · refine .list (n := 7) (by rw [List.length_map]; omega) fun d hd => ?_
    obtain ⟨t, h, rfl⟩ := List.mem_map.mp hd
    exact (fine_hp (hh.ok t h).1).le (by omega)
theorem fine_prs {had : List (List Int × Int)} (h1 : had.length ≤ 40000) (h2 : ∀ p ∈ had, p.1.length ≤ 40000) : Fint 4 (.list (had.map prD)) :=
  .list (n := 3) (by rw [List.length_map]; exact h1) fun d hd => by
    obtain ⟨p, hp, rfl⟩ := List.mem_map.mp hd
    exact (fine_two (fine_mk (h2 p hp)) (.int _ _)).le (by omega)
/-! ### pairs sorted, keys sorted -/
theorem eqv_mk : ∀ a b : List Int, PyData.eqv (mkD a) (mkD b) = decide (a = b) := by
  have all : ∀ a b : List Int, PyData.eqvAll (a.map .int) (b.map .int) = decide (a = b) := by
    intro a
    induction a with
    | nil =>
      intro b
      cases b with
      | nil => simp [PyData.eqvAll]
      | cons y b => simp [PyData.eqvAll]
    | cons x a ih =>
      intro b
      cases b with
      | nil => simp [PyData.eqvAll]
      | cons y b =>
        rw [List.map_cons, List.map_cons]
        simp only [PyData.eqvAll, PyData.eqv, ih b]
        by_cases h1 : x = y <;> by_cases h2 : a = b <;> simp [h1, h2]
  intro a b
  show PyData.eqv (.tuple (a.map .int)) (.tuple (b.map .int)) = _
  simp only [PyData.eqv, all]
theorem alike_mk (a b : List Int) : PySem.W.alike (mkD a) (mkD b) = true := by
  have := PySem.W.alike_ints a b
  simp [PySem.W.alike, mkD, this]
theorem sort_had {had : List (List Int × Int)} (hn : (had.map (·.1)).Nodup) : (had.mergeSort (dataLe false fun p => mkD p.1)) = had.mergeSort (dataLe false prD) := by
  refine PySem.W.sort_congr fun a ha b hb => ?_
  rw [PySem.W.dataLe_eq, PySem.W.dataLe_eq]
  show (!PySem.W.dataLt (mkD b.1) (mkD a.1)) = (!PySem.W.dataLt (.tuple [mkD b.1, .int b.2]) (.tuple [mkD a.1, .int a.2]))
  rw [PySem.W.dataLt_pair (alike_mk b.1 a.1) (by simp [PySem.W.alike]), eqv_mk]
  by_cases e : b.1 = a.1
  · have eab : b = a := by
      obtain ⟨i, hi⟩ := List.mem_iff_getElem?.mp ha
      obtain ⟨j, hj⟩ := List.mem_iff_getElem?.mp hb
      have h1 : (had.map (·.1))[i]? = some a.1 := by rw [List.getElem?_map, hi] ; rfl
      have h2 : (had.map (·.1))[j]? = some a.1 := by rw [List.getElem?_map, hj, ← e] ; rfl
      have hij : i = j := (List.getElem?_inj (List.getElem?_eq_some_iff.mp h1).1 hn).mp (h1.trans h2.symm)
      rw [hij, hj] at hi
      exact Option.some.inj hi
    subst eab
    rw [decide_eq_true rfl, if_pos rfl]
    have e2 : PyData.eqv (.int b.2) (.int b.2) = true := by simp [PyData.eqv]
    rw [if_pos e2]
    have : PySem.W.dataLt (mkD b.1) (mkD b.1) = false := PyProof.Rows.lex_irrefl _
    rw [this]
  · rw [decide_eq_false e, if_neg (by decide)]
/-! ### the number behind the last -/
def lastN (ns : List Int) : Int := ns.getLast?.getD 0
theorem NumsB.next {ns : List Int} (h : NumsB ns) : 0 ≤ lastN ns + 1 ∧ lastN ns + 1 ≤ 3 * (ns.length : Int) + 2 ∧ ∀ m ∈ ns, m < lastN ns + 1 := by
  rcases List.eq_nil_or_concat ns with rfl | ⟨l, x, rfl⟩
  · exact ⟨by decide, by decide, fun m hm => nomatch hm⟩
  · have e : lastN (l.concat x) = x := by unfold lastN; rw [List.concat_eq_append, List.getLast?_concat]; rfl
    rw [e]
    rw [List.concat_eq_append] at h ⊢
    have hb := h.bnd l.length x (by simp)
    refine ⟨by omega, by rw [List.length_append]; simp only [List.length_singleton]; omega, fun m hm => ?_⟩
    rcases List.mem_append.mp hm with z | z
    · have := (List.pairwise_append.mp h.rise).2.2 m z x (by simp)
      omega
    · rw [List.mem_singleton.mp z] ; omega
section
variable {K : PySem.W.Frag} {σ : L2.St} {H : Hp} {td : TE} {a : Addr} {xs : List V} {n : Int}
/-- ([(0, 0)] + xs)[-1][0] + 1 -/
theorem ev_lastNum (hd : Ev td σ H (.ref a)) (hx : H a = some (.lst xs)) (hl : ∀ ys x, xs = ys ++ [x] → ∃ b rest, x = .ref b ∧ TupAt H b (.int n :: rest)) (h0 : xs = [] → n = 0) (hz : xs.length ≤ 1000) :
    Ev (tOp (rI0 fun i j => .int (i + j)) (tOp (rIx K) (tOp (rIx K) (tOp rCat (tLst (tCons (tTupF (tCons (tC (.int 0)) (tCons (tC (.int 0)) tNil))) tNil)) td) (tUn (rU fun i => .int (-i)) (tC (.int 1)))) (tC (.int 0))) (tC (.int 1))) σ H (.int (n + 1)) := by
  refine ev_op ?_ ev_c rv_I0
  intro H1 e Q q
  refine g_op (g_op (g_op (g_lst (g_cons ?_))))
  refine eF_tup (vs := [.int 0, .int 0]) (ea_cons ev_c (ea_cons ev_c ea_nil)) (by show 2 ≤ 100000; decide) fun H2 p e2 _ tp => ?_
  refine ⟨by show 1 ≤ sizeLine; decide, fun l hl' => ?_⟩
  have e3 : Same H2 (upd H2 l (.lst [.ref p])) := Same.new hl'
  have h3 : (upd H2 l (.lst [.ref p])) l = some (.lst [.ref p]) := upd_same
  generalize (upd H2 l (.lst [.ref p])) = H3 at e3 h3 ⊢
  refine hd H3 ((e.trans e2).trans e3) _ fun H4 e4 => ?_
  have E4 := ((e.trans e2).trans e3).trans e4
  refine ⟨l, a, [.ref p], xs, rfl, rfl, e4 _ _ h3, E4 _ _ hx, sz_of (by show 1 + xs.length ≤ 100000; omega), fun g hg => ?_⟩
  have e5 : Same H4 (upd H4 g (.lst ([.ref p] ++ xs))) := Same.new hg
  have h5 : (upd H4 g (.lst ([.ref p] ++ xs))) g = some (.lst ([.ref p] ++ xs)) := upd_same
  generalize (upd H4 g (.lst ([.ref p] ++ xs))) = H5 at e5 h5 ⊢
  have E5 := E4.trans e5
  have fin : ∃ b rest, atI ([V.ref p] ++ xs) (-1) = some (.ref b) ∧ TupAt H5 b (.int n :: rest) := by
    rcases List.eq_nil_or_concat xs with rfl | ⟨ys, x, rfl⟩
    · refine ⟨p, [.int 0], rfl, ?_⟩
      rw [h0 rfl]
      exact tp.mono (Same.ts ((e3.trans e4).trans e5))
    · obtain ⟨b, rest, rfl, hb⟩ := hl ys x (List.concat_eq_append)
      refine ⟨b, rest, ?_, hb.mono (Same.ts E5)⟩
      rw [List.concat_eq_append, ← List.append_assoc]
      exact atI_last _ _
  obtain ⟨b, rest, hb1, hb2⟩ := fin
  refine ⟨1, rfl, .inl ⟨g, _, -1, .ref b, rfl, rfl, SqL.of h5, hb1, .inr (.inl ⟨b, _, 0, .int n, rfl, rfl, hb2.sq, atI_nat (j := 0) rfl, ?_⟩)⟩⟩
  exact q H5 (((e2.trans e3).trans e4).trans e5)
end
end Dm

/-! {k: v for ..} with tuple keys -/
namespace Dm
open PySem PySem.Spec PyProof.Rows L2 Evl
section
variable {X : Cx} {pins : List (Addr × Obj)} {σ : L2.St} {H : Hp} {s : Shared} {a b : Addr} {k : NestedKey} {v : V} {r : Value} {A : Around} {E : Value → Shared → Prop} {kvs : List (NestedKey × V)}
/-- a pair is put by a comprehension -/
theorem n_put {Q : Unit → Shared → Prop} (hu : A.units + 16 < cLine) (I : L2.Inv X pins σ H s) (g : DN X.prog X.w H a kvs) (hb : NK H k b) (hl : kvs.length < sizeLine) (rv : RelV v r)
    (h : ∀ o s', DN X.prog X.w (upd H a o) a (putK kvs k v) → Tst H (upd H a o) → L2.Inv X pins σ (upd H a o) s' → Q () s') : wpAny (model X.prog X.w) A (dictSet a (.ref b) r) Q E s := by
  obtain ⟨xs, ep, e, rel⟩ := g
  obtain ⟨hd, hz, _, dd⟩ := DN.at I.hok e rel
  refine wpAny_dictSet_heap (knd := nestedKind X.prog X.w) (hsz := hz) (by show A.units + 8 < cLine; omega) (hb.is I.hok) dd fun h' dd' hs => ?_
  have rel' := rel.set k hb rv
  have hz' : (storedH xs k b r).length ≤ sizeLine := by rw [← rel'.len]; have := length_putK kvs k v; omega
  obtain ⟨ep', I'⟩ := n_write (t' := s.toks + (nestedKind X.prog X.w).draws k) I e rel' hz' hd dd' hs
  exact h _ _ ⟨_, ep', upd_same, rel'.mono (Tst.dn e)⟩ (Tst.dn e) I'
end
/-- the turns of a comprehension that makes a dict with tuple keys: D the new dict -/
def NTurns (P : Program) (w : World) (J : It) (g : TG) (tt : TT) (tk tv : TE) (vs : List Nat) (σ : L2.St) (D : Addr) (Qd : Hp → Prop) (W : Nat → Nat → Hp → Prop) : Prop := ∀ i m H, W i m H →
  (J.stop i H ∧ Qd H) ∨ (J.go i H ∧ ∃ Nx : Hp → Prop, (∀ H', Nx H' → ∃ m', m' < m ∧ W (i + 1) m' H') ∧ ∀ x H', J.yld i H x H' → g x (wipe σ vs) H' fun σ2 H2 => wipe σ2 vs = wipe σ vs ∧ tt σ2 H2 fun c H3 =>
    if c = true then tk σ2 H3 fun y H4 => tv σ2 H4 fun z H5 => ∃ kvs k b, y = .ref b ∧ NK H5 k b ∧ DN P w H5 D kvs ∧ kvs.length < sizeLine ∧ ∀ u, DN P w (upd H5 D u) D (putK kvs k z) → Tst H5 (upd H5 D u) → Nx (upd H5 D u) else Nx H3)
def tNDc (P : Program) (w : World) (wi : TI) (g : TG) (tt : TT) (tk tv : TE) (vs : List Nat) : TE := fun σ H Q => wi σ H fun J H1 => ∀ D o, H1 D = none → DN P w (upd H1 D o) D [] → ∃ W : Nat → Nat → Hp → Prop, (∃ m, W 0 m (upd H1 D o)) ∧ NTurns P w J g tt tk tv vs σ D (fun H' => Q (.ref D) H') W
section
variable {X : Cx} {kx vx tg iter : Expr} {ifs : List Expr} {scope : Scope} {own : List (Str × Nat)} {pos : Pos} {wi : TI} {g : TG} {tt : TT} {tk tv : TE} {P : Program} {w : World}
theorem dcN_core {pins : List (Addr × Obj)} {s : Shared} {σ : L2.St} {H : Hp} {Q : VK} {pos' : Pos} {use : Option (Value → Sem Unit)} {Qf : Value → Shared → Prop} (hu : X.A.units + 16 < cLine) (calm : X.calm = true) (nd : X.N.Nodup) (I : L2.Inv X pins σ H s) (walk : PI X tg iter wi) (ok : BlkOk X.N X.env.scope scope own)
    (rg : ∀ (s : Shared) (H : Hp) (C : Addr) (cl : List (Str × Addr)) (fp : List Addr), PG (X.blk s H scope (compEnvC scope cl C X.env) fp) tg g) (rt : ∀ (s : Shared) (H : Hp) (C : Addr) (cl : List (Str × Addr)) (fp : List Addr), PTs (X.blk s H scope (compEnvC scope cl C X.env) fp) ifs tt)
    (rk : ∀ (s : Shared) (H : Hp) (C : Addr) (cl : List (Str × Addr)) (fp : List Addr), PE (X.blk s H scope (compEnvC scope cl C X.env) fp) kx tk)
    (re : ∀ (s : Shared) (H : Hp) (C : Addr) (cl : List (Str × Addr)) (fp : List Addr), PE (X.blk s H scope (compEnvC scope cl C X.env) fp) vx tv) (fold : ∀ x, foldedSetIterable iter X.env x = pure x)
    (want : tNDc X.prog X.w wi g tt tk tv (own.map (·.2)) σ H Q)
    (last : ∀ D C s' m H', L2.Inv X pins σ H' s' → Q (.ref D) H' → s'.heap.Ns C m → FpOk X pins H' C → compPost (model X.prog X.w) X.A X.xe use Qf (.ref D) C (.ok .next) s') :
    wpAny (model X.prog X.w) X.A (comprehension (.DictComp kx vx [⟨tg, iter, ifs, 0⟩] scope pos) scope X.env pos' newDict false (eval iter X.env) use) Qf X.xe s := by
  have clo : ∀ y ∈ scope.names, y.2 = .free → ∃ c, X.env.cells.lookup y.1 = some c := fun y hy e => (ok.free y hy e).elim (fun z => I.ok.has _ (.inl z)) fun z => I.ok.has _ (.inr z)
  refine wpAny_comprehension_free rfl fold (closure_ok clo) ok.kind (fun y hy e => by rw [ok.uniq y hy, e]) (thn (walk.run pins s σ H _ I want) fun itv0 s1 got => thn got fun itv s2 got2 => ?_)
  obtain ⟨it, fp, tn, J, Ha, rfl, Ia, T, sta, fpa, turns⟩ := got2
  refine wpAny_newObj_type (newEnv_comp ?_)
  -- the new dict, empty
  obtain ⟨D, hD⟩ : ∃ D, D = s2.heap.objs.size := ⟨_, rfl⟩
  have freeD : Ha D = none := Ia.hok.fresh (Nat.le_of_eq hD.symm)
  obtain ⟨e0, he0⟩ : ∃ e0, e0 = dnO X.prog X.w D [] 0 := ⟨_, rfl⟩
  have dn0 : DN X.prog X.w (upd Ha D e0) D [] := by rw [he0]; exact dn_new 0
  obtain ⟨W, ⟨m0, w0⟩, turn⟩ := turns D e0 freeD dn0
  rw [← hD]
  obtain ⟨sD, hsD⟩ : ∃ sD : Shared, sD = { s2 with heap := s2.heap.push { cls := .type "dict", data := .dict #[] } } := ⟨_, rfl⟩
  have heapD : sD.heap = s2.heap.push { cls := .type "dict", data := .dict #[] } := by rw [hsD]
  have ID : L2.Inv X pins σ (upd Ha D e0) sD := by
    rw [hsD]
    refine Ia.laid (t' := s2.toks) (fun _ _ z => Heap.get?_push_of_some _ z) (Nat.le_of_eq hD.symm) ?_
    rw [he0]
    refine dnO_ok (by rw [hD]; exact beq_eq_false_iff_ne.mpr (Ne.symm (Nat.ne_of_lt Ia.big))) (Nat.zero_le _) List.nodup_nil ⟨_, by rw [hD]; exact Heap.get?_push_size _ rfl, ⟨rfl, rfl, rfl⟩, rfl⟩
  obtain ⟨HD, hHD⟩ : ∃ HD, HD = upd Ha D e0 := ⟨_, rfl⟩
  rw [← hHD] at ID w0 dn0
  have fpD : ∀ c ∈ fp, FpOk X pins HD c ∧ c < sD.heap.objs.size := fun c hc => by
    obtain ⟨oc, ec, _⟩ := T.obj _ _ sta c hc
    have lt := Heap.lt_size ec
    refine ⟨⟨?_, (fpa c hc).2⟩, by rw [heapD, Heap.size_push]; exact Nat.lt_succ_of_lt lt⟩
    rw [hHD, upd_ne (fun z => by rw [z, hD] at lt; exact Nat.lt_irrefl _ lt)]
    exact (fpa c hc).1
  have stD : tn 0 sD.heap := T.keep _ _ _ sta fun c _ o z => by rw [heapD]; exact Heap.get?_push_of_some _ z
  have noneD : ∀ c ∈ fp, HD c = none := fun c hc => (fpD c hc).1.1
  -- the block
  have IB := block_start ID ok nd fpD
  obtain ⟨ce, hce⟩ : ∃ ce, ce = compEnvC scope (cellsFrom (sD.heap.objs.size + 1) scope.names (cloFrom X.env.cells scope.names [])) sD.heap.objs.size X.env := ⟨_, rfl⟩
  have atC : ce.locals = sD.heap.objs.size := by rw [hce]; rfl
  have pg := rg sD HD sD.heap.objs.size (cellsFrom (sD.heap.objs.size + 1) scope.names (cloFrom X.env.cells scope.names [])) fp
  have pt := rt sD HD sD.heap.objs.size (cellsFrom (sD.heap.objs.size + 1) scope.names (cloFrom X.env.cells scope.names [])) fp
  have pk := rk sD HD sD.heap.objs.size (cellsFrom (sD.heap.objs.size + 1) scope.names (cloFrom X.env.cells scope.names [])) fp
  have pv := re sD HD sD.heap.objs.size (cellsFrom (sD.heap.objs.size + 1) scope.names (cloFrom X.env.cells scope.names [])) fp
  rw [← hce] at IB pg pt pk pv
  obtain ⟨sB, hsB⟩ : ∃ sB : Shared, sB = { sD with heap := pushCells (sD.heap.push { cls := .type "dict", data := .dict #[] }) scope.names } := ⟨_, rfl⟩
  rw [← hsB] at IB
  have aim : codeAny (model X.prog X.w) X.A (.compStart (.DictComp kx vx [⟨tg, iter, ifs, 0⟩] scope pos) 0 (.ref it) (.ref D) ce) (compPost (model X.prog X.w) X.A X.xe use Qf (.ref D) sD.heap.objs.size) sB := by
    have stB : tn 0 sB.heap := T.keep _ _ _ stD fun c _ o z => by rw [hsB]; exact pushCells_keeps _ _ _ _ (Heap.get?_push_of_some _ z)
    have fpB : ∀ {σ' : L2.St} {H' : Hp} {s' : Shared}, L2.Inv (X.blk sD HD scope ce fp) [] σ' H' s' → (∀ c ∈ fp, H' c = none) → ∀ c ∈ fp, FpOk (X.blk sD HD scope ce fp) [] H' c := fun {σ' H' s'} I' none' c hc =>
      ⟨none' c hc, (I'.ok.exf c hc).1, I'.ok.exfs c hc, .inl hc, fun x d e => (I'.ok.exf c hc).2 x d e, fun q hq => absurd (show q ∈ ([] : List (Addr × Obj)) from by simpa using hq) (by simp)⟩
    have loop : codeAny (model X.prog X.w) X.A (.compLoop (.DictComp kx vx [⟨tg, iter, ifs, 0⟩] scope pos) 0 (.ref it) (.ref D) ce) (compPost (model X.prog X.w) X.A X.xe use Qf (.ref D) sD.heap.objs.size) sB := by
      refine compLoop_anyD (fun n s' => ∃ i H', L2.Inv (X.blk sD HD scope ce fp) [] (wipe σ (own.map (·.2))) H' s' ∧ tn i s'.heap ∧ (∀ c ∈ fp, H' c = none) ∧ W i n H') ?_ m0 ⟨0, HD, IB, stB, noneD, w0⟩
      rintro n sx ⟨i, Hx, Ix, stx, nx, wx⟩
      rcases turn i n Hx wx with ⟨stop, done⟩ | ⟨go, Nx, again, step⟩
      · refine thnF (T.done (X.blk sD HD scope ce fp) rfl rfl rfl calm i [] sx _ Hx (fun _ _ => False) Ix (fpB Ix nx) stx stop) fun ans sy ⟨isEnd, Iy⟩ => ?_
        subst isEnd
        have Iz : L2.Inv X pins σ Hx sy := ID.call' (ch := fp) Iy.os Iy.base Iy.hok Iy.bare fun c hc => ⟨(fpD c hc).1.2.2.2.1, (fpD c hc).1.2.1, (fpD c hc).1.2.2.2.2.1, (fpD c hc).1.2.2.2.2.2⟩
        have clear : Hx sD.heap.objs.size = none := by
          rw [← atC]
          exact Iy.free
        obtain ⟨m, names, _⟩ := Iy.loc
        have names' : sy.heap.Ns sD.heap.objs.size m := by rw [← atC]; exact names
        exact last D sD.heap.objs.size sy m Hx Iz done names' (ID.fpOk (Nat.le_refl sD.heap.objs.size) clear)
      · refine thnF (T.item (X.blk sD HD scope ce fp) rfl rfl rfl calm i [] sx _ Hx (fun _ _ => False) Ix (fpB Ix nx) stx go) fun ans sy ⟨u, isItem, more⟩ => ?_
        subst isItem
        refine thnF more fun _ sz ⟨x, Hz, Iz, rz, yz, stz, nz⟩ => ?_
        have Ip := Iz.pinned (fpB Iz nz) (T.obj _ _ stz)
        -- how a turn ends
        have close : ∀ {σ8 : L2.St} {s' : Shared} {H' : Hp}, wipe σ8 (own.map (·.2)) = wipe σ (own.map (·.2)) → L2.Inv (X.blk sD HD scope ce fp) ([] ++ pinsAt fp sz.heap) σ8 H' s' → Nx H' →
            ∃ m, m < n ∧ ∃ i H', L2.Inv (X.blk sD HD scope ce fp) [] (wipe σ (own.map (·.2))) H' s' ∧ tn i s'.heap ∧ (∀ c ∈ fp, H' c = none) ∧ W i m H' := fun {σ8 s' H'} same I' nxt => by
          obtain ⟨m', less, w'⟩ := again H' nxt
          have kept : ∀ c ∈ fp, ∀ o, sz.heap.get? c = some o → s'.heap.get? c = some o ∧ H' c = none := fun c hc o z =>
            let y := I'.pin (c, o) (List.mem_append_right _ (List.mem_append_right _ (mem_pinsAt hc z)))
            ⟨y.1, y.2.1⟩
          refine ⟨m', less, i + 1, H', (I'.unpinned (pins := [])).weak (by rw [← same, wipe_length]) (fun j v z => (wipe_some (by rw [same]; exact z)).1), T.keep _ _ _ stz fun c hc o z => (kept c hc o z).1, fun c hc => ?_, w'⟩
          obtain ⟨o, z, _⟩ := T.obj _ _ stz c hc
          exact (kept c hc o z).2
        refine thnF (pg.run _ sz _ Hz x u _ Ip rz (step x Hz yz)) fun _ sq ⟨σq, Hq, Iq, same, more2⟩ => ?_
        refine thnF (pt.run _ sq σq Hq _ Iq more2) fun c sr ⟨Hr, Ir, more3⟩ => ?_
        cases c with
        | false =>
          have go3 : Nx Hr := by simpa only [Bool.false_eq_true, if_false] using more3
          rw [if_neg Bool.false_ne_true]
          exact close same Ir go3
        | true =>
          rw [if_pos rfl] at more3 ⊢
          refine thnF (pk.run _ sr σq Hr _ Ir more3) fun kv st ⟨yk, Ht, It', rkv, more4⟩ => ?_
          refine thnF (pv.run _ st σq Ht _ It' more4) fun vv su ⟨yv, Hu, Iu, rvv, kvs, kk, b, ek, hb, dn, lz, fin⟩ => ?_
          subst ek
          cases rkv
          exact n_put (X := X.blk sD HD scope ce fp) hu Iu dn hb lz rvv fun o sw dnw tw Iw => close same Iw (fin o dnw tw)
    exact codeAny_compStart_dict loop (T.self X.A 0 _ _ _ stB loop)
  rw [hsB, hce, hsD] at aim
  exact aim
theorem pe_dcN (hP : X.prog = P) (hw : X.w = w) (hu : X.A.units + 16 < cLine) (calm : X.calm = true) (nd : X.N.Nodup) (walk : PI X tg iter wi) (ok : BlkOk X.N X.env.scope scope own)
    (rg : ∀ (s : Shared) (H : Hp) (C : Addr) (cl : List (Str × Addr)) (fp : List Addr), PG (X.blk s H scope (compEnvC scope cl C X.env) fp) tg g) (rt : ∀ (s : Shared) (H : Hp) (C : Addr) (cl : List (Str × Addr)) (fp : List Addr), PTs (X.blk s H scope (compEnvC scope cl C X.env) fp) ifs tt)
    (rk : ∀ (s : Shared) (H : Hp) (C : Addr) (cl : List (Str × Addr)) (fp : List Addr), PE (X.blk s H scope (compEnvC scope cl C X.env) fp) kx tk)
    (re : ∀ (s : Shared) (H : Hp) (C : Addr) (cl : List (Str × Addr)) (fp : List Addr), PE (X.blk s H scope (compEnvC scope cl C X.env) fp) vx tv) (fold : ∀ x, foldedSetIterable iter X.env x = pure x := by intro _; rfl) :
    PE X (.DictComp kx vx [⟨tg, iter, ifs, 0⟩] scope pos) (tNDc P w wi g tt tk tv (own.map (·.2))) := by
  subst hP hw
  refine ⟨fun pins s σ H Q I want => ?_⟩
  rw [arm_eval_DictComp]
  refine dcN_core hu calm nd I walk ok rg rt rk re fold want fun D C s' m H' I' q names f => ⟨m, names, fun h'' sb => ?_⟩
  obtain ⟨f0, f1, f2, f3, f4, f5⟩ := f
  exact ⟨.ref D, H', I'.turned (t' := s'.toks) (fun c o hc z => (sb.2 c hc).trans z) f0 f1 f3 f4 f5, rfl, q⟩
/-- y = {..}: the new dict is stored while the block's own frame stands -/
theorem sw_dict {gs : List Comprehension} {py : Pos} {y : Str} {l : Nat} {env : Env} (h1 : env.scope.kind = .function) (h2 : env.scope.names.lookup y = some .local) (h3 : (py.line == pos.line) = true)
    (h4 : (scope.names.any fun (n, k) => n == y && (k == .local || k == .cell)) = false) : swapsWith (.DictComp kx vx gs scope pos) (some (.Name y py)) l env = pure true := by
  have e1 : env.kindOf y = some .local := h2
  have e2 : env.blockKind = .function := by unfold Env.blockKind; rw [h1]; rfl
  unfold swapsWith
  simp only [e2, e1, h4, Expr.pos, h3]
  rfl
theorem ps_setDcN {i : Nat} {y : Str} {py spos : Pos} (hP : X.prog = P) (hw : X.w = w) (hu : X.A.units + 16 < cLine) (calm : X.calm = true) (nd : X.N.Nodup) (hy : X.N[i]? = some y) (hyl : X.env.scope.names.lookup y = some .local)
    (sw : swapsWith (.DictComp kx vx [⟨tg, iter, ifs, 0⟩] scope pos) (some (.Name y py)) spos.line X.env = pure true) (walk : PI X tg iter wi) (ok : BlkOk X.N X.env.scope scope own)
    (rg : ∀ (s : Shared) (H : Hp) (C : Addr) (cl : List (Str × Addr)) (fp : List Addr), PG (X.blk s H scope (compEnvC scope cl C X.env) fp) tg g) (rt : ∀ (s : Shared) (H : Hp) (C : Addr) (cl : List (Str × Addr)) (fp : List Addr), PTs (X.blk s H scope (compEnvC scope cl C X.env) fp) ifs tt)
    (rk : ∀ (s : Shared) (H : Hp) (C : Addr) (cl : List (Str × Addr)) (fp : List Addr), PE (X.blk s H scope (compEnvC scope cl C X.env) fp) kx tk)
    (re : ∀ (s : Shared) (H : Hp) (C : Addr) (cl : List (Str × Addr)) (fp : List Addr), PE (X.blk s H scope (compEnvC scope cl C X.env) fp) vx tv) (fold : ∀ x, foldedSetIterable iter X.env x = pure x := by intro _; rfl) :
    PS X (.Assign [.Name y py] (.DictComp kx vx [⟨tg, iter, ifs, 0⟩] scope pos) spos) (tAsg (tNDc P w wi g tt tk tv (own.map (·.2))) (gName i)) := by
  subst hP hw
  refine ⟨fun pins s σ H D I want => ?_⟩
  rw [exec_Assign_Name_used _ _ _ _ sw]
  refine wpAny_bind (wpAny_standAt (wpAny_bind ?_))
  show wpAny _ X.A (do let _ ← comprehension (.DictComp kx vx [⟨tg, iter, ifs, 0⟩] scope pos) scope X.env (firstIterPos [⟨tg, iter, ifs, 0⟩] pos) newDict false (eval iter X.env) (some (assign (.Name y py) X.env))) _ _ s
  have want' : tNDc X.prog X.w wi g tt tk tv (own.map (·.2)) σ H (fun x H1 => gName i x σ H1 D.nx) := want
  refine wpAny_bind (thn (dcN_core (Qf := fun _ s' => SP X pins D .next s') hu calm nd I walk ok rg rt rk re fold want' fun L C s' m H' I' q names f => ?_) fun _ s' done => wpAny_pure (wpAny_pure done))
  show wpAny _ _ (assign (.Name y py) X.env (.ref L)) _ _ _
  refine wpAny_assign_Name (store_ok2 (v := V.ref L) I' nd hy (.inl hyl) rfl (fun s2 I2 ⟨a, sb, ha⟩ => ?_) (.inr hyl))
  obtain ⟨f0, f1, f2, f3, f4, f5⟩ := f
  have apart : C ≠ a := ha.elim (fun z => by rw [z]; exact f1) fun z e => f4 y a z e.symm
  exact ⟨m, names.sameBut sb apart, fun h3 sb3 => ⟨_, H', I2.turned (t' := s2.toks) (fun c o hc e => (sb3.2 c hc).trans e) f0 f1 f3 f4 f5, q⟩⟩
end
end Dm

namespace Dm
open PySem PySem.Spec PyProof.Rows L2 Evl
/-! ### len(d), and holdings that can be -/
def rNLen (P : Program) (w : World) : List V → Hp → VK → Prop := fun vs H Q => ∃ a kvs, vs = [.ref a] ∧ DN P w H a kvs ∧ Q (.int (kvs.length : Int)) H
theorem cr_nlen {X : Cx} {P : Program} {w : World} (hP : X.prog = P) (hw : X.w = w) : CallR X (.builtin "len") (rNLen P w) := by
  subst hP hw
  intro pins s σ H xs us Q I r h
  obtain ⟨a, kvs, rfl, ⟨ys, ep, e, rel⟩, q⟩ := h
  obtain ⟨u, rfl, rx⟩ := vals1 r
  cases rx
  obtain ⟨hd, hz, _, dd⟩ := DN.at I.hok e rel
  have hl : (pairsH ys).length = kvs.length := by rw [pairsH_length, rel.len]
  have hz' : kvs.length ≤ sizeLine := by rw [rel.len]; exact hz
  rw [sizeLine_eq] at hz'
  refine call_len_slot (n := (kvs.length : Int)) dd.typeIs PySem.F.slot_dict_len (fun Q' hq => ?_) (by omega) (by omega) ⟨.int (kvs.length : Int), H, I.tok _, ⟨_, rfl⟩, q⟩
  refine len_keyed hd ⟨ys, dd, rfl⟩ ?_
  rw [hl]
  exact hq
structure CanBe (prs : List (List Int × Int)) (rm : Int → Int) (held : List (List Int × Int)) : Prop where
  nd : (held.map (·.1)).Nodup
  mem : ∀ p ∈ held, p ∈ prs
  room : ∀ n, cntM held n = 0 ∨ (cntM held n : Int) ≤ rm n
  par : ∀ p ∈ held, p.1.length = 1 ∨ p.1.dropLast ∈ held.map (·.1)
theorem CanBe.nil {prs : List (List Int × Int)} {rm : Int → Int} : CanBe prs rm [] := ⟨List.nodup_nil, (fun _ h => nomatch h), (fun n => Or.inl rfl), (fun _ h => nomatch h)⟩
theorem can_new {rm : Int → Int} {had : List (List Int × Int)} {p : List Int × Int} (h : canM rm had p = true) : p.1 ∉ had.map (·.1) ∧ (p.1.length = 1 ∨ p.1.dropLast ∈ had.map (·.1)) ∧ (cntM had p.2 : Int) < rm p.2 := by
  unfold canM at h
  rw [Bool.and_eq_true, Bool.and_eq_true] at h
  obtain ⟨h1, h2, h3⟩ := h
  refine ⟨fun z => by rw [decide_eq_true z] at h1; exact absurd h1 (by decide), ?_, of_decide_eq_true h3⟩
  rcases Bool.or_eq_true_iff.mp h2 with z | z
  · exact .inl (of_decide_eq_true z)
  · exact .inr (of_decide_eq_true z)
theorem CanBe.snoc {prs had : List (List Int × Int)} {rm : Int → Int} (c : CanBe prs rm had) {p : List Int × Int} (hp : p ∈ prs) (h : canM rm had p = true) : CanBe prs rm (had ++ [p]) := by
  obtain ⟨h1, h2, h3⟩ := can_new h
  refine ⟨?_, fun q hq => ?_, fun n => ?_, fun q hq => ?_⟩
  · rw [List.map_append, List.nodup_append]
    exact ⟨c.nd, by simp, fun a ha b hb e => h1 (by have z : b = p.1 := List.mem_singleton.mp hb; rw [← z, ← e]; exact ha)⟩
  · rcases List.mem_append.mp hq with z | z
    · exact c.mem q z
    · rw [List.mem_singleton.mp z] ; exact hp
  · rw [cnt_snoc]
    by_cases e : p.2 = n
    · subst e
      rw [if_pos rfl]
      right
      omega
    · rw [if_neg e] ; exact c.room n
  · have up : ∀ x, x ∈ had.map (·.1) → x ∈ (had ++ [p]).map (·.1) := fun x hx => by rw [List.map_append]; exact List.mem_append_left _ hx
    rcases List.mem_append.mp hq with z | z
    · rcases c.par q z with y | y
      · exact .inl y
      · exact .inr (up _ y)
    · rw [List.mem_singleton.mp z]
      rcases h2 with y | y
      · exact .inl y
      · exact .inr (up _ y)
theorem CanBe.perm {prs a b : List (List Int × Int)} {rm : Int → Int} (c : CanBe prs rm a) (h : a.Perm b) : CanBe prs rm b :=
  ⟨(h.map (·.1)).nodup_iff.mp c.nd, fun p hp => c.mem p (h.mem_iff.mpr hp), fun n => by
    have e : cntM b n = cntM a n := ((h.map (fun p : List Int × Int => p.2)).count_eq n).symm
    rw [e] ; exact c.room n, fun p hp => (c.par p (h.mem_iff.mpr hp)).imp id fun z => (h.map (·.1)).mem_iff.mp z⟩
theorem Tps.erase {H : Hp} : ∀ {vs : List V} {ds : List PyData} (i : Nat), Tps H vs ds → Tps H (vs.eraseIdx i) (ds.eraseIdx i)
  | _, _, _, .nil => .nil
  | _, _, 0, .cons _ t => t
  | _, _, i + 1, .cons h t => .cons h (Tps.erase i t)
theorem map_erase {α β : Type} (f : α → β) : ∀ (l : List α) (j : Nat), (l.map f).eraseIdx j = (l.eraseIdx j).map f
  | [], _ => rfl
  | _ :: _, 0 => rfl
  | a :: l, j + 1 => by rw [List.map_cons, List.eraseIdx_cons_succ, List.eraseIdx_cons_succ, List.map_cons, map_erase f l j]
theorem perm_erase {α : Type} : ∀ {l : List α} {i : Nat} {x : α}, l[i]? = some x → (x :: l.eraseIdx i).Perm l
  | [], i, x, h => by simp at h
  | a :: l, 0, x, h => by
    have e : a = x := Option.some.inj h
    subst e ; exact List.Perm.refl _
  | a :: l, i + 1, x, h => by
    rw [List.eraseIdx_cons_succ]
    exact (List.Perm.swap a x _).trans ((perm_erase (by simpa using h)).cons a)
theorem seq_nat {j n : Nat} (h : j < n) : seqIndex? (j : Int) n = some j := by
  have := atI_get (xs := List.range n) (i := (j : Int)) (v := j) (atI_nat (by rw [List.getElem?_range h]))
  obtain ⟨k, h1, h2, h3, _⟩ := this
  rw [List.length_range] at h1
  rw [h1]
  have : k = j := by
    rw [List.getElem?_range (by rw [List.length_range] at h3; exact h3)] at h2
    exact Option.some.inj h2
  rw [this]
end Dm

namespace Dm
open PySem PySem.Spec PyProof.Rows L2 Evl
section
variable {K : PySem.W.Frag} {σ : L2.St} {H : Hp} {tl : TA} {h c : Addr} {Q : VK} {E : XK}
theorem nx_call {k : Int} (ht : EvA tl σ H [.ref h, .int k]) (dr : Dr H h c) (h0 : 0 < k) (h1 : k < 1000000) (q : ∀ (H' : Hp) (r : Int), Dr H' h c → Mv [h, c] H H' → 0 ≤ r → r < k → Q (.int r) H') : tCall spNext [] E tl σ H Q :=
  g_call (ht H (Ex.refl H) _ fun H1 e1 => ⟨h, c, k, rfl, dr.mono e1, h0, h1, fun H' r d m => q H' r d ((Mv.of e1).trans m)⟩)
/-- for .. in range(e), e drawn -/
theorem s_rng1 {te : TE} {g : TG} {tb : L2.TS} {D : Ends}
    (q : te σ H fun v H1 => ∃ j : Int, [v] = [V.int j] ∧ -(2 ^ 62) ≤ j ∧ j < 2 ^ 62 ∧ ∃ W : Nat → Nat → L2.St → Hp → Prop, (∃ m, W 0 m σ H1) ∧ ∀ i m σ H, W i m σ H → ((Itr 0 j.toNat).stop i H ∧ D.nx σ H) ∨
      ((Itr 0 j.toNat).go i H ∧ ∃ N : L2.St → Hp → Prop, (∀ σ' H', N σ' H' → ∃ m', m' < m ∧ W (i + 1) m' σ' H') ∧ ∀ x H', (Itr 0 j.toNat).yld i H x H' → g x σ H' fun σ2 H2 => tb { D with nx := N, ct := N, bk := D.nx } σ2 H2)) :
    tFor (iRng1 (tCons te tNil)) g tb D σ H := q
theorem eqv_nilL (ds : List PyData) : PyData.eqv (.list ds) (.list []) = decide (ds = []) := by
  cases ds with
  | nil => simp only [PyData.eqv, PyData.eqvAll]; rfl
  | cons d ds => simp only [PyData.eqv, PyData.eqvAll]; rfl
end
section
variable {X : Cx} {K : PySem.W.Frag} {o e : Expr} {es : List Expr} {to : TE} {t : TA} {name : Str} {apos cpos : Pos} {T id : String} {r : V → List V → Hp → VK → Prop}
/-- a method with arguments, the written part by itself -/
theorem pe_bmK (hK : X.K = K) (pa : PlainAttrs T) (slot : Slot T name id) (hty : typeOf (.builtin id) = pure (.type "method_descriptor")) (hm : MtR X id r) (ho : PE X o to) (ha : PA X (e :: es) t)
    (q1 : attributeBase o name X.env (eval o X.env) = eval o X.env := by rfl)
    (q2 : ((backTo cpos (starEach (e :: es) X.env)).all (fun x => !x.1) && (backToKw cpos (keywordEach [] X.env)).all (fun x => x.1.isSome)
      && decide ((e :: es).length + ([] : List Keyword).length + (if ([] : List Keyword).isEmpty then 0 else 1) < 30)) = true := by rfl)
    (q3 : (apos.endLine == cpos.line) = true := by rfl) (q4 : starEach (e :: es) X.env = (false, eval e X.env) :: starEach es X.env := by rfl) (q5 : (backTo cpos (starEach es X.env)).any (·.1) = false := by rfl) :
    PE X (.Call (.Attribute o name apos) (e :: es) [] cpos) (tBM K T r to t) := hK ▸ pe_bm pa slot hty hm ho ha q1 q2 q3 q4 q5
end
end Dm

namespace Dm
open PySem PySem.Spec PyProof.Rows L2 Evl
/-! ### d.get(k, x); pairs (id, helper) as keys -/
def rNGetOr (P : Program) (w : World) : V → List V → Hp → VK → Prop := fun x vs H Q => ∃ a kvs k b y, x = .ref a ∧ vs = [.ref b, y] ∧ DN P w H a kvs ∧ NK H k b ∧ Q ((valV kvs k).getD y) H
theorem mt_ngetOr {X : Cx} {P : Program} {w : World} (hP : X.prog = P) (hw : X.w = w) (hu : X.A.units + 16 < cLine) : MtR X "dict.get" (rNGetOr P w) := by
  subst hP hw
  intro pins s σ H x vs v us Q I rx rs h
  obtain ⟨a, kvs, k, b, y, rfl, rfl, ⟨ys, ep, e, rel⟩, hb, q⟩ := h
  cases rx
  obtain ⟨u1, u2, rfl, r1, r2⟩ := vals2 rs
  cases r1
  obtain ⟨hd, hz, _, dd⟩ := DN.at I.hok e rel
  refine getOr_keyed (n_room hu) (hb.is I.hok) hd ⟨ys, dd, rfl⟩ ?_
  rw [valueAt_pairsH]
  exact ⟨(valV kvs k).getD y, H, I.tok _, RelO.getD (rel.val k) r2, q⟩
def pairK (p : List Int × Int) : NestedKey := .tup [idK p.1, .num p.2]
theorem pairK_data (p : List Int × Int) : (pairK p).data = prD p := by
  show NestedKey.data (.tup [idK p.1, .num p.2]) = .tuple [mkD p.1, .int p.2]
  simp only [NestedKey.data, NestedKey.datas, idK_data]
theorem pairK_inj {p q : List Int × Int} (h : pairK p = pairK q) : p = q := by
  unfold pairK at h
  injection h with h
  injection h with h1 h2
  injection h2 with h2 _
  injection h2 with h2
  exact Prod.ext (idK_inj h1) h2
theorem nk_pair {H : Hp} {p : List Int × Int} {b : Addr} (h : Tp H (.ref b) (prD p)) : NK H (pairK p) b := ⟨by rw [pairK_data]; exact h, by
  show NestedKey.depth (.tup [idK p.1, .num p.2]) ≤ 8
  simp only [NestedKey.depth, NestedKey.depthAll, idK_depth]
  decide⟩
section
variable {P : Program} {w : World} {K : PySem.W.Frag} {σ : L2.St} {H : Hp} {ta td : TE} {tl : TA} {a b : Addr} {k : NestedKey} {kvs : List (NestedKey × V)} {nm : List Int} {n : Int}
/-- (id, helper) in d -/
theorem ev_ninPair (h : EvA tl σ H [.ref b, .int n]) (hb : Tp H (.ref b) (mkD nm)) (hd : Ev td σ H (.ref a)) (g : DN P w H a kvs) : Ev (tNIn P w (tTupF tl) td) σ H (.bl (valV kvs (pairK (nm, n))).isSome) := fun H1 e Q q =>
  eF_tup (h.mono e) (by show 2 ≤ 100000; decide) fun H2 p e2 _ tp => hd H2 (e.trans e2) _ fun H3 e3 =>
    ⟨a, kvs, pairK (nm, n), p, rfl, rfl, g.same ((e.trans e2).trans e3), nk_pair (Tp.mono (Same.ts e3) (.tup tp (.cons (hb.mono (Same.ts (e.trans e2))) (.cons (.int n) .nil)))), q H3 (e2.trans e3)⟩
/-- a comprehension over a tuple that is made for it -/
theorem el_lcTN {t : TT} {te tm : TE} {xs : List V} {j : Nat} {vs : List Nat} (f : Nat → Bool) (g : Nat → V) (hm : ∀ H1, Same H H1 → ∀ Q : VK, (∀ H2 p, Same H1 H2 → TupAt H2 p xs → Q (.ref p) H2) → tm σ H1 Q) (hz : xs.length ≤ 40000) (hw : ∀ x, wipe ((wipe σ vs).set j (some x)) vs = wipe σ vs)
    (ht : ∀ (i : Nat) (x : V) H1, Ex H H1 → xs[i]? = some x → EvT t ((wipe σ vs).set j (some x)) H1 (f i)) (he : ∀ (i : Nat) (x : V) H1, Ex H H1 → xs[i]? = some x → f i = true → Ev te ((wipe σ vs).set j (some x)) H1 (g i)) :
    EvL (tLc (iTup K tm) (gName j) t te vs) σ H (given xs.length f g) := fun H0 e Q q => hm H0 e _ fun H1 p e1 hx => ⟨p, rfl, ⟨xs, hx.sq⟩, fun D hD =>
  lc_tup (xs := xs) (Cw H1 f g D) ⟨hD, Ex.new hD, upd_same⟩ (fun i H' _ c => (hx.mono (Same.ts c.2.1)).sq) (fun i x H' hi c => ⟨hw x, cw_turn c (by have := (List.getElem?_eq_some_iff.mp hi).1; omega) (ht i x H1 (e.trans e1) hi) (fun hf => he i x H1 (e.trans e1) hi hf)⟩)
    (fun H' c => q D H' (fresh_back e1 c.1) (e1.trans c.2.1) c.2.2)⟩
end
end Dm

namespace Dm
open PySem PySem.Spec PyProof.Rows L2 Evl
section
variable {P : Program} {w : World} {K : PySem.W.Frag} {σ : L2.St} {H : Hp} {td ty : TE} {a b : Addr} {k : NestedKey} {kvs : List (NestedKey × V)} {xs : List V}
theorem ev_nin (hy : Ev ty σ H (.ref b)) (hd : Ev td σ H (.ref a)) (g : DN P w H a kvs) (hb : NK H k b) : Ev (tNIn P w ty td) σ H (.bl (valV kvs k).isSome) := fun H1 e Q q =>
  hy H1 e _ fun H2 e2 => hd H2 (e.trans e2) _ fun H3 e3 => ⟨a, kvs, k, b, rfl, rfl, g.same ((e.trans e2).trans e3), hb.mono (Same.ts ((e.trans e2).trans e3)), q H3 (e2.trans e3)⟩
/-- {k: v for .. in a list}, keys tuples -/
theorem ndc_list {g : TG} {tt : TT} {tk tv : TE} {vs : List Nat} {H1 : Hp} {D : Addr} {o : HO} {Qd : Hp → Prop} (Pv : Nat → Hp → Prop) (h0 : Pv 0 (upd H1 D o)) (hl : ∀ i H, i ≤ xs.length → Pv i H → SqL K H a xs)
    (hs : ∀ i x H, xs[i]? = some x → Pv i H → g x (wipe σ vs) H fun σ2 H2 => wipe σ2 vs = wipe σ vs ∧ tt σ2 H2 fun c H3 =>
      if c = true then tk σ2 H3 fun y H4 => tv σ2 H4 fun z H5 => ∃ kvs k b, y = .ref b ∧ NK H5 k b ∧ DN P w H5 D kvs ∧ kvs.length < sizeLine ∧ ∀ u, DN P w (upd H5 D u) D (putK kvs k z) → Tst H5 (upd H5 D u) → Pv (i + 1) (upd H5 D u) else Pv (i + 1) H3) (hd : ∀ H, Pv xs.length H → Qd H) :
    ∃ W : Nat → Nat → Hp → Prop, (∃ m, W 0 m (upd H1 D o)) ∧ NTurns P w (Itl K a) g tt tk tv vs σ D Qd W := by
  refine ⟨fun i m H => m = xs.length - i ∧ i ≤ xs.length ∧ Pv i H, ⟨xs.length, rfl, Nat.zero_le _, h0⟩, fun i m H ⟨em, hi, p⟩ => ?_⟩
  have q := hl i H hi p
  by_cases hlt : i < xs.length
  · refine .inr ⟨⟨xs, xs[i], q, List.getElem?_eq_getElem hlt⟩, Pv (i + 1), fun H' p' => ⟨xs.length - (i + 1), by omega, rfl, hlt, p'⟩, fun x H' y => ?_⟩
    obtain ⟨e, y⟩ := y
    subst e
    exact hs i x _ (y xs q) p
  · have e : i = xs.length := by omega
    subst e
    exact .inl ⟨⟨xs, q, Nat.le_refl _⟩, hd H p⟩
/-- for .. in enumerate(a list) -/
theorem for_enumL {g : TG} {tb : L2.TS} {D : Ends} (Pv : Nat → L2.St → Hp → Prop) (h0 : Pv 0 σ H) (hl : ∀ i σ H, i ≤ xs.length → Pv i σ H → SqL K H a xs)
    (hs : ∀ (i : Nat) (x : V) (T : Addr) σ H, xs[i]? = some x → Pv i σ H → H T = none → g (.ref T) σ (upd H T (.tup [.int (i : Nat), x])) fun σ2 H2 => tb { D with nx := Pv (i + 1), ct := Pv (i + 1), bk := D.nx } σ2 H2) (hd : ∀ σ H, Pv xs.length σ H → D.nx σ H) :
    ∃ W : Nat → Nat → L2.St → Hp → Prop, (∃ m, W 0 m σ H) ∧ ∀ i m σ H, W i m σ H →
      ((Ite K a).stop i H ∧ D.nx σ H) ∨ ((Ite K a).go i H ∧ ∃ N : L2.St → Hp → Prop, (∀ σ' H', N σ' H' → ∃ m', m' < m ∧ W (i + 1) m' σ' H') ∧ ∀ x H', (Ite K a).yld i H x H' → g x σ H' fun σ2 H2 => tb { D with nx := N, ct := N, bk := D.nx } σ2 H2) :=
  for_any (J := Ite K a) (n := xs.length) Pv h0 (fun i σ H hi p => ⟨xs, xs[i], hl i σ H (Nat.le_of_lt hi) p, List.getElem?_eq_getElem hi⟩) (fun σ H p => ⟨xs, hl _ σ H (Nat.le_refl _) p, Nat.le_refl _⟩) (fun i v σ H H' hi p y => by
    obtain ⟨T, x, rfl, hT, rfl, hx⟩ := y
    exact hs i x T σ H (hx xs (hl i σ H (Nat.le_of_lt hi) p)) p hT) hd
end
theorem known_put {kvs : List (NestedKey × V)} {ps : List (List Int × Int)} {p : List Int × Int} {v : V} (h : ∀ q, (valV kvs (pairK q)).isSome = decide (q ∈ ps)) (q : List Int × Int) : (valV (putK kvs (pairK p) v) (pairK q)).isSome = decide (q ∈ ps ++ [p]) := by
  rw [valV_put]
  by_cases e : q = p
  · rw [if_pos (by rw [e]), decide_eq_true (by rw [e]; simp)] ; rfl
  · rw [if_neg (fun z => e (pairK_inj z)), h q, Bool.eq_iff_iff, decide_eq_true_iff, decide_eq_true_iff, List.mem_append, List.mem_singleton]
    exact ⟨.inl, fun z => z.resolve_right e⟩
theorem place_put {kvs : List (NestedKey × V)} {ns : List (List Int)} {n : List Int} {v : V} (h : ∀ q, (valV kvs (idK q)).isSome = decide (q ∈ ns)) (q : List Int) : (valV (putK kvs (idK n) v) (idK q)).isSome = decide (q ∈ ns ++ [n]) := by
  rw [valV_put]
  by_cases e : q = n
  · rw [if_pos (by rw [e]), decide_eq_true (by rw [e]; simp)] ; rfl
  · rw [if_neg (fun z => e (idK_inj z)), h q, Bool.eq_iff_iff, decide_eq_true_iff, decide_eq_true_iff, List.mem_append, List.mem_singleton]
    exact ⟨.inl, fun z => z.resolve_right e⟩
end Dm

namespace Dm
open PySem PySem.Spec PyProof.Rows L2 Evl
section
variable {X : Cx} {kx vx tg iter : Expr} {ifs : List Expr} {scope : Scope} {own : List (Str × Nat)} {pos : Pos} {wi : TI} {g : TG} {tt : TT} {tk tv : TE}
/-- y = {k: v for ..}, keys numbers or texts, stored by name -/
theorem ps_setDcK {i : Nat} {y : Str} {py spos : Pos} (calm : X.calm = true) (nd : X.N.Nodup) (hy : X.N[i]? = some y) (hyl : X.env.scope.names.lookup y = some .local)
    (sw : swapsWith (.DictComp kx vx [⟨tg, iter, ifs, 0⟩] scope pos) (some (.Name y py)) spos.line X.env = pure true) (walk : PI X tg iter wi) (ok : BlkOk X.N X.env.scope scope own)
    (rg : ∀ (s : Shared) (H : Hp) (C : Addr) (cl : List (Str × Addr)) (fp : List Addr), PG (X.blk s H scope (compEnvC scope cl C X.env) fp) tg g) (rt : ∀ (s : Shared) (H : Hp) (C : Addr) (cl : List (Str × Addr)) (fp : List Addr), PTs (X.blk s H scope (compEnvC scope cl C X.env) fp) ifs tt)
    (rk : ∀ (s : Shared) (H : Hp) (C : Addr) (cl : List (Str × Addr)) (fp : List Addr), PE (X.blk s H scope (compEnvC scope cl C X.env) fp) kx tk)
    (re : ∀ (s : Shared) (H : Hp) (C : Addr) (cl : List (Str × Addr)) (fp : List Addr), PE (X.blk s H scope (compEnvC scope cl C X.env) fp) vx tv) (fold : ∀ x, foldedSetIterable iter X.env x = pure x := by intro _; rfl) :
    PS X (.Assign [.Name y py] (.DictComp kx vx [⟨tg, iter, ifs, 0⟩] scope pos) spos) (tAsg (tDc wi g tt tk tv (own.map (·.2))) (gName i)) := by
  refine ⟨fun pins s σ H D I want => ?_⟩
  rw [exec_Assign_Name_used _ _ _ _ sw]
  refine wpAny_bind (wpAny_standAt (wpAny_bind ?_))
  show wpAny _ X.A (do let _ ← comprehension (.DictComp kx vx [⟨tg, iter, ifs, 0⟩] scope pos) scope X.env (firstIterPos [⟨tg, iter, ifs, 0⟩] pos) newDict false (eval iter X.env) (some (assign (.Name y py) X.env))) _ _ s
  have want' : tDc wi g tt tk tv (own.map (·.2)) σ H (fun x H1 => gName i x σ H1 D.nx) := want
  refine wpAny_bind (thn (dc_core (Qf := fun _ s' => SP X pins D .next s') calm nd I walk ok rg rt rk re fold want' fun L C s' m H' I' q names f => ?_) fun _ s' done => wpAny_pure (wpAny_pure done))
  show wpAny _ _ (assign (.Name y py) X.env (.ref L)) _ _ _
  refine wpAny_assign_Name (store_ok2 (v := V.ref L) I' nd hy (.inl hyl) rfl (fun s2 I2 ⟨a, sb, ha⟩ => ?_) (.inr hyl))
  obtain ⟨f0, f1, f2, f3, f4, f5⟩ := f
  have apart : C ≠ a := ha.elim (fun z => by rw [z]; exact f1) fun z e => f4 y a z e.symm
  exact ⟨m, names.sameBut sb apart, fun h3 sb3 => ⟨_, H', I2.turned (t' := s2.toks) (fun c o hc e => (sb3.2 c hc).trans e) f0 f1 f3 f4 f5, q⟩⟩
end
end Dm

/-! a lambda that captures nothing: made, handed on, called -/
namespace Dm
open PySem PySem.Spec PyProof.Rows L2 Evl
abbrev CodeO := LamX.CodeO
abbrev TabS := LamX.TabS
abbrev TabB := LamX.TabB
/-- the function object of a lambda at f, its code object at c -/
def LamO (q : Str) (prm : Arguments) (bd : Expr) (sc : Scope) (f c : Addr) : HO := .ext fun h => ∃ pm ctv, h.get? f = some (PySem.W.kla_obj "<lambda>" q prm bd sc [] pm c ctv)
def LamAt (q : Str) (prm : Arguments) (bd : Expr) (sc : Scope) (H : Hp) (f : Addr) : Prop := ∃ c, H f = some (LamO q prm bd sc f c) ∧ H c = some (CodeO c q)
theorem LamAt.same {q : Str} {prm : Arguments} {bd : Expr} {sc : Scope} {H H' : Hp} {f : Addr} (e : Same H H') (l : LamAt q prm bd sc H f) : LamAt q prm bd sc H' f := let ⟨c, h1, h2⟩ := l; ⟨c, e _ _ h1, e _ _ h2⟩
/-- what is in M is no thing that is described by a predicate -/
def Plain (H : Hp) (M : List Addr) : Prop := ∀ a ∈ M, ∀ φ, H a ≠ some (.ext φ)
theorem LamAt.mv {q : Str} {prm : Arguments} {bd : Expr} {sc : Scope} {H H' : Hp} {f : Addr} {M : List Addr} (m : Mv M H H') (pl : Plain H M) (l : LamAt q prm bd sc H f) : LamAt q prm bd sc H' f :=
  let ⟨c, h1, h2⟩ := l
  ⟨c, m.fr _ _ (fun z => pl _ z _ h1) h1, m.fr _ _ (fun z => pl _ z _ h2) h2⟩
theorem TabS.mv {H H' : Hp} {P : Addr} {q : Str} {M : List Addr} (m : Mv M H H') (pl : Plain H M) (hP : P ∉ M) (t : TabS H P q) : TabS H' P q := by
  obtain ⟨ps, h1, h2, h3⟩ := t
  refine ⟨ps, m.fr _ _ hP h1, h2, fun pos cv hc => ?_⟩
  obtain ⟨c, e1, e2⟩ := h3 pos cv hc
  exact ⟨c, e1, m.fr _ _ (fun z => pl _ z _ e2) e2⟩
theorem clo_nil (cells : List (Str × Addr)) : ∀ (names : List (Str × NameKind)), (∀ y ∈ names, y.2 ≠ .free) → cloFrom cells names [] = []
  | [], _ => rfl
  | (n, k) :: r, h => by
    have hk : (k == NameKind.free) = false := by
      have := h (n, k) (by simp)
      cases k <;> first | rfl | exact absurd rfl this
    show (if k == NameKind.free then _ else _) = _
    rw [hk, if_neg Bool.false_ne_true]
    exact clo_nil cells r fun y hy => h y (by simp [hy])
def tLamN (P : Addr) (q : Str) (prm : Arguments) (bd : Expr) (sc : Scope) : TE := fun σ H Q => TabS H P q ∧ ∀ H1 f, Mv [P] H H1 → TabS H1 P q → H f = none → LamAt q prm bd sc H1 f → Q (.ref f) H1
section
variable {X : Cx} {prm : Arguments} {bd : Expr} {sc : Scope} {q : Str} {c P : Addr} {pos : Pos}
theorem lamO_ok {Pr : Program} {w : World} {H : Hp} {h : Heap} {f c : Addr} {pm ctv : Value} (e : h.get? f = some (PySem.W.kla_obj "<lambda>" q prm bd sc [] pm c ctv)) : ObjOk Pr w H h f (LamO q prm bd sc f c) :=
  ⟨⟨pm, ctv, e⟩, ⟨_, e⟩, fun h1 h2 ⟨pm, ctv, e1⟩ st => ⟨pm, ctv, st _ e1⟩⟩
theorem pe_lamN (TB : TabB X.base X.mg c P) (hcode : X.env.code = .ref c) (hdef : defaultsOf prm X.env = ([], [])) (hfree : ∀ y ∈ sc.names, y.2 ≠ .free) (hq : X.env.qual ++ "<lambda>" = q) : PE X (.Lambda prm bd sc pos) (tLamN P q prm bd sc) := by
  subst hq
  refine ⟨fun pins s σ H Q I h => ?_⟩
  obtain ⟨⟨ps, hP, ht, ha⟩, k⟩ := h
  have hcl : closureFor sc X.env = pure [] := by
    rw [closure_ok (fun y hy e => absurd e (hfree y hy)), clo_nil _ _ hfree]
  have bP : s.heap.BuiltinsAt X.mg P := TB.bm.keeps I.bk
  have oP : s.heap.get? P = some { cls := .none, data := .fields ps } := I.hok P _ hP
  have noF : ∀ f, s.heap.objs.size ≤ f → H f = none := fun f hf => I.hok.fresh hf
  refine PySem.W.kla_eval hdef ?_
  cases hc : codeAmong pos ps.toList with
  | none =>
    refine PySem.W.kla_makeFunction (mg := X.mg) (c := c) (P := P) (ps := ps) hcl I.ok.glob (I.mod.glob.keeps I.bk) hcode (TB.code.keeps I.bk) oP ht hc TB.gP bP fun c' ctv h' tk hx hge hlt hrec htb => ?_
    obtain ⟨c2, oc, vs, t, e2, hoc, hd, hv⟩ := hrec
    cases e2
    have nC : H c' = none := noF c' hge
    have I1 := LamX.inv_table (t' := tk) (more := #[rawInt pos.line, rawInt pos.col, .ref c']) (h' := h') I hP (fun b o hb e => hx b o hb e) htb hge ⟨oc, vs, t, hoc, hd, hv⟩
    obtain ⟨f, hf⟩ : ∃ f, f = h'.objs.size := ⟨_, rfl⟩
    obtain ⟨o, ho⟩ : ∃ o : Obj, o = PySem.W.kla_obj "<lambda>" (X.env.qual ++ "<lambda>") prm bd sc [] ((X.mg "__name__").getD .none) c' ctv := ⟨_, rfl⟩
    have eF : (h'.push o).get? h'.objs.size = some o := Heap.get?_push_size _ (by rw [ho]; rfl)
    rw [← ho, ← hf]
    rw [← hf] at eF
    have nF : H f = none := noF f (by rw [hf]; exact Nat.le_trans hge (Nat.le_of_lt hlt))
    have nPc : P ≠ c' := ne_of_none hP nC
    have nPf : P ≠ f := ne_of_none hP nF
    have ncf : c' ≠ f := by rw [hf]; exact Nat.ne_of_lt hlt
    have I2 := I1.laid (a := f) (o := LamO (X.env.qual ++ "<lambda>") prm bd sc f c') (h' := h'.push o) (t' := tk) (fun b u e => Heap.get?_push_of_some _ e) (Nat.le_of_eq hf.symm) (lamO_ok (by rw [eF, ho]))
    have mv : Mv [P] H (upd (upd (upd H P (.tbl (ps ++ #[rawInt pos.line, rawInt pos.col, .ref c']))) c' (CodeO c' (X.env.qual ++ "<lambda>"))) f (LamO (X.env.qual ++ "<lambda>") prm bd sc f c')) :=
      (((Mv.refl [P] H).upd' (by simp) (fun u xs z => by rw [hP] at z; cases z)).upd nC).upd nF
    refine ⟨.ref f, _, I2, rfl, k _ _ mv ⟨_, by rw [upd_ne nPf, upd_ne nPc, upd_same], ?_, fun p' cv hcv => ?_⟩ nF ⟨c', upd_same, by rw [upd_ne ncf, upd_same]⟩⟩
    · rw [Array.toList_append]
      exact PySem.TriplesOk_snoc _ _ _ _ ht
    · rw [Array.toList_append] at hcv
      rcases LamX.among_app _ ht hcv with z | z
      · obtain ⟨c0, e1, e2⟩ := ha p' cv z
        exact ⟨c0, e1, mv.fr _ _ (by simp only [List.mem_singleton]; exact fun y => by rw [y, hP] at e2; cases e2) e2⟩
      · exact ⟨c', z, by rw [upd_ne ncf, upd_same]⟩
  | some cv =>
    obtain ⟨c', e, hco⟩ := ha pos cv hc
    subst e
    refine PySem.W.kla_makeFunctionHit (mg := X.mg) (c := c) (P := P) (ps := ps) hcl I.ok.glob (I.mod.glob.keeps I.bk) hcode (TB.code.keeps I.bk) oP ht hc bP fun ctv h' tk hx hsz => ?_
    obtain ⟨f, hf⟩ : ∃ f, f = h'.objs.size := ⟨_, rfl⟩
    obtain ⟨o, ho⟩ : ∃ o : Obj, o = PySem.W.kla_obj "<lambda>" (X.env.qual ++ "<lambda>") prm bd sc [] ((X.mg "__name__").getD .none) c' ctv := ⟨_, rfl⟩
    have eF : (h'.push o).get? h'.objs.size = some o := Heap.get?_push_size _ (by rw [ho]; rfl)
    show EP X pins σ Q (.ref h'.objs.size) { s with heap := h'.push (PySem.W.kla_obj "<lambda>" (X.env.qual ++ "<lambda>") prm bd sc [] ((X.mg "__name__").getD .none) c' ctv), toks := tk }
    rw [← ho, ← hf]
    rw [← hf] at eF
    have nF : H f = none := noF f (by rw [hf]; exact hsz)
    have I1 : L2.Inv X pins σ H { s with heap := h', toks := tk } := I.kept hx
    have I2 := I1.laid (a := f) (o := LamO (X.env.qual ++ "<lambda>") prm bd sc f c') (h' := h'.push o) (t' := tk) (fun b u e => Heap.get?_push_of_some _ e) (Nat.le_of_eq hf.symm) (lamO_ok (by rw [eF, ho]))
    have x2 : Same H (upd H f (LamO (X.env.qual ++ "<lambda>") prm bd sc f c')) := Same.new nF
    refine ⟨.ref f, _, I2, rfl, k _ _ (Mv.of x2) ⟨ps, x2 _ _ hP, ht, fun p' cv hcv => ?_⟩ nF ⟨c', upd_same, x2 _ _ hco⟩⟩
    obtain ⟨c0, e1, e2⟩ := ha p' cv hcv
    exact ⟨c0, e1, x2 _ _ e2⟩
end
/-- what a call of such a lambda does, wherever it stands -/
def LamRun (Pr : Program) (w : World) (K : PySem.W.Frag) (mg : Str → Option Value) (base : Heap) (k : Nat) (q : Str) (prm : Arguments) (bd : Expr) (sc : Scope) (sp : Sp) : Prop :=
  ∀ (A : Around) (outer : List Env) (s : Shared) (H : Hp) (f : Addr) (us : List Value) (vs : List V) (Q : VK), Room k A → Env0 Pr w K mg base A outer s H → LamAt q prm bd sc H f → Vals vs us → sp vs H Q E0 → codeAny (model Pr w) A (.call (.ref f) ⟨us, []⟩) (CR CX0 outer Pr w H s Q E0) s
section
variable {Pr : Program} {w : World} {K : PySem.W.Frag} {mg : Str → Option Value} {base : Heap} {q : Str} {prm : Arguments} {bd : Expr} {sc : Scope} {sp : Sp} {k : Nat} {N ps : List Str}
theorem lam_run (S : FnScope N ps sc) (hb : ∀ (pm cv ctv : Value) (us : List Value), us.length = ps.length → bindArgs (PySem.W.kla_fn "<lambda>" q prm bd sc [] pm cv ctv) ⟨us, []⟩ = pure (ps.zip us)) (hl : ∀ vs H Q E, sp vs H Q E → vs.length = ps.length)
    (hbody : ∀ (cdv : Value) (f : Addr) (A : Around) (outer : List Env) (s : Shared) (H : Hp) (vs : List V) (Q : VK), Room k (A.deeper (envOfC q sc s.heap.objs.size f cdv)) → sp vs H Q E0 → ∃ t, PE (cxOf CX0 Pr w K mg base N q sc f cdv A outer s H E0) bd t ∧ t (L2.start N vs) H Q) :
    LamRun Pr w K mg base (k + 1) q prm bd sc sp := by
  intro A outer s H f us vs Q hr e0 ⟨c, hf, hc⟩ r hq
  have hlen := hl _ _ _ _ hq
  obtain ⟨⟨pm, ctv, ho⟩, _, _⟩ := (show ObjOk Pr w H s.heap f (LamO q prm bd sc f c) from e0.hok f _ hf)
  obtain ⟨⟨oc, us', t, hoc, hdc, hvc⟩, _, _⟩ := (show ObjOk Pr w H s.heap c (LamX.CodeO c q) from e0.hok c _ hc)
  refine PySem.W.kla_callFunE hr.depth ho rfl S.co S.gen rfl ⟨c, oc, us', t, rfl, hoc, hdc, hvc⟩ ?_
  rw [hb _ _ _ us (by rw [← hlen, ← r.length])]
  have hkind : ∀ y ∈ ps.zip us, sc.names.lookup y.1 = some .local ∨ (sc.names.lookup y.1 = some .cell ∧ ((cellsFrom (s.heap.objs.size + 1) sc.names []).lookup y.1).isSome = true) := fun ⟨n, v⟩ hy => (S.par n (List.of_mem_zip hy).1).imp id fun z => ⟨z, PySem.W.cellsFrom_some _ _ _ (.inl z)⟩
  refine wpAny_pure (wpAny_newFunctionEnv_cells S.kind hkind fun env he s1 x => ?_)
  subst he
  have lim : s.heap.NoLimit := e0.mod.nolimit.keeps fun b o e => (e0.bs b o e).1
  refine ⟨lim.keeps x.toInCall.keep, ?_⟩
  obtain ⟨t, ht, hq'⟩ := hbody (.ref c) f A outer s H vs Q (hr.deeper _) hq
  have J : L2.Inv (cxOf CX0 Pr w K mg base N q sc f (.ref c) A outer s H E0) [] (L2.start N vs) H s1 := inv_start S hr.hd e0 hlen r x
  refine PySem.W.kla_codeExpr (wpAny_mono (ht.run [] s1 _ H Q J hq') (fun v s' ⟨y, H', J', rv, qv⟩ => ?_) fun e s' he => he)
  exact ⟨y, H', J'.os, J'.bare, J'.base, J'.hok, rv, qv⟩
/-- a lambda that hands back True -/
def spYes (n : Nat) : Sp := fun vs H Q _ => vs.length = n ∧ Q (.bl true) H
end
/-- the function at f hands back True for any n arguments -/
def YesFn (Pr : Program) (w : World) (K : PySem.W.Frag) (mg : Str → Option Value) (base : Heap) (k n : Nat) (H : Hp) (f : Addr) : Prop := ∃ q prm bd sc, LamRun Pr w K mg base k q prm bd sc (spYes n) ∧ LamAt q prm bd sc H f
theorem YesFn.same {Pr : Program} {w : World} {K : PySem.W.Frag} {mg : Str → Option Value} {base : Heap} {k n : Nat} {H H' : Hp} {f : Addr} (e : Same H H') (y : YesFn Pr w K mg base k n H f) : YesFn Pr w K mg base k n H' f := let ⟨q, prm, bd, sc, r, l⟩ := y; ⟨q, prm, bd, sc, r, l.same e⟩
def tCallF (Pr : Program) (w : World) (K : PySem.W.Frag) (mg : Str → Option Value) (base : Heap) (k i : Nat) (t : TA) : TE := fun σ H Q => ∃ f q prm bd sc sp, σ[i]? = some (some (.ref f)) ∧ LamRun Pr w K mg base k q prm bd sc sp ∧ LamAt q prm bd sc H f ∧ t σ H fun vs H1 => LamAt q prm bd sc H1 f ∧ sp vs H1 Q E0
section
variable {X : Cx} {k i : Nat} {x : Str} {p pos : Pos} {e : Expr} {es : List Expr} {t : TA} {Pr : Program} {w : World} {K : PySem.W.Frag} {mg : Str → Option Value} {base : Heap}
theorem pe_callF (hP : X.prog = Pr) (hw : X.w = w) (hK : X.K = K) (hmg : X.mg = mg) (hbs : X.base = base) (hr : Room k X.A) (hN : X.N[i]? = some x) (hv : Vis X.env.scope x) (ha : PA X (e :: es) t) (hdb : (x == ("__debug__" : Str)) = false := by decide) (hcd : (x == ("__classdict__" : Str)) = false := by decide)
    (he : starEach (e :: es) X.env = (false, eval e X.env) :: starEach es X.env := by rfl) (hpl : (backTo pos (starEach es X.env)).any (·.1) = false := by rfl) : PE X (.Call (.Name x p) (e :: es) [] pos) (tCallF Pr w K mg base k i t) := by
  subst hP hw hK hmg hbs
  refine ⟨fun pins s σ H Q I ⟨f, q, prm, bd, sc, sp, hs, L, ⟨c0, hf0, hc0⟩, ht⟩ => ?_⟩
  refine wpAny_Call_Name_kw (thn ((pe_var (pos := p) hN hv hdb hcd).run pins s σ H (fun v H1 => v = .ref f ∧ H1 = H) I ⟨.ref f, hs, rfl, rfl⟩) fun u s1 ⟨v, H1, I1, r1, q1⟩ => ?_)
  obtain ⟨rfl, rfl⟩ := q1
  cases r1
  obtain ⟨⟨pm0, ctv0, ho0⟩, _, _⟩ := (show ObjOk X.prog X.w _ s1.heap f (LamO q prm bd sc f c0) from I1.hok f _ hf0)
  refine PySem.W.callWith_F ⟨_, _, _, _, ho0⟩ (thn (ha.run pos pins s1 σ _ _ I1 ht) fun us s2 ⟨vs, H2, I2, r, ⟨c, hf, hc⟩, h2⟩ => ⟨?_, ?_⟩) he hpl
  · obtain ⟨⟨pm, ctv, ho⟩, _, _⟩ := (show ObjOk X.prog X.w H2 s2.heap f (LamO q prm bd sc f c) from I2.hok f _ hf)
    exact ⟨_, _, _, _, ho⟩
  · refine wpAny_call (codeAny_mono (L X.A X.stack s2 H2 f us vs Q hr I2.env0 ⟨c, hf, hc⟩ r h2) fun r' s' hq => ?_)
    cases r' with
    | error e => exact (show False from hq).elim
    | ok fl =>
      cases fl with
      | ret u => exact I2.after hq
      | next => exact False.elim hq
      | brk => exact False.elim hq
      | cont => exact False.elim hq
end
theorem ev_callF {Pr : Program} {w : World} {K : PySem.W.Frag} {mg : Str → Option Value} {base : Heap} {k i n : Nat} {σ : L2.St} {H : Hp} {f : Addr} {t : TA} {vs : List V} (hs : σ[i]? = some (some (.ref f))) (y : YesFn Pr w K mg base k n H f) (h : EvA t σ H vs) (hl : vs.length = n) : Ev (tCallF Pr w K mg base k i t) σ H (.bl true) := fun H1 e Q q => by
  obtain ⟨q', prm, bd, sc, L, l⟩ := y
  exact ⟨f, q', prm, bd, sc, spYes n, hs, L, l.same e, h H1 e _ fun H2 e2 => ⟨l.same (e.trans e2), hl, q H2 e2⟩⟩
/-- a def whose code object is known -/
theorem Fun_okC {P : Program} {w : World} {K : PySem.W.Frag} {mg : Str → Option Value} {base : Heap} {x qual : Str} {st : Stmt} {f : Addr} {fd : FuncData} {N ps : List Str} {k : Nat} {sp : Sp} {cdv : Value} (F : Fun K x qual st f fd) (hc : fd.code = cdv) (S : FnScope N ps (defScope st)) (len : ∀ vs H Q E, sp vs H Q E → vs.length = ps.length)
    (hbody : ∀ (A : Around) (outer : List Env) (s : Shared) (H : Hp) (vs : List V) (Q : VK) (E : XK), Room k (A.deeper (envOfC qual (defScope st) s.heap.objs.size f cdv)) → sp vs H Q E →
      ∃ t, PSs (cxOf CX0 P w K mg base N qual (defScope st) f cdv A outer s H E).nox (defBody st) t ∧ t { nx := fun _ H' => Q .non H', rt := Q } (L2.start N vs) H) : FnOk P w K mg base CX0 (k + 1) f fd ps sp := by
  obtain ⟨oc, od, kV, doc, pm, an, cd, ct, osl, rfl, lk, hcd⟩ := F.ex
  have hc' : cd = cdv := hc
  subst hc'
  refine fn_of lk hcd S len fun A outer s H vs Q E hr hsp => ?_
  obtain ⟨t, h, q⟩ := hbody A outer s H vs Q E hr hsp
  exact ⟨t, h.nox, q⟩
end Dm

/-! tables of code objects beside what moves -/
namespace Dm
open PySem PySem.Spec PyProof.Rows L2 Evl
section
variable {H H' : Hp} {P h c p : Addr} {q : Str} {M : List Addr} {xs : List V} {o : HO}
theorem Dr.mv (d : Dr H h c) (m : Mv M H H') (hh : h ∉ M) (hc : c ∉ M) : Dr H' h c := by
  obtain ⟨a, b, cs, h1, h2, r⟩ := d
  exact ⟨a, b, cs, m.at hh h1, m.at hc h2, r⟩
theorem TabS.ext (t : TabS H P q) (e : Same H H') : TabS H' P q := LamX.TabS.ext t e
theorem TabS.ne (t : TabS H P q) (e : H p = some (.lst xs)) : p ∉ [P] := by
  obtain ⟨ps, hP, _⟩ := t
  rw [List.mem_singleton]
  exact fun z => by rw [z, hP] at e; cases e
theorem TabS.new (t : TabS H P q) (e : H p = none) : p ∉ [P] := by
  obtain ⟨ps, hP, _⟩ := t
  rw [List.mem_singleton]
  exact fun z => by rw [z, hP] at e; cases e
theorem TabS.put (t : TabS H P q) (hp : (∃ xs, H p = some (.lst xs)) ∨ H p = none) : TabS (upd H p o) P q := by
  obtain ⟨ps, hP, t2, t3⟩ := t
  have ne : ∀ {b u}, H b = some u → (∀ xs, u ≠ .lst xs) → b ≠ p := fun {b u} e n z => by
    rw [z] at e
    rcases hp with ⟨xs, h⟩ | h <;> rw [h] at e <;> cases e
    exact n _ rfl
  refine ⟨ps, by rw [upd_ne (ne hP (fun _ z => by cases z))]; exact hP, t2, fun pos cv hc => ?_⟩
  obtain ⟨k, e1, e2⟩ := t3 pos cv hc
  exact ⟨k, e1, by rw [upd_ne (ne e2 (fun _ z => by unfold LamX.CodeO at z; cases z))]; exact e2⟩
theorem Dr.plain (d : Dr H h c) : Plain H [h, c] := fun a ha φ z => by
  obtain ⟨m, b, cs, h1, h2, _⟩ := d
  simp only [List.mem_cons, List.not_mem_nil, or_false] at ha
  rcases ha with rfl | rfl
  · rw [h1] at z ; cases z
  · rw [h2] at z ; cases z
theorem Dr.tabs (d : Dr H h c) (t : TabS H P q) : h ∉ [P] ∧ c ∉ [P] ∧ P ∉ [h, c] := by
  obtain ⟨m, b, cs, h1, h2, _⟩ := d
  have n1 := t.ne h1
  have n2 := t.ne h2
  rw [List.mem_singleton] at n1 n2
  refine ⟨by simpa using n1, by simpa using n2, ?_⟩
  simp only [List.mem_cons, List.not_mem_nil, or_false, not_or]
  exact ⟨Ne.symm n1, Ne.symm n2⟩
theorem TabS.dr (t : TabS H P q) (d : Dr H h c) (m : Mv [h, c] H H') : TabS H' P q := t.mv m d.plain (d.tabs t).2.2
end
end Dm

/-! max of a list, with a default of any kind -/
namespace Dm
open PySem PySem.Spec PyProof.Rows L2
def maxZ (z : V) : List Int → V
  | [] => z
  | x :: xs => .int (xs.foldl max x)
def rMaxZ (K : PySem.W.Frag) : List V → List V → Hp → VK → Prop := fun vs zs H Q => ∃ (a : Addr) (ns : List Int) (z : V), vs = [V.ref a] ∧ zs = [z] ∧ SqL K H a (ns.map V.int) ∧ Q (maxZ z ns) H
theorem cr_maxZ {X : Cx} (hc : X.calm = true) : CallRK X (.builtin "max") [Str.ofString "default"] (rMaxZ X.K) := by
  intro pins s σ H vs zs us ws Q I r rz h
  obtain ⟨a, ns, z0, rfl, rfl, hs, q⟩ := h
  obtain ⟨its, rv, hl, _⟩ := I.list hs
  obtain rfl := Vals.ref1 r
  obtain ⟨w1, rfl, e1⟩ := vals1 rz
  obtain ⟨xs, e⟩ := rv.ints.allInts.items
  have hn : numsOf (intItems xs).toList = ns := by rw [← e]; exact rv.ints.numsOf
  rw [nums_intItems] at hn
  subst hn
  have hl := hl.isList
  rw [e] at hl
  refine maxd_walk (iter_intList hl fun s2 e2 st hfp hlI => ?_)
  subst e2
  refine ⟨_, _, _, _, _, _, _, rfl, Walks.list (A := X.A.in1) (I.ok.hd hc) _ a hlI (intItems xs), st, hfp, CmpOf.ints_gt (numAt xs) (fun _ _ => intItems_at), fun hz g tk hk => ?_, fun hz v g tk hP hk => ?_⟩
  · have hz' : xs.toList = [] := by
      have : xs.size = 0 := by simpa [intItems] using hz
      exact List.length_eq_zero_iff.mp (by simpa using this)
    rw [hz'] at q
    exact ⟨z0, H, I.kept (old_kept hk), e1, q⟩
  · have hP' : (intItems xs)[argBest (fun i j => decide (numAt xs i > numAt xs j)) (xs.size - 1)]? = some v := by simpa [intItems] using hP
    obtain ⟨t, rfl⟩ := intItems_at hP'
    have hz' : 0 < xs.size := by simpa [intItems] using hz
    obtain ⟨h1, h2⟩ := argBest_gt (numAt xs) (xs.size - 1)
    refine ⟨V.int _, H, I.kept (old_kept hk), ⟨_, rfl⟩, ?_⟩
    have em : maxZ z0 (xs.toList.map (·.1)) = .int (numAt xs (argBest (fun i j => decide (numAt xs i > numAt xs j)) (xs.size - 1))) := by
      have hm : numAt xs (argBest (fun i j => decide (numAt xs i > numAt xs j)) (xs.size - 1)) ∈ xs.toList.map (·.1) := by
        rw [numAt_eq]; exact PySem.getD_mem (by rw [List.length_map, Array.length_toList]; omega)
      have hg : ∀ b, b ∈ xs.toList.map (·.1) → b ≤ numAt xs (argBest (fun i j => decide (numAt xs i > numAt xs j)) (xs.size - 1)) := fun b hb => by
        obtain ⟨j, hj, rfl⟩ := mem_getD hb
        rw [List.length_map, Array.length_toList] at hj
        rw [← numAt_eq]; exact h2 j (by omega)
      generalize numAt xs (argBest (fun i j => decide (numAt xs i > numAt xs j)) (xs.size - 1)) = M at hm hg
      generalize xs.toList.map (·.1) = l at hm hg
      cases l with
      | nil => cases hm
      | cons x r =>
        have a1 := hg _ (foldl_max_mem r x)
        have a2 := foldl_max_ge r x M hm
        show V.int _ = V.int M
        congr 1
        omega
    rw [em] at q
    exact q
theorem pe_maxDefZ {X : Cx} {e d : Expr} {te td : TE} {p pos kp : Pos} (hc : X.calm = true) (hg : Gl X "max") (hm : X.mg "max" = none) (ha : PE X e te) (hd : PE X d td)
    (h1 : starEach [e] X.env = (false, eval e X.env) :: starEach [] X.env := by rfl) (h2 : backTo pos (starEach [e] X.env) = (false, eval e X.env) :: backTo pos (starEach [] X.env) := by rfl)
    (h3 : (backTo pos (starEach [e] X.env)).any (·.1) = false := by rfl) :
    PE X (.Call (.Name "max" p) [e] [⟨some "default", d, kp⟩] pos) (tCKw (rMaxZ X.K) (tCons te tNil) (tCons td tNil)) :=
  pe_callBK (cr_maxZ hc) hg hm (by decide +kernel) (pa_cons ha pa_nil h1) (pk_cons hd pk_nil) (he := h2) (hpl := h3)

end Dm

/-! walks over locked dicts, lists within dicts -/
namespace Dm
open PySem PySem.Spec PyProof.Rows L2 Evl
section
variable {P : Program} {w : World} {K : PySem.W.Frag} {σ : L2.St} {H : Hp} {to te td : TE} {tl : TA} {D : Ends} {a b l : Addr} {v : V} {kvs : List (NestedKey × V)} {nm : List Int} {n : Int}
/-- {k: v for .. in anything}, keys numbers -/
theorem dc_any {J : It} {n : Nat} {g : TG} {tt : TT} {tk tv : TE} {vs : List Nat} {H1 : Hp} {D : Addr} {Qd : Hp → Prop} (Pv : Nat → Hp → Prop) (h0 : Pv 0 (upd H1 D (.dK [])))
    (hg : ∀ i H, i < n → Pv i H → J.go i H) (hp : ∀ H, Pv n H → J.stop n H)
    (hs : ∀ i x H H', i < n → Pv i H → J.yld i H x H' → g x (wipe σ vs) H' fun σ2 H2 => wipe σ2 vs = wipe σ vs ∧ tt σ2 H2 fun b H3 =>
      if b = true then tk σ2 H3 fun y H4 => tv σ2 H4 fun z H5 => ∃ kvs k, y = kV k ∧ H5 D = some (.dK kvs) ∧ kvs.length < sizeLine ∧ Pv (i + 1) (upd H5 D (.dK (putK kvs k z))) else Pv (i + 1) H3) (hd : ∀ H, Pv n H → Qd H) :
    ∃ W : Nat → Nat → Hp → Prop, (∃ m, W 0 m (upd H1 D (.dK []))) ∧ ∀ i m H, W i m H →
      (J.stop i H ∧ Qd H) ∨ (J.go i H ∧ ∃ Nx : Hp → Prop, (∀ H', Nx H' → ∃ m', m' < m ∧ W (i + 1) m' H') ∧ ∀ x H', J.yld i H x H' → g x (wipe σ vs) H' fun σ2 H2 => wipe σ2 vs = wipe σ vs ∧ tt σ2 H2 fun b H3 =>
        if b = true then tk σ2 H3 fun y H4 => tv σ2 H4 fun z H5 => ∃ kvs k, y = kV k ∧ H5 D = some (.dK kvs) ∧ kvs.length < sizeLine ∧ Nx (upd H5 D (.dK (putK kvs k z))) else Nx H3) := by
  refine ⟨fun i m H => m = n - i ∧ i ≤ n ∧ Pv i H, ⟨n, rfl, Nat.zero_le _, h0⟩, fun i m H ⟨em, hi, p⟩ => ?_⟩
  by_cases hlt : i < n
  · exact .inr ⟨hg i H hlt p, Pv (i + 1), fun H' p' => ⟨n - (i + 1), by omega, rfl, hlt, p'⟩, fun x H' y => hs i x H H' hlt p y⟩
  · obtain rfl : i = n := by omega
    exact .inl ⟨hp H p, hd H p⟩
/-- l.append(v) -/
theorem s_appE {xs : List V} (hl : H l = some (.lst xs)) (ho : Ev to σ H (.ref l)) (h : Ev te σ H v) (hz : xs.length < 100000) (k : ∀ H1, Same H H1 → D.nx σ (upd H1 l (.lst (xs ++ [v])))) : tDrop (tBM K "list" rAppend to (tCons te tNil)) D σ H :=
  ho H (Ex.refl H) _ fun H1 e1 => ⟨.inl ⟨rfl, xs, SqL.of (e1 _ _ hl)⟩, h H1 e1 _ fun H2 e2 => ⟨l, xs, v, rfl, rfl, e2 _ _ (e1 _ _ hl), sz_lt hz, k H2 (e1.trans e2)⟩⟩
/-- d[(id, helper)] -/
theorem ev_ngetPair (hd : Ev td σ H (.ref a)) (h : EvA tl σ H [.ref b, .int n]) (hb : Tp H (.ref b) (mkD nm)) (g : DN P w H a kvs) (hv : valV kvs (pairK (nm, n)) = some v) : Ev (tNGet P w td (tTupF tl)) σ H v := fun H1 e Q q =>
  hd H1 e _ fun H2 e2 => eF_tup (h.mono (e.trans e2)) (by show 2 ≤ 100000; decide) fun H3 p e3 _ tp =>
    ⟨a, kvs, pairK (nm, n), p, v, rfl, rfl, g.same ((e.trans e2).trans e3), nk_pair (.tup tp (.cons (hb.mono (Same.ts ((e.trans e2).trans e3))) (.cons (.int n) .nil))), hv, q H3 (e2.trans e3)⟩
theorem ev_nlen (hd : Ev td σ H (.ref a)) (g : DN P w H a kvs) : Ev (tCB (rNLen P w) (tCons td tNil)) σ H (.int (kvs.length : Int)) := fun H1 e Q q =>
  hd H1 e _ fun H2 e2 => ⟨a, kvs, rfl, g.same (e.trans e2), q H2 e2⟩
theorem ev_maxZ {ns : List Int} {z : V} {p : Addr} (h : Ev te σ H (.ref p)) (hp : SqL K H p (ns.map V.int)) (hz : Ev td σ H z) : Ev (tCKw (rMaxZ K) (tCons te tNil) (tCons td tNil)) σ H (maxZ z ns) := fun H1 e Q q =>
  h H1 e _ fun H2 e2 => hz H2 (e.trans e2) _ fun H3 e3 => ⟨p, ns, z, rfl, rfl, ex_l ((e.trans e2).trans e3) hp, q H3 (e2.trans e3)⟩
theorem s_dput {ty tv : TE} {kv : List (Key × V)} {j : Key} (hv : Ev tv σ H v) (hd : Ev td σ H (.ref a)) (hy : Ev ty σ H (kV j)) (g : H a = some (.dK kv)) (hz : kv.length ≤ 100000) (k : ∀ H1, Same H H1 → D.nx σ (upd H1 a (.dK (putK kv j v)))) : sDPut td ty tv D σ H :=
  hv H (Ex.refl H) _ fun H1 e1 => hd H1 e1 _ fun H2 e2 => hy H2 (e1.trans e2) _ fun H3 e3 => ⟨a, _, rfl, DPut.k (k := j) (((e1.trans e2).trans e3) _ _ g) (by rw [sizeLine_eq]; omega), k H3 ((e1.trans e2).trans e3)⟩
end
/-- addresses by numbers -/
abbrev ozE (p : Int × Addr) : Key × V := (Sum.inl p.1, .ref p.2)
theorem oz_val {n : Int} {l : Addr} : ∀ {oz : List (Int × Addr)}, (oz.map (·.1)).Nodup → (n, l) ∈ oz → valV (oz.map ozE) (Sum.inl n) = some (.ref l)
  | [], _, h => nomatch h
  | p :: oz, hn, h => by
    rw [List.map_cons] at hn ⊢
    rcases List.mem_cons.mp h with z | z
    · rw [← z] ; exact valV_pos rfl
    · have : p.1 ≠ n := fun e => (List.nodup_cons.mp hn).1 (List.mem_map.mpr ⟨(n, l), z, e.symm⟩)
      rw [valV_neg (fun y => this (by injection y))]
      exact oz_val (List.nodup_cons.mp hn).2 z
theorem oz_none {n : Int} : ∀ {oz : List (Int × Addr)}, n ∉ oz.map (·.1) → valV (oz.map ozE) (Sum.inl n) = none
  | [], _ => rfl
  | p :: oz, h => by
    rw [List.map_cons] at h ⊢
    rw [valV_neg (fun z => h (by injection z with z; rw [← z]; exact List.mem_cons_self ..)), oz_none fun z => h (List.mem_cons_of_mem _ z)]
/-- what a helper has of a holding, as numbers; the bound of a helper -/
def ownI (ix : List Int × Int → Int) (held : List (List Int × Int)) (n : Int) : List Int := (held.filter fun p => decide (p.2 = n)).map ix
theorem ownI_snoc (ix : List Int × Int → Int) (held : List (List Int × Int)) (t : List Int × Int) (n : Int) : ownI ix (held ++ [t]) n = if t.2 = n then ownI ix held n ++ [ix t] else ownI ix held n := by
  unfold ownI
  rw [List.filter_append, List.map_append, List.filter_cons, List.filter_nil]
  by_cases e : t.2 = n
  · rw [if_pos (decide_eq_true e), if_pos e] ; rfl
  · rw [if_neg (by simpa using e), if_neg e] ; exact List.append_nil _
theorem ownI_len (ix : List Int × Int → Int) (held : List (List Int × Int)) (n : Int) : (ownI ix held n).length = cntM held n := by
  unfold ownI cntM
  rw [List.length_map, List.count_eq_countP, List.countP_map, List.countP_eq_length_filter]
  congr 1
def maxI (d : Int) : List Int → Int
  | [] => d
  | x :: xs => xs.foldl max x
theorem maxZ_int (d : Int) (ns : List Int) : maxZ (.int d) ns = .int (maxI d ns) := by cases ns <;> rfl
def bndI (ix : List Int × Int → Int) (N : Int) (held : List (List Int × Int)) (h : Hlp) : Int := if ((ownI ix held h.1).length : Int) < h.2.2 then N else maxI (-1) (ownI ix held h.1)
abbrev bdE (ix : List Int × Int → Int) (N : Int) (held : List (List Int × Int)) (h : Hlp) : Key × V := (Sum.inl h.1, .int (bndI ix N held h))
theorem map_none {α : Type} {n : Int} (f : α → Int) (g : α → V) : ∀ {hs : List α}, n ∉ hs.map f → valV (hs.map fun h => ((Sum.inl (f h) : Key), g h)) (Sum.inl n) = none
  | [], _ => rfl
  | h :: hs, hn => by
    rw [List.map_cons] at hn ⊢
    rw [valV_neg (fun z => hn (by injection z with z; rw [← z]; exact List.mem_cons_self ..)), map_none f g fun z => hn (List.mem_cons_of_mem _ z)]
theorem map_val {α : Type} (f : α → Int) (g : α → V) : ∀ {hs : List α} {x : α}, (hs.map f).Nodup → x ∈ hs → valV (hs.map fun h => ((Sum.inl (f h) : Key), g h)) (Sum.inl (f x)) = some (g x)
  | [], _, _, h => nomatch h
  | h :: hs, x, hn, hx => by
    rw [List.map_cons] at hn ⊢
    rcases List.mem_cons.mp hx with z | z
    · rw [z] ; exact valV_pos rfl
    · have : f h ≠ f x := fun e => (List.nodup_cons.mp hn).1 (List.mem_map.mpr ⟨x, z, e.symm⟩)
      rw [valV_neg (fun y => this (by injection y))]
      exact map_val f g (List.nodup_cons.mp hn).2 z
theorem take_succ {α : Type} {l : List α} {i : Nat} {x : α} (h : l[i]? = some x) : l.take (i + 1) = l.take i ++ [x] := by rw [List.take_add_one, h, Option.toList_some]
theorem nodup_take {α : Type} {l : List α} (hn : l.Nodup) {i : Nat} {x : α} (h : l[i]? = some x) : x ∉ l.take i := fun z => by
  have nd2 : (l.take (i + 1)).Nodup := hn.sublist (List.take_sublist ..)
  rw [take_succ h, List.nodup_append] at nd2
  exact nd2.2.2 x z x (by simp) rfl
end Dm

/-! what could be had, reckoned -/
namespace Dm
open PySem PySem.Spec PyProof.Rows L2 Evl
open PySem.W (dataLe)
def ixM (prs : List (List Int × Int)) (p : List Int × Int) : Int := (prs.idxOf p : Nat)
/-- whose a thing is, by the place among the pairs -/
def whoM (prs held : List (List Int × Int)) (nm : List Int) : Option Int := (held.find? fun q => decide (q.1 = nm)).map (ixM prs)
def bndM (prs : List (List Int × Int)) (hs : List Hlp) (held : List (List Int × Int)) (n : Int) : Int := ((hs.find? fun h => decide (h.1 = n)).map (bndI (ixM prs) (prs.length : Int) held)).getD 0
def letB (prs : List (List Int × Int)) (hs : List Hlp) (held : List (List Int × Int)) (p : List Int × Int) : Bool :=
  ((decide (p.1.length = 1) || decide (p.1.dropLast ∈ held.map (·.1))) && decide (ixM prs p < (whoM prs held p.1).getD (prs.length : Int))) && decide (ixM prs p < bndM prs hs held p.2)
def couldM (prs : List (List Int × Int)) (hs : List Hlp) (held : List (List Int × Int)) : List (List Int × Int) := prs.filter (letB prs hs held)
theorem idx_at {α : Type} [BEq α] [LawfulBEq α] {l : List α} (hn : l.Nodup) {i : Nat} {x : α} (h : l[i]? = some x) : l.idxOf x = i := by
  obtain ⟨h1, h2⟩ := List.getElem?_eq_some_iff.mp h
  rw [← h2]
  exact List.Nodup.idxOf_getElem hn i h1
theorem ixM_at {prs : List (List Int × Int)} (hn : prs.Nodup) {i : Nat} {p : List Int × Int} (h : prs[i]? = some p) : ixM prs p = (i : Int) := by
  unfold ixM
  rw [idx_at hn h]
theorem bndM_val {prs held : List (List Int × Int)} {n : Int} : ∀ {hs : List Hlp}, n ∈ hs.map (·.1) → valV (hs.map (bdE (ixM prs) (prs.length : Int) held)) (Sum.inl n) = some (.int (bndM prs hs held n))
  | [], h => nomatch h
  | h :: hs, hn => by
    rw [List.map_cons] at hn ⊢
    by_cases e : h.1 = n
    · rw [valV_pos (by show Sum.inl h.1 = Sum.inl n; rw [e])]
      unfold bndM
      rw [List.find?_cons, decide_eq_true e] ; rfl
    · rw [valV_neg (fun z => e (by injection z)), bndM_val ((List.mem_cons.mp hn).resolve_left fun z => e z.symm)]
      unfold bndM
      rw [List.find?_cons, decide_eq_false e]
/-- pairs come once each -/
theorem rkOf_nodup (p : List Int × List Int) : ∀ {hs : List Hlp}, (hs.map (·.1)).Nodup → ((rkOf p hs).map fun r => r.2.2).Nodup
  | [], _ => List.nodup_nil
  | h :: hs, hn => by
    rw [List.map_cons, List.nodup_cons] at hn
    have ih := rkOf_nodup p hn.2
    have sub : ∀ n ∈ (rkOf p hs).map (fun r => r.2.2), n ∈ hs.map (·.1) := fun n hn => by
      obtain ⟨r, hr, rfl⟩ := List.mem_map.mp hn
      obtain ⟨h', hh, e⟩ := List.mem_filterMap.mp hr
      obtain ⟨k, _, e⟩ := Option.map_eq_some_iff.mp e
      subst e
      exact List.mem_map.mpr ⟨h', hh, rfl⟩
    unfold rkOf at ih sub ⊢
    rw [List.filterMap_cons]
    cases hf : lawFit h.2.1 p.2 with
    | none => exact ih
    | some k => exact List.nodup_cons.mpr ⟨fun z => hn.1 (sub _ z), ih⟩
theorem rks_nodup {hs : List Hlp} (hh : (hs.map (·.1)).Nodup) : ∀ {ps : List (List Int × List Int)}, (ps.map (·.1)).Nodup → ((rks ps hs).map fun r => (r.1, r.2.2)).Nodup
  | [], _ => List.nodup_nil
  | p :: ps, hn => by
    rw [List.map_cons, List.nodup_cons] at hn
    have one : ∀ r ∈ rkOf p hs, r.1 = p.1 := fun r hr => by
      obtain ⟨h', hh, e⟩ := List.mem_filterMap.mp hr
      obtain ⟨k, _, e⟩ := Option.map_eq_some_iff.mp e
      rw [← e]
    have e1 : (rkOf p hs).map (fun r => (r.1, r.2.2)) = ((rkOf p hs).map fun r => r.2.2).map fun n => (p.1, n) := by
      rw [List.map_map]
      exact List.map_congr_left fun r hr => by
        show (r.1, r.2.2) = (p.1, r.2.2)
        rw [one r hr]
    show ((rkOf p hs ++ rks ps hs).map fun r => (r.1, r.2.2)).Nodup
    rw [List.map_append, List.nodup_append, e1]
    refine ⟨List.pairwise_map.mpr ((rkOf_nodup p hh).imp fun h e => h (congrArg Prod.snd e)), rks_nodup hh hn.2, fun a ha b hb e => ?_⟩
    obtain ⟨n, _, rfl⟩ := List.mem_map.mp ha
    obtain ⟨r, hr, rfl⟩ := List.mem_map.mp hb
    obtain ⟨q, hq, hx⟩ := List.mem_flatMap.mp hr
    obtain ⟨h', hh, e'⟩ := List.mem_filterMap.mp hx
    obtain ⟨k, _, e'⟩ := Option.map_eq_some_iff.mp e'
    refine hn.1 (List.mem_map.mpr ⟨q, hq, ?_⟩)
    have : p.1 = r.1 := congrArg Prod.fst e
    rw [this, ← e']
theorem prs_nodup {ps : List (List Int × List Int)} {hs : List Hlp} (hp : (ps.map (·.1)).Nodup) (hh : (hs.map (·.1)).Nodup) : (prsM ps hs).Nodup :=
  (((List.mergeSort_perm (rks ps hs) _).map fun r : Rk => (r.1, r.2.2)).nodup_iff).mpr (rks_nodup hh hp)
/-- the numbers of an id -/
theorem plAll_num {f : Nat → Th → List (List Int × List Int)} {nm : List Int} : ∀ {k : Nat} {ts : List Th} {p : List Int × List Int}, p ∈ plAll f k ts → ∃ j u, k ≤ j ∧ j < k + ts.length ∧ u ∈ ts ∧ p ∈ f j u
  | k, [], p, h => nomatch h
  | k, t :: ts, p, h => by
    rcases List.mem_append.mp h with z | z
    · exact ⟨k, t, Nat.le_refl _, by rw [List.length_cons]; omega, List.mem_cons_self .., z⟩
    · obtain ⟨j, u, h1, h2, h3, h4⟩ := plAll_num (f := f) (nm := nm) z
      exact ⟨j, u, by omega, by rw [List.length_cons]; omega, List.mem_cons_of_mem _ h3, h4⟩
theorem Th.pl_num : ∀ {n : Nat} {nm : List Int} {t : Th} {p : List Int × List Int}, t.ok n → (∀ i ∈ nm, 0 ≤ i ∧ i ≤ 999) → p ∈ t.pl n nm → ∀ i ∈ p.1, 0 ≤ i ∧ i ≤ 999
  | 0, nm, .mk m is, p, _, hn, h => by rw [List.mem_singleton.mp h]; exact hn
  | n + 1, nm, .mk m is, p, ok, hn, h => by
    rcases List.mem_cons.mp h with h | h
    · rw [h] ; exact hn
    · obtain ⟨j, u, h1, h2, h3, h4⟩ := plAll_num (nm := nm) h
      refine Th.pl_num (ok.2.2 u h3) (fun i hi => ?_) h4
      rcases List.mem_append.mp hi with z | z
      · exact hn i z
      · rw [List.mem_singleton.mp z]
        have := ok.2.1
        omega
theorem plcs_num {ts : List (Int × Th)} (ok : OkThings ts) {p : List Int × List Int} (hp : p ∈ plcs ts) : ∀ i ∈ p.1, 0 ≤ i ∧ i ≤ 999 := by
  obtain ⟨t, ht, hx⟩ := List.mem_flatMap.mp hp
  refine Th.pl_num (ok.ok t ht) (fun i hi => ?_) hx
  rw [List.mem_singleton.mp hi]
  exact ok.nums.rng t.1 (List.mem_map.mpr ⟨t, ht, rfl⟩)
theorem prs_ok {ts : List (Int × Th)} {hs : List Hlp} (ht : OkThings ts) (hh : OkHelpers hs) {p : List Int × Int} (hp : p ∈ prsM (plcs ts) hs) : p.1 ≠ [] ∧ p.1.length ≤ 3 ∧ ∀ i ∈ p.1 ++ [p.2], 0 ≤ i ∧ i ≤ 999 := by
  obtain ⟨⟨r, hr, er⟩, hn⟩ := prs_mem hp
  have h1 := plcs_mem ht.ok hr
  have h2 := plcs_num ht hr
  rw [er] at h1 h2
  refine ⟨h1.2.1, h1.2.2, fun i hi => ?_⟩
  rcases List.mem_append.mp hi with z | z
  · exact h2 i z
  · rw [List.mem_singleton.mp z]
    exact hh.nums.rng _ hn
/-- {k: v for .. in enumerate(a list)}, keys tuples -/
theorem ndc_enum {P : Program} {w : World} {K : PySem.W.Frag} {σ : L2.St} {a : Addr} {xs : List V} {g : TG} {tt : TT} {tk tv : TE} {vs : List Nat} {H1 : Hp} {D : Addr} {o : HO} {Qd : Hp → Prop} (Pv : Nat → Hp → Prop) (h0 : Pv 0 (upd H1 D o)) (hl : ∀ i H, i ≤ xs.length → Pv i H → SqL K H a xs)
    (hs : ∀ (i : Nat) (x : V) (T : Addr) H, xs[i]? = some x → Pv i H → H T = none → g (.ref T) (wipe σ vs) (upd H T (.tup [.int (i : Nat), x])) fun σ2 H2 => wipe σ2 vs = wipe σ vs ∧ tt σ2 H2 fun c H3 =>
      if c = true then tk σ2 H3 fun y H4 => tv σ2 H4 fun z H5 => ∃ kvs k b, y = .ref b ∧ NK H5 k b ∧ DN P w H5 D kvs ∧ kvs.length < sizeLine ∧ ∀ u, DN P w (upd H5 D u) D (putK kvs k z) → Tst H5 (upd H5 D u) → Pv (i + 1) (upd H5 D u) else Pv (i + 1) H3) (hd : ∀ H, Pv xs.length H → Qd H) :
    ∃ W : Nat → Nat → Hp → Prop, (∃ m, W 0 m (upd H1 D o)) ∧ NTurns P w (Ite K a) g tt tk tv vs σ D Qd W := by
  refine ⟨fun i m H => m = xs.length - i ∧ i ≤ xs.length ∧ Pv i H, ⟨xs.length, rfl, Nat.zero_le _, h0⟩, fun i m H ⟨em, hi, p⟩ => ?_⟩
  have q := hl i H hi p
  by_cases hlt : i < xs.length
  · refine .inr ⟨⟨xs, xs[i], q, List.getElem?_eq_getElem hlt⟩, Pv (i + 1), fun H' p' => ⟨xs.length - (i + 1), by omega, rfl, hlt, p'⟩, fun x H' y => ?_⟩
    obtain ⟨T, x', rfl, hT, rfl, hx⟩ := y
    exact hs i x' T _ (hx xs q) p hT
  · have e : i = xs.length := by omega
    subst e
    exact .inl ⟨⟨xs, q, Nat.le_refl _⟩, hd H p⟩
theorem ev_ngetOr {P : Program} {w : World} {σ : L2.St} {H : Hp} {td ty tz : TE} {a b : Addr} {k : NestedKey} {kvs : List (NestedKey × V)} {y : V} (hd : Ev td σ H (.ref a)) (hy : Ev ty σ H (.ref b)) (hz : Ev tz σ H y) (g : DN P w H a kvs) (hb : NK H k b) : Ev (tNM P w (rNGetOr P w) td (tCons ty (tCons tz tNil))) σ H ((valV kvs k).getD y) := fun H1 e Q q =>
  hd H1 e _ fun H2 e2 => ⟨⟨a, kvs, rfl, g.same (e.trans e2)⟩, hy H2 (e.trans e2) _ fun H3 e3 => hz H3 ((e.trans e2).trans e3) _ fun H4 e4 =>
    ⟨a, kvs, k, b, y, rfl, rfl, g.same (((e.trans e2).trans e3).trans e4), hb.mono (Same.ts (((e.trans e2).trans e3).trans e4)), q H4 ((e2.trans e3).trans e4)⟩⟩
theorem who_snoc {prs l : List (List Int × Int)} {t : List Int × Int} (hn : t.1 ∉ l.map (·.1)) (nm : List Int) : whoM prs (l ++ [t]) nm = if nm = t.1 then some (ixM prs t) else whoM prs l nm := by
  unfold whoM
  rw [List.find?_append]
  by_cases e : nm = t.1
  · subst e
    have : l.find? (fun q => decide (q.1 = t.1)) = none := List.find?_eq_none.mpr fun q hq z => hn (List.mem_map.mpr ⟨q, hq, of_decide_eq_true z⟩)
    rw [this, if_pos rfl, List.find?_cons, decide_eq_true rfl] ; rfl
  · rw [if_neg e, List.find?_cons, decide_eq_false (fun z => e z.symm)]
    cases l.find? (fun q => decide (q.1 = nm)) <;> rfl
theorem who_some {prs held : List (List Int × Int)} (nm : List Int) : (whoM prs held nm).isSome = decide (nm ∈ held.map (·.1)) := by
  unfold whoM
  rw [Option.isSome_map, Bool.eq_iff_iff, List.find?_isSome, decide_eq_true_iff, List.mem_map]
  exact ⟨fun ⟨q, hq, e⟩ => ⟨q, hq, of_decide_eq_true e⟩, fun ⟨q, hq, e⟩ => ⟨q, hq, decide_eq_true e⟩⟩
theorem who_get {prs held : List (List Int × Int)} {nm : List Int} {N : Int} : ((whoM prs held nm).map V.int).getD (.int N) = .int ((whoM prs held nm).getD N) := by
  cases whoM prs held nm <;> rfl
end Dm

/-! what is had at rest, and what could be had: the mathematics -/
namespace Dm
open PySem PySem.Spec PyProof.Rows L2 Evl
open PySem.W (dataLe dataLt)
abbrev Prs := List (List Int × Int)
/-! ### orders -/
theorem lt_mk (a b : List Int) : dataLt (mkD a) (mkD b) = decide (a < b) := by
  unfold mkD
  rw [PySem.W.dataLt_tuple]
  exact PySem.W.dataLt_ints a b
theorem lt_pr (p q : List Int × Int) : dataLt (prD p) (prD q) = if p.1 = q.1 then decide (p.2 < q.2) else decide (p.1 < q.1) := by
  show dataLt (.tuple [mkD p.1, .int p.2]) (.tuple [mkD q.1, .int q.2]) = _
  rw [PySem.W.dataLt_pair (alike_mk p.1 q.1) (by simp [PySem.W.alike]), eqv_mk]
  by_cases e : p.1 = q.1
  · rw [decide_eq_true e, if_pos rfl, if_pos e, PySem.W.dataLt_int]
    by_cases e2 : p.2 = q.2
    · have : PyData.eqv (.int p.2) (.int q.2) = true := by simp [PyData.eqv, e2]
      rw [if_pos this, decide_eq_false (by omega)]
    · have : PyData.eqv (.int p.2) (.int q.2) = false := by simp [PyData.eqv, e2]
      rw [this, if_neg (by decide)]
  · rw [decide_eq_false e, if_neg (by decide), if_neg e, lt_mk]
theorem list_tri {a b : List Int} (h1 : ¬ a < b) (h2 : ¬ b < a) : a = b := by
  have e1 : dataLt (mkD a) (mkD b) = false := by rw [lt_mk, decide_eq_false h1]
  have e2 : dataLt (mkD b) (mkD a) = false := by rw [lt_mk, decide_eq_false h2]
  exact List.le_antisymm h2 h1
theorem le_pr_anti {p q : List Int × Int} (h1 : dataLe false prD p q = true) (h2 : dataLe false prD q p = true) : p = q := by
  rw [PySem.W.dataLe_eq] at h1 h2
  have h1 : (!dataLt (prD q) (prD p)) = true := h1
  have h2 : (!dataLt (prD p) (prD q)) = true := h2
  rw [lt_pr] at h1 h2
  by_cases e : p.1 = q.1
  · rw [if_pos e.symm] at h1
    rw [if_pos e] at h2
    refine Prod.ext e ?_
    simp only [Bool.not_eq_true', decide_eq_false_iff_not] at h1 h2
    omega
  · rw [if_neg (Ne.symm e)] at h1
    rw [if_neg e] at h2
    simp only [Bool.not_eq_true', decide_eq_false_iff_not] at h1 h2
    exact absurd (list_tri h2 h1) e
theorem le_total (f : α → PyData) : PySem.W.TotalLe (dataLe false f) := PySem.W.sortLe_total _ _ _
theorem eq_sorted {α : Type} {r : α → α → Prop} (anti : ∀ a b, r a b → r b a → a = b) : ∀ {m n : List α}, m.Perm n → m.Pairwise r → n.Pairwise r → m = n
  | [], n, h, _, _ => h.nil_eq
  | p :: m, [], h, _, _ => absurd h.length_eq (by simp)
  | p :: m, q :: n, h, hm, hn => by
    have e : p = q := by
      rcases List.mem_cons.mp (h.mem_iff.mp (List.mem_cons_self ..) : p ∈ q :: n) with z | z
      · exact z
      · rcases List.mem_cons.mp (h.mem_iff.mpr (List.mem_cons_self ..) : q ∈ p :: m) with y | y
        · exact y.symm
        · exact anti p q ((List.pairwise_cons.mp hm).1 q y) ((List.pairwise_cons.mp hn).1 p z)
    subst e
    rw [eq_sorted anti h.cons_inv (List.pairwise_cons.mp hm).2 (List.pairwise_cons.mp hn).2]
theorem sort_perm {a b : Prs} (h : a.Perm b) : a.mergeSort (dataLe false prD) = b.mergeSort (dataLe false prD) :=
  eq_sorted (r := fun p q => dataLe false prD p q = true) (fun _ _ => le_pr_anti) ((List.mergeSort_perm a _).trans (h.trans (List.mergeSort_perm b _).symm)) (PySem.W.sort_pairwise (le_total prD) a) (PySem.W.sort_pairwise (le_total prD) b)
/-- the pairs: shorter ids ahead -/
theorem lt_rk_len {a b : Rk} (h : a.1.length < b.1.length) : dataLt (rkD a) (rkD b) = true := by
  unfold rkD
  rw [PySem.W.dataLt_tuple, PySem.W.dataLt_cons (by simp [PySem.W.alike])]
  have : PyData.eqv (.int (a.1.length : Int)) (.int (b.1.length : Int)) = false := by
    simp only [PyData.eqv]
    exact decide_eq_false (by omega)
  rw [this, if_neg (by decide), PySem.W.dataLt_int]
  exact decide_eq_true (by omega)
theorem prs_mono (ps : List (List Int × List Int)) (hs : List Hlp) : (prsM ps hs).Pairwise fun p q => p.1.length ≤ q.1.length := by
  unfold prsM ordR
  refine List.pairwise_map.mpr ((PySem.W.sort_pairwise (le_total rkD) _).imp fun {a b} h => ?_)
  rw [PySem.W.dataLe_eq] at h
  have h : (!dataLt (rkD b) (rkD a)) = true := h
  show a.1.length ≤ b.1.length
  refine Nat.le_of_not_lt fun z => ?_
  rw [lt_rk_len z] at h
  cases h
/-- what is asked of pairs -/
structure Pok (prs : Prs) (hs : List Hlp) : Prop where
  nd : prs.Nodup
  mono : prs.Pairwise fun p q => p.1.length ≤ q.1.length
  ne : ∀ p ∈ prs, p.1 ≠ []
  inh : ∀ p ∈ prs, p.2 ∈ hs.map (·.1)
  room : ∀ n ∈ hs.map (·.1), 0 ≤ roomM hs n
theorem room_mem {hs : List Hlp} {n : Int} (h : n ∈ hs.map (·.1)) : ∃ x ∈ hs, x.1 = n ∧ roomM hs n = x.2.2 ∧ hs.find? (fun y => decide (y.1 = n)) = some x := by
  obtain ⟨y, hy, e⟩ := List.mem_map.mp h
  cases hf : hs.find? (fun y => decide (y.1 = n)) with
  | none => exact absurd (decide_eq_true e) (List.find?_eq_none.mp hf y hy)
  | some x =>
    refine ⟨x, List.mem_of_find?_eq_some hf, of_decide_eq_true (List.find?_some (p := fun y : Hlp => decide (y.1 = n)) hf), ?_, rfl⟩
    unfold roomM
    rw [hf] ; rfl
theorem pok_of {ts : List (Int × Th)} {hs : List Hlp} (ht : OkThings ts) (hh : OkHelpers hs) : Pok (prsM (plcs ts) hs) hs :=
  ⟨prs_nodup (plcs_nodup ht.nums.nodup) hh.nums.nodup, prs_mono _ _, fun p hp => (prs_ok ht hh hp).1, fun p hp => (prs_mem hp).2, fun n hn => by
    obtain ⟨x, hx, _, e, _⟩ := room_mem hn
    rw [e] ; exact (hh.ok x hx).2.1⟩
section
variable {prs held : Prs} {hs : List Hlp} {p q : List Int × Int} {k : Nat} {n : Int}
def ixN (prs : Prs) (p : List Int × Int) : Nat := prs.idxOf p
theorem ixM_nat : ixM prs p = (ixN prs p : Int) := rfl
theorem ix_at (h : p ∈ prs) : prs[ixN prs p]? = some p := by
  have := List.idxOf_lt_length_of_mem h
  show prs[prs.idxOf p]? = some p
  rw [List.getElem?_eq_getElem this, List.getElem_idxOf]
theorem ix_lt (h : p ∈ prs) : ixN prs p < prs.length := List.idxOf_lt_length_of_mem h
theorem ix_inj (h : p ∈ prs) (h' : q ∈ prs) (e : ixN prs p = ixN prs q) : p = q := by
  have h1 := ix_at h
  have h2 := ix_at h'
  rw [e, h2] at h1
  exact (Option.some.inj h1).symm
theorem ix_of (P : Pok prs hs) (h : prs[k]? = some p) : ixN prs p = k := idx_at P.nd h
theorem mem_take (P : Pok prs hs) : p ∈ prs.take k ↔ p ∈ prs ∧ ixN prs p < k := by
  refine ⟨fun h => ?_, fun ⟨h1, h2⟩ => ?_⟩
  · obtain ⟨i, hi⟩ := List.mem_iff_getElem?.mp h
    rw [List.getElem?_take] at hi
    by_cases z : i < k
    · rw [if_pos z] at hi
      exact ⟨List.mem_of_getElem? hi, by rw [ix_of P hi]; exact z⟩
    · rw [if_neg z] at hi ; cases hi
  · refine List.mem_iff_getElem?.mpr ⟨ixN prs p, ?_⟩
    rw [List.getElem?_take, if_pos h2]
    exact ix_at h1
theorem mem_drop (P : Pok prs hs) (h : p ∈ prs.drop k) : k ≤ ixN prs p := by
  obtain ⟨i, hi⟩ := List.mem_iff_getElem?.mp h
  rw [List.getElem?_drop] at hi
  rw [ix_of P hi]
  omega
theorem ix_len (P : Pok prs hs) (h : p ∈ prs) (h' : q ∈ prs) (l : p.1.length < q.1.length) : ixN prs p < ixN prs q := by
  refine Nat.lt_of_not_le fun z => ?_
  rcases Nat.lt_or_eq_of_le z with z | z
  · have h1 := ix_at h
    have h2 := ix_at h'
    obtain ⟨a1, b1⟩ := List.getElem?_eq_some_iff.mp h1
    obtain ⟨a2, b2⟩ := List.getElem?_eq_some_iff.mp h2
    have := List.pairwise_iff_getElem.mp P.mono _ _ a2 a1 z
    rw [b1, b2] at this
    omega
  · rw [ix_inj h' h z] at l
    omega
theorem who_val (c : CanBe prs (roomM hs) held) (h : q ∈ held) : whoM prs held q.1 = some (ixM prs q) := by
  unfold whoM
  cases hf : held.find? (fun y => decide (y.1 = q.1)) with
  | none => exact absurd (decide_eq_true rfl) (List.find?_eq_none.mp hf q h)
  | some x =>
    have hx := List.mem_of_find?_eq_some hf
    have ex : x.1 = q.1 := of_decide_eq_true (List.find?_some (p := fun y : List Int × Int => decide (y.1 = q.1)) hf)
    obtain ⟨i, hi⟩ := List.mem_iff_getElem?.mp hx
    obtain ⟨j, hj⟩ := List.mem_iff_getElem?.mp h
    have e1 : (held.map (·.1))[i]? = some q.1 := by rw [List.getElem?_map, hi, ← ex]; rfl
    have e2 : (held.map (·.1))[j]? = some q.1 := by rw [List.getElem?_map, hj]; rfl
    have : i = j := (List.getElem?_inj (List.getElem?_eq_some_iff.mp e1).1 c.nd).mp (e1.trans e2.symm)
    subst this
    rw [hi] at hj
    rw [Option.some.inj hj] ; rfl
theorem same_id (c : CanBe prs (roomM hs) held) (h : p ∈ held) (h' : q ∈ held) (e : p.1 = q.1) : p = q := by
  have h1 := who_val c h
  have h2 := who_val c h'
  rw [e, h2] at h1
  have := Option.some.inj h1
  exact ix_inj (c.mem p h) (c.mem q h') (by have : ((ixN prs q : Nat) : Int) = (ixN prs p : Nat) := this; omega)
theorem bnd_eq (hn : n ∈ hs.map (·.1)) : bndM prs hs held n = if (cntM held n : Int) < roomM hs n then (prs.length : Int) else maxI (-1) (ownI (ixM prs) held n) := by
  obtain ⟨x, _, ex, er, ef⟩ := room_mem hn
  unfold bndM
  rw [ef]
  show bndI (ixM prs) (prs.length : Int) held x = _
  unfold bndI
  rw [ex, ownI_len, er]
theorem maxI_ge {l : List Int} {x : Int} (h : x ∈ l) : x ≤ maxI (-1) l := by
  cases l with
  | nil => cases h
  | cons y l => exact foldl_max_ge l y x h
theorem maxI_mem {l : List Int} (h : l ≠ []) : maxI (-1) l ∈ l := by
  cases l with
  | nil => exact absurd rfl h
  | cons y l => exact foldl_max_mem l y
theorem own_mem {x : Int} : x ∈ ownI (ixM prs) held n ↔ ∃ q ∈ held, q.2 = n ∧ ixM prs q = x := by
  unfold ownI
  rw [List.mem_map]
  exact ⟨fun ⟨q, hq, e⟩ => ⟨q, (List.mem_filter.mp hq).1, of_decide_eq_true (List.mem_filter.mp hq).2, e⟩, fun ⟨q, hq, e, e'⟩ => ⟨q, List.mem_filter.mpr ⟨hq, decide_eq_true e⟩, e'⟩⟩
/-- a pair that could be had -/
theorem let_true (hp : p ∈ prs) (P : Pok prs hs) (c : CanBe prs (roomM hs) held) (h : letB prs hs held p = true) :
    (p.1.length = 1 ∨ p.1.dropLast ∈ held.map (·.1)) ∧ (∀ q ∈ held, q.1 = p.1 → ixN prs p < ixN prs q) ∧ ((cntM held p.2 : Int) < roomM hs p.2 ∨ ∃ q ∈ held, q.2 = p.2 ∧ ixN prs p < ixN prs q) := by
  unfold letB at h
  rw [Bool.and_eq_true, Bool.and_eq_true] at h
  obtain ⟨⟨h1, h2⟩, h3⟩ := h
  refine ⟨?_, fun q hq e => ?_, ?_⟩
  · rcases Bool.or_eq_true_iff.mp h1 with z | z
    · exact .inl (of_decide_eq_true z)
    · exact .inr (of_decide_eq_true z)
  · have := of_decide_eq_true h2
    rw [← e, who_val c hq] at this
    have : ixM prs p < ixM prs q := this
    rw [ixM_nat, ixM_nat] at this
    omega
  · have h3 := of_decide_eq_true h3
    rw [bnd_eq (P.inh p hp)] at h3
    by_cases z : (cntM held p.2 : Int) < roomM hs p.2
    · exact .inl z
    · rw [if_neg z] at h3
      by_cases e : ownI (ixM prs) held p.2 = []
      · rw [e, ixM_nat] at h3
        have h3 : ((ixN prs p : Nat) : Int) < -1 := h3
        omega
      · obtain ⟨q, hq, e1, e2⟩ := own_mem.mp (maxI_mem e)
        rw [← e2, ixM_nat, ixM_nat] at h3
        exact .inr ⟨q, hq, e1, by omega⟩
/-- a pair that could not be had -/
theorem let_false (hp : p ∈ prs) (P : Pok prs hs) (c : CanBe prs (roomM hs) held) (h : letB prs hs held p = false) :
    ¬ (p.1.length = 1 ∨ p.1.dropLast ∈ held.map (·.1)) ∨ (∃ q ∈ held, q.1 = p.1 ∧ ixN prs q ≤ ixN prs p) ∨ (roomM hs p.2 ≤ (cntM held p.2 : Int) ∧ ∀ q ∈ held, q.2 = p.2 → ixN prs q ≤ ixN prs p) := by
  unfold letB at h
  rcases Bool.and_eq_false_iff.mp h with h | h
  · rcases Bool.and_eq_false_iff.mp h with h | h
    · refine .inl fun z => ?_
      rcases z with z | z
      · rw [decide_eq_true z] at h ; cases h
      · rw [decide_eq_true z, Bool.or_true] at h ; cases h
    · refine .inr (.inl ?_)
      have h := of_decide_eq_false h
      cases hw : held.find? (fun y => decide (y.1 = p.1)) with
      | none =>
        have : whoM prs held p.1 = none := by unfold whoM; rw [hw]; rfl
        rw [this, ixM_nat] at h
        have h : ¬ ((ixN prs p : Nat) : Int) < (prs.length : Int) := h
        have := ix_lt hp
        omega
      | some q =>
        have hq := List.mem_of_find?_eq_some hw
        have e : q.1 = p.1 := of_decide_eq_true (List.find?_some (p := fun y : List Int × Int => decide (y.1 = p.1)) hw)
        refine ⟨q, hq, e, ?_⟩
        rw [← e, who_val c hq] at h
        have h : ¬ ixM prs p < ixM prs q := h
        rw [ixM_nat, ixM_nat] at h
        omega
  · refine .inr (.inr ?_)
    have h := of_decide_eq_false h
    rw [bnd_eq (P.inh p hp)] at h
    by_cases z : (cntM held p.2 : Int) < roomM hs p.2
    · rw [if_pos z, ixM_nat] at h
      have := ix_lt hp
      omega
    · rw [if_neg z] at h
      refine ⟨by omega, fun q hq e => ?_⟩
      have := maxI_ge (own_mem (prs := prs).mpr ⟨q, hq, e, rfl⟩)
      rw [ixM_nat] at this h
      omega
/-! ### what is had at rest -/
theorem ch_split (rm : Int → Int) (k : Nat) : ∃ more, chM rm prs = chM rm (prs.take k) ++ more ∧ ∀ p ∈ more, p ∈ prs.drop k := by
  have gen : ∀ (l had : Prs), ∃ more, l.foldl (chStep rm) had = had ++ more ∧ ∀ p ∈ more, p ∈ l := by
    intro l
    induction l with
    | nil => exact fun had => ⟨[], by simp, fun p h => nomatch h⟩
    | cons x l ih =>
      intro had
      rw [List.foldl_cons]
      by_cases c : canM rm had x = true
      · have e : chStep rm had x = had ++ [x] := if_pos c
        rw [e]
        obtain ⟨m, h1, h2⟩ := ih (had ++ [x])
        refine ⟨x :: m, by rw [h1, List.append_assoc]; rfl, fun p hp => ?_⟩
        rcases List.mem_cons.mp hp with z | z
        · rw [z] ; exact List.mem_cons_self ..
        · exact List.mem_cons_of_mem _ (h2 p z)
      · have e : chStep rm had x = had := if_neg c
        rw [e]
        obtain ⟨m, h1, h2⟩ := ih had
        exact ⟨m, h1, fun p hp => List.mem_cons_of_mem _ (h2 p hp)⟩
  obtain ⟨m, h1, h2⟩ := gen (prs.drop k) (chM rm (prs.take k))
  refine ⟨m, ?_, h2⟩
  rw [← h1]
  unfold chM
  rw [← List.foldl_append, List.take_append_drop]
theorem ch_can (rm : Int → Int) (k : Nat) : CanBe prs rm (chM rm (prs.take k)) := by
  have gen : ∀ (l had : Prs), (∀ p ∈ l, p ∈ prs) → CanBe prs rm had → CanBe prs rm (l.foldl (chStep rm) had) := by
    intro l
    induction l with
    | nil => exact fun had _ h => h
    | cons x l ih =>
      intro had hl h
      rw [List.foldl_cons]
      refine ih _ (fun p hp => hl p (List.mem_cons_of_mem _ hp)) ?_
      by_cases c : canM rm had x = true
      · have e : chStep rm had x = had ++ [x] := if_pos c
        rw [e]
        exact h.snoc (hl x (List.mem_cons_self ..)) c
      · have e : chStep rm had x = had := if_neg c
        rw [e] ; exact h
  exact gen _ _ (fun p hp => List.mem_of_mem_take hp) CanBe.nil
theorem ch_can' (rm : Int → Int) : CanBe prs rm (chM rm prs) := by
  have := ch_can (prs := prs) rm prs.length
  rwa [List.take_length] at this
theorem ch_mem (P : Pok prs hs) {rm : Int → Int} (k : Nat) : p ∈ chM rm (prs.take k) ↔ p ∈ chM rm prs ∧ ixN prs p < k := by
  obtain ⟨m, h1, h2⟩ := ch_split (prs := prs) rm k
  refine ⟨fun h => ⟨by rw [h1]; exact List.mem_append_left _ h, ((mem_take P).mp ((ch_all (rm := rm) (prs.take k)).2.1 p h)).2⟩, fun ⟨h, hk⟩ => ?_⟩
  rw [h1] at h
  rcases List.mem_append.mp h with z | z
  · exact z
  · have := mem_drop P (h2 p z)
    omega
theorem ch_next {rm : Int → Int} (h : prs[k]? = some p) : chM rm (prs.take (k + 1)) = chStep rm (chM rm (prs.take k)) p := by
  unfold chM
  rw [take_succ h, List.foldl_append] ; rfl
theorem cnt_le {a b : Prs} (h : ∃ m, b = a ++ m) : cntM a n ≤ cntM b n := by
  obtain ⟨m, rfl⟩ := h
  unfold cntM
  rw [List.map_append, List.count_append]
  omega
theorem can_false {rm : Int → Int} {had : Prs} (h : canM rm had p = false) : p.1 ∈ had.map (·.1) ∨ ¬ (p.1.length = 1 ∨ p.1.dropLast ∈ had.map (·.1)) ∨ rm p.2 ≤ (cntM had p.2 : Int) := by
  unfold canM at h
  rcases Bool.and_eq_false_iff.mp h with h | h
  · exact .inl (of_decide_eq_true (by simpa using h))
  · rcases Bool.and_eq_false_iff.mp h with h | h
    · refine .inr (.inl fun z => ?_)
      rcases z with z | z
      · rw [decide_eq_true z] at h ; cases h
      · rw [decide_eq_true z, Bool.or_true] at h ; cases h
    · exact .inr (.inr (by have := of_decide_eq_false h; omega))
theorem cnt_sub {a b : Prs} (ha : a.Nodup) (h : ∀ q ∈ a, q.2 = n → q ∈ b) : cntM a n ≤ cntM b n := by
  rw [← ownI_len (fun _ => 0), ← ownI_len (fun _ => 0)]
  unfold ownI
  rw [List.length_map, List.length_map]
  refine List.Nodup.length_le_of_subset (ha.filter _) fun q hq => ?_
  obtain ⟨h1, h2⟩ := List.mem_filter.mp hq
  exact List.mem_filter.mpr ⟨h q h1 (of_decide_eq_true h2), h2⟩
theorem CanBe.nodup {rm : Int → Int} (c : CanBe prs rm held) : held.Nodup := (List.pairwise_map.mp c.nd).imp fun h e => h (by rw [e])
/-- at rest nothing could be had -/
theorem rest_none (P : Pok prs hs) (pm : held.Perm (chM (roomM hs) prs)) (hp : p ∈ prs) : letB prs hs held p = false := by
  have c := ch_can' (prs := prs) (roomM hs)
  cases hl : letB prs hs held p with
  | false => rfl
  | true =>
    exfalso
    obtain ⟨h1', h2', h3'⟩ := let_true hp P (c.perm pm.symm) hl
    have h1 : p.1.length = 1 ∨ p.1.dropLast ∈ (chM (roomM hs) prs).map (·.1) := h1'.imp id fun z => (pm.map (·.1)).mem_iff.mp z
    have h2 : ∀ q ∈ chM (roomM hs) prs, q.1 = p.1 → ixN prs p < ixN prs q := fun q hq => h2' q (pm.mem_iff.mpr hq)
    have h3 : (cntM (chM (roomM hs) prs) p.2 : Int) < roomM hs p.2 ∨ ∃ q ∈ chM (roomM hs) prs, q.2 = p.2 ∧ ixN prs p < ixN prs q := h3'.imp (fun z => by
      have e : cntM held p.2 = cntM (chM (roomM hs) prs) p.2 := (pm.map (fun p : List Int × Int => p.2)).count_eq p.2
      rw [← e] ; exact z) fun ⟨q, hq, e⟩ => ⟨q, pm.mem_iff.mp hq, e⟩
    have hk := ix_at hp
    have hnext := ch_next (rm := roomM hs) hk
    have ck := ch_can (prs := prs) (roomM hs) (ixN prs p)
    cases hc : canM (roomM hs) (chM (roomM hs) (prs.take (ixN prs p))) p with
    | true =>
      have e : chStep (roomM hs) (chM (roomM hs) (prs.take (ixN prs p))) p = chM (roomM hs) (prs.take (ixN prs p)) ++ [p] := if_pos hc
      rw [e] at hnext
      have : p ∈ chM (roomM hs) (prs.take (ixN prs p + 1)) := by rw [hnext]; simp
      have := h2 p ((ch_mem P _).mp this).1 rfl
      omega
    | false =>
      rcases can_false hc with z | z | z
      · obtain ⟨q, hq, e⟩ := List.mem_map.mp z
        have hq' := (ch_mem P _).mp hq
        have := h2 q hq'.1 e
        omega
      · refine z (h1.imp id fun y => ?_)
        obtain ⟨q, hq, e⟩ := List.mem_map.mp y
        refine List.mem_map.mpr ⟨q, (ch_mem P _).mpr ⟨hq, ?_⟩, e⟩
        have hne := P.ne p hp
        refine ix_len P (c.mem q hq) hp ?_
        rw [e, List.length_dropLast]
        have : 0 < p.1.length := List.length_pos_iff.mpr hne
        omega
      · have le := cnt_le (n := p.2) (let ⟨m, h, _⟩ := ch_split (prs := prs) (roomM hs) (ixN prs p); ⟨m, h⟩)
        rcases h3 with h3 | ⟨q, hq, e, hlt⟩
        · omega
        · have room := c.room p.2
          have pos : 0 < cntM (chM (roomM hs) prs) p.2 := by
            unfold cntM
            exact List.count_pos_iff.mpr (List.mem_map.mpr ⟨q, hq, e⟩)
          -- q stands behind the first ones
          have : cntM (chM (roomM hs) (prs.take (ixN prs p))) p.2 + 1 ≤ cntM (chM (roomM hs) prs) p.2 := by
            have h5 : q ∉ chM (roomM hs) (prs.take (ixN prs p)) := fun y => by
              have := ((ch_mem P _).mp y).2
              omega
            have h6 := cnt_sub (n := p.2) (a := chM (roomM hs) (prs.take (ixN prs p)) ++ [q]) (b := chM (roomM hs) prs) (by
              rw [List.nodup_append]
              exact ⟨ck.nodup, by simp, fun a ha b hb e => h5 (by rw [List.mem_singleton.mp hb] at e; rw [← e]; exact ha)⟩) (fun y hy _ => by
              rcases List.mem_append.mp hy with w | w
              · exact ((ch_mem P _).mp w).1
              · rw [List.mem_singleton.mp w] ; exact hq)
            rw [cnt_snoc, if_pos e] at h6
            exact h6
          omega
/-- a holding of which nothing could be had is the one at rest -/
theorem rest_one (P : Pok prs hs) (c : CanBe prs (roomM hs) held) (h : ∀ p ∈ prs, letB prs hs held p = false) : ∀ k, ∀ p ∈ prs, ixN prs p < k → (p ∈ held ↔ p ∈ chM (roomM hs) prs)
  | 0, p, _, hk => absurd hk (Nat.not_lt_zero _)
  | k + 1, p, hp, hk => by
    have ih := rest_one P c h k
    by_cases hlt : ixN prs p < k
    · exact ih p hp hlt
    have ek : ixN prs p = k := by omega
    have hat := ix_at hp
    rw [ek] at hat
    have hnext := ch_next (rm := roomM hs) hat
    have ck := ch_can (prs := prs) (roomM hs) k
    have hadk : ∀ q, q ∈ chM (roomM hs) (prs.take k) ↔ q ∈ held ∧ ixN prs q < k := fun q => by
      rw [ch_mem P k]
      refine ⟨fun ⟨h1, h2⟩ => ⟨(ih q ((ch_all (rm := roomM hs) prs).2.1 q h1) h2).mpr h1, h2⟩, fun ⟨h1, h2⟩ => ⟨(ih q (c.mem q h1) h2).mp h1, h2⟩⟩
    have hR : p ∈ chM (roomM hs) prs ↔ canM (roomM hs) (chM (roomM hs) (prs.take k)) p = true := by
      have e1 : p ∈ chM (roomM hs) prs ↔ p ∈ chM (roomM hs) (prs.take (k + 1)) := by rw [ch_mem P (k + 1)]; exact ⟨fun z => ⟨z, by omega⟩, fun z => z.1⟩
      rw [e1, hnext]
      cases hc : canM (roomM hs) (chM (roomM hs) (prs.take k)) p with
      | true =>
        have e : chStep (roomM hs) (chM (roomM hs) (prs.take k)) p = chM (roomM hs) (prs.take k) ++ [p] := if_pos hc
        rw [e] ; simp
      | false =>
        have e : chStep (roomM hs) (chM (roomM hs) (prs.take k)) p = chM (roomM hs) (prs.take k) := if_neg (by rw [hc]; decide)
        rw [e]
        refine ⟨fun z => ?_, fun z => nomatch z⟩
        have := ((ch_mem P k).mp z).2
        omega
    rw [hR]
    have lenp : 0 < p.1.length := List.length_pos_iff.mpr (P.ne p hp)
    refine ⟨fun z => ?_, fun z => ?_⟩
    · -- had: can be had ahead
      unfold canM
      rw [Bool.and_eq_true, Bool.and_eq_true]
      refine ⟨?_, ?_, ?_⟩
      · have : p.1 ∉ (chM (roomM hs) (prs.take k)).map (·.1) := fun y => by
          obtain ⟨q, hq, e⟩ := List.mem_map.mp y
          have hq' := (hadk q).mp hq
          have := same_id c hq'.1 z e
          subst this
          omega
        rw [decide_eq_false this] ; rfl
      · rcases c.par p z with y | y
        · rw [decide_eq_true y] ; rfl
        · obtain ⟨q, hq, e⟩ := List.mem_map.mp y
          have : p.1.dropLast ∈ (chM (roomM hs) (prs.take k)).map (·.1) := List.mem_map.mpr ⟨q, (hadk q).mpr ⟨hq, by
            have := ix_len P (c.mem q hq) hp (by rw [e, List.length_dropLast]; omega)
            omega⟩, e⟩
          rw [decide_eq_true this, Bool.or_true]
      · refine decide_eq_true ?_
        have h6 := cnt_sub (n := p.2) (a := chM (roomM hs) (prs.take k) ++ [p]) (b := held) (by
          rw [List.nodup_append]
          exact ⟨ck.nodup, by simp, fun a ha b hb e => by
            have := ((hadk a).mp ha).2
            rw [e, List.mem_singleton.mp hb] at this
            omega⟩) (fun y hy _ => by
          rcases List.mem_append.mp hy with w | w
          · exact ((hadk y).mp w).1
          · rw [List.mem_singleton.mp w] ; exact z)
        rw [cnt_snoc, if_pos rfl] at h6
        rcases c.room p.2 with y | y <;> omega
    · -- can be had: is had, as nothing could be had
      have hcan := can_new z
      have hreach : p.1.length = 1 ∨ p.1.dropLast ∈ held.map (·.1) := hcan.2.1.imp id fun y => by
        obtain ⟨q, hq, e⟩ := List.mem_map.mp y
        exact List.mem_map.mpr ⟨q, ((hadk q).mp hq).1, e⟩
      rcases let_false hp P c (h p hp) with y | ⟨q, hq, e, hle⟩ | ⟨hroom, hall⟩
      · exact absurd hreach y
      · by_cases hqk : ixN prs q < k
        · exact absurd (List.mem_map.mpr ⟨q, (hadk q).mpr ⟨hq, hqk⟩, e⟩) hcan.1
        · have : q = p := ix_inj (c.mem q hq) hp (by omega)
          rw [← this] ; exact hq
      · by_cases hin : p ∈ held
        · exact hin
        · have h6 := cnt_sub (n := p.2) (a := held) (b := chM (roomM hs) (prs.take k)) c.nodup (fun q hq e => (hadk q).mpr ⟨hq, by
            have h7 := hall q hq e
            rcases Nat.lt_or_eq_of_le h7 with w | w
            · omega
            · rw [ix_inj (c.mem q hq) hp w] at hq
              exact absurd hq hin⟩)
          have := hcan.2.2
          omega
theorem rest_perm (P : Pok prs hs) (c : CanBe prs (roomM hs) held) (h : ∀ p ∈ prs, letB prs hs held p = false) : held.Perm (chM (roomM hs) prs) := by
  have c' := ch_can' (prs := prs) (roomM hs)
  refine (List.perm_ext_iff_of_nodup c.nodup c'.nodup).mpr fun p => ⟨fun z => ?_, fun z => ?_⟩
  · exact (rest_one P c h _ p (c.mem p z) (Nat.lt_succ_self _)).mp z
  · exact (rest_one P c h _ p (c'.mem p z) (Nat.lt_succ_self _)).mpr z
end
end Dm

/-! a pair is had that could be: the holding behind it, and that this comes to an end -/
namespace Dm
open PySem PySem.Spec PyProof.Rows L2 Evl
def lostM (prs : Prs) (rm : Int → Int) (held : Prs) (p : List Int × Int) : List (List Int) :=
  p.1 :: if (cntM held p.2 : Int) = rm p.2 then [((prs[(maxI (-1) (ownI (ixM prs) held p.2)).toNat]?).map (·.1)).getD []] else []
def keepB (lost : List (List Int)) (q : List Int × Int) : Bool := lost.all fun o => !decide (q.1.take o.length = o)
def haveM (prs : Prs) (rm : Int → Int) (held : Prs) (p : List Int × Int) : Prs := held.filter (keepB (lostM prs rm held p)) ++ [p]
section
variable {prs held : Prs} {hs : List Hlp} {p q : List Int × Int}
theorem lost_cases (P : Pok prs hs) (c : CanBe prs (roomM hs) held) (hp : p ∈ prs) (h : letB prs hs held p = true) :
    (lostM prs (roomM hs) held p = [p.1] ∧ (cntM held p.2 : Int) < roomM hs p.2) ∨ ∃ q ∈ held, q.2 = p.2 ∧ ixN prs p < ixN prs q ∧ lostM prs (roomM hs) held p = [p.1, q.1] ∧ (cntM held p.2 : Int) = roomM hs p.2 ∧ maxI (-1) (ownI (ixM prs) held p.2) = (ixN prs q : Int) := by
  obtain ⟨_, _, h3⟩ := let_true hp P c h
  unfold lostM
  by_cases e : (cntM held p.2 : Int) = roomM hs p.2
  · rw [if_pos e]
    right
    rcases h3 with h3 | ⟨q, hq, e1, hlt⟩
    · omega
    · have hm := own_mem (prs := prs).mpr ⟨q, hq, e1, rfl⟩
      obtain ⟨q', hq', e2, e3⟩ := own_mem.mp (maxI_mem (l := ownI (ixM prs) held p.2) (fun z => by rw [z] at hm; cases hm))
      have hge := maxI_ge hm
      rw [← e3, ixM_nat, ixM_nat] at hge
      refine ⟨q', hq', e2, by omega, ?_, e, by rw [← e3]; rfl⟩
      rw [← e3, ixM_nat, Int.toNat_natCast, ix_at (c.mem q' hq')] ; rfl
  · rw [if_neg e]
    left
    refine ⟨rfl, ?_⟩
    rcases h3 with h3 | ⟨q, hq, e1, _⟩
    · exact h3
    · have pos : 0 < cntM held p.2 := by
        unfold cntM
        exact List.count_pos_iff.mpr (List.mem_map.mpr ⟨q, hq, e1⟩)
      rcases c.room p.2 with z | z <;> omega
theorem take_len {l o : List Int} (h : l.take o.length = o) : o.length ≤ l.length := by
  have := congrArg List.length h
  rw [List.length_take] at this
  omega
theorem take_same {l o : List Int} (h : l.take o.length = o) (e : l.length = o.length) : l = o := by
  rw [← e, List.take_length] at h
  exact h
theorem keep_false {lost : List (List Int)} (h : keepB lost q = false) : ∃ o ∈ lost, q.1.take o.length = o := by
  unfold keepB at h
  have : ¬ (lost.all fun o => !decide (q.1.take o.length = o)) = true := by rw [h]; decide
  rw [List.all_eq_true] at this
  by_cases e : ∃ o ∈ lost, q.1.take o.length = o
  · exact e
  · exact absurd (fun o ho => by
      have : ¬ q.1.take o.length = o := fun z => e ⟨o, ho, z⟩
      rw [decide_eq_false this] ; rfl) this
theorem keep_true {lost : List (List Int)} (h : keepB lost q = true) {o : List Int} (ho : o ∈ lost) : ¬ q.1.take o.length = o := fun z => by
  have := List.all_eq_true.mp h o ho
  rw [decide_eq_true z] at this
  cases this
/-- what goes stands behind the pair -/
theorem gone_later (P : Pok prs hs) (c : CanBe prs (roomM hs) held) (hp : p ∈ prs) (h : letB prs hs held p = true) (hq : q ∈ held) (hk : keepB (lostM prs (roomM hs) held p) q = false) : ixN prs p < ixN prs q := by
  obtain ⟨_, h2, _⟩ := let_true hp P c h
  obtain ⟨o, ho, ht⟩ := keep_false hk
  have one : q.1.take p.1.length = p.1 → ixN prs p < ixN prs q := fun z => by
    rcases Nat.lt_or_eq_of_le (take_len z) with l | l
    · exact ix_len P hp (c.mem q hq) l
    · exact h2 q hq (take_same z l.symm)
  rcases lost_cases P c hp h with ⟨e, _⟩ | ⟨r, hr, _, hlt, e, _⟩
  · rw [e, List.mem_singleton] at ho
    rw [ho] at ht
    exact one ht
  · rw [e] at ho
    rcases List.mem_cons.mp ho with z | z
    · rw [z] at ht ; exact one ht
    · rw [List.mem_singleton.mp z] at ht
      rcases Nat.lt_or_eq_of_le (take_len ht) with l | l
      · have := ix_len P (c.mem r hr) (c.mem q hq) l
        omega
      · rw [same_id c hq hr (take_same ht l.symm)] ; exact hlt
theorem have_can (P : Pok prs hs) (c : CanBe prs (roomM hs) held) (hp : p ∈ prs) (h : letB prs hs held p = true) : CanBe prs (roomM hs) (haveM prs (roomM hs) held p) := by
  obtain ⟨h1, h2, h3⟩ := let_true hp P c h
  have sub : (held.filter (keepB (lostM prs (roomM hs) held p))).Sublist held := List.filter_sublist
  have hnew : p.1 ∉ (held.filter (keepB (lostM prs (roomM hs) held p))).map (·.1) := fun z => by
    obtain ⟨q, hq, e⟩ := List.mem_map.mp z
    obtain ⟨_, hk⟩ := List.mem_filter.mp hq
    refine keep_true hk (o := p.1) (List.mem_cons_self ..) ?_
    rw [← e, List.take_length]
  have up : ∀ x, x ∈ (held.filter (keepB (lostM prs (roomM hs) held p))).map (·.1) → x ∈ (haveM prs (roomM hs) held p).map (·.1) := fun x hx => by
    unfold haveM
    rw [List.map_append]
    exact List.mem_append_left _ hx
  refine ⟨?_, fun q hq => ?_, fun n => ?_, fun q hq => ?_⟩
  · unfold haveM
    rw [List.map_append, List.nodup_append]
    exact ⟨c.nd.sublist (sub.map _), by simp, fun a ha b hb e => hnew (by have z : b = p.1 := List.mem_singleton.mp hb; rw [← z, ← e]; exact ha)⟩
  · rcases List.mem_append.mp hq with z | z
    · exact c.mem q (List.mem_filter.mp z).1
    · rw [List.mem_singleton.mp z] ; exact hp
  · unfold haveM
    rw [cnt_snoc]
    have le : cntM (held.filter (keepB (lostM prs (roomM hs) held p))) n ≤ cntM held n := (sub.map (fun p : List Int × Int => p.2)).count_le n
    by_cases e : p.2 = n
    · rw [if_pos e]
      right
      subst e
      rcases lost_cases P c hp h with ⟨_, l⟩ | ⟨r, hr, e1, _, e2, e3, _⟩
      · omega
      · have h5 : r ∉ held.filter (keepB (lostM prs (roomM hs) held p)) := fun y => by
          obtain ⟨_, hk⟩ := List.mem_filter.mp y
          refine keep_true hk (o := r.1) (by rw [e2]; simp) ?_
          rw [List.take_length]
        have h6 := cnt_sub (n := p.2) (a := held.filter (keepB (lostM prs (roomM hs) held p)) ++ [r]) (b := held) (by
          rw [List.nodup_append]
          exact ⟨c.nodup.sublist sub, by simp, fun a ha b hb e => h5 (by rw [List.mem_singleton.mp hb] at e; rw [← e]; exact ha)⟩) (fun y hy _ => by
          rcases List.mem_append.mp hy with w | w
          · exact (List.mem_filter.mp w).1
          · rw [List.mem_singleton.mp w] ; exact hr)
        rw [cnt_snoc, if_pos e1] at h6
        omega
    · rw [if_neg e]
      rcases c.room n with z | z
      · left ; omega
      · right ; omega
  · rcases List.mem_append.mp hq with z | z
    · obtain ⟨hq1, hk⟩ := List.mem_filter.mp z
      rcases c.par q hq1 with y | y
      · exact .inl y
      · right
        obtain ⟨r, hr, e⟩ := List.mem_map.mp y
        refine up _ (List.mem_map.mpr ⟨r, List.mem_filter.mpr ⟨hr, ?_⟩, e⟩)
        cases hkr : keepB (lostM prs (roomM hs) held p) r with
        | true => rfl
        | false =>
          obtain ⟨o, ho, ht⟩ := keep_false hkr
          refine absurd ?_ (keep_true hk ho)
          rw [e] at ht
          have hl := take_len ht
          rw [List.length_dropLast] at hl
          rw [List.dropLast_eq_take, List.take_take, Nat.min_eq_left hl] at ht
          exact ht
    · rw [List.mem_singleton.mp z]
      refine h1.imp id fun y => ?_
      obtain ⟨r, hr, e⟩ := List.mem_map.mp y
      refine up _ (List.mem_map.mpr ⟨r, List.mem_filter.mpr ⟨hr, ?_⟩, e⟩)
      cases hkr : keepB (lostM prs (roomM hs) held p) r with
      | true => rfl
      | false =>
        have l1 := gone_later P c hp h hr hkr
        have lenp : 0 < p.1.length := List.length_pos_iff.mpr (P.ne p hp)
        have l2 := ix_len P (c.mem r hr) hp (by rw [e, List.length_dropLast]; omega)
        omega
/-! ### an end -/
def bitF (held : Prs) (acc : Nat) (p : List Int × Int) : Nat := 2 * acc + if p ∈ held then 1 else 0
def bitsM (held : Prs) (prs : Prs) : Nat := prs.foldl (bitF held) 0
theorem bits_bound (held : Prs) : ∀ (l : Prs) (acc : Nat), acc * 2 ^ l.length ≤ l.foldl (bitF held) acc ∧ l.foldl (bitF held) acc < (acc + 1) * 2 ^ l.length
  | [], acc => by simp
  | x :: l, acc => by
    obtain ⟨h1, h2⟩ := bits_bound held l (bitF held acc x)
    rw [List.foldl_cons, List.length_cons, Nat.pow_succ]
    have b1 : 2 * acc ≤ bitF held acc x := by unfold bitF; omega
    have b2 : bitF held acc x + 1 ≤ 2 * (acc + 1) := by unfold bitF; split <;> omega
    refine ⟨Nat.le_trans ?_ h1, Nat.lt_of_lt_of_le h2 ?_⟩
    · calc acc * (2 ^ l.length * 2) = (2 * acc) * 2 ^ l.length := by rw [Nat.mul_comm (2 ^ l.length) 2, ← Nat.mul_assoc, Nat.mul_comm acc 2]
        _ ≤ _ := Nat.mul_le_mul_right _ b1
    · calc (bitF held acc x + 1) * 2 ^ l.length ≤ (2 * (acc + 1)) * 2 ^ l.length := Nat.mul_le_mul_right _ b2
        _ = (acc + 1) * (2 ^ l.length * 2) := by rw [Nat.mul_comm (2 ^ l.length) 2, ← Nat.mul_assoc, Nat.mul_comm (acc + 1) 2]
theorem bits_lt {a b : Prs} : ∀ (pre post : Prs) (acc : Nat), (∀ x ∈ pre, x ∈ a ↔ x ∈ b) → p ∉ a → p ∈ b → (pre ++ p :: post).foldl (bitF a) acc < (pre ++ p :: post).foldl (bitF b) acc
  | [], post, acc, _, h1, h2 => by
    have e1 : bitF a acc p = 2 * acc := by unfold bitF; rw [if_neg h1]; rfl
    have e2 : bitF b acc p = 2 * acc + 1 := by unfold bitF; rw [if_pos h2]
    show post.foldl (bitF a) (bitF a acc p) < post.foldl (bitF b) (bitF b acc p)
    rw [e1, e2]
    exact Nat.lt_of_lt_of_le (bits_bound a post _).2 (bits_bound b post _).1
  | x :: pre, post, acc, h, h1, h2 => by
    have e : bitF a acc x = bitF b acc x := by
      unfold bitF
      by_cases z : x ∈ a
      · rw [if_pos z, if_pos ((h x (List.mem_cons_self ..)).mp z)]
      · rw [if_neg z, if_neg fun y => z ((h x (List.mem_cons_self ..)).mpr y)]
    show (pre ++ p :: post).foldl (bitF a) (bitF a acc x) < (pre ++ p :: post).foldl (bitF b) (bitF b acc x)
    rw [e]
    exact bits_lt pre post _ (fun y hy => h y (List.mem_cons_of_mem _ hy)) h1 h2
theorem have_up (P : Pok prs hs) (c : CanBe prs (roomM hs) held) (hp : p ∈ prs) (h : letB prs hs held p = true) : bitsM held prs < bitsM (haveM prs (roomM hs) held p) prs := by
  have hat := ix_at hp
  have e : prs = prs.take (ixN prs p) ++ p :: prs.drop (ixN prs p + 1) := by
    obtain ⟨h1, h2⟩ := List.getElem?_eq_some_iff.mp hat
    have e' : prs.drop (ixN prs p) = p :: prs.drop (ixN prs p + 1) := by rw [List.drop_eq_getElem_cons h1, h2]
    rw [← e', List.take_append_drop]
  unfold bitsM
  have key := bits_lt (p := p) (a := held) (b := haveM prs (roomM hs) held p) (prs.take (ixN prs p)) (prs.drop (ixN prs p + 1)) 0 (fun x hx => ?_) (fun z => ?_) (by unfold haveM; simp)
  · rw [← e] at key
    exact key
  · obtain ⟨hx1, hx2⟩ := (mem_take P).mp hx
    unfold haveM
    rw [List.mem_append, List.mem_filter, List.mem_singleton]
    refine ⟨fun y => .inl ⟨y, ?_⟩, fun y => ?_⟩
    · cases hk : keepB (lostM prs (roomM hs) held p) x with
      | true => rfl
      | false =>
        have := gone_later P c hp h y hk
        omega
    · rcases y with y | y
      · exact y.1
      · rw [y] at hx2 ; omega
  · have := (let_true hp P c h).2.1 p z rfl
    omega
def leftM (held prs : Prs) : Nat := 2 ^ prs.length - bitsM held prs
theorem have_left (P : Pok prs hs) (c : CanBe prs (roomM hs) held) (hp : p ∈ prs) (h : letB prs hs held p = true) : leftM (haveM prs (roomM hs) held p) prs < leftM held prs := by
  have h1 := have_up P c hp h
  have h2 := (bits_bound (haveM prs (roomM hs) held p) prs 0).2
  rw [Nat.zero_add, Nat.one_mul] at h2
  have h2 : bitsM (haveM prs (roomM hs) held p) prs < 2 ^ prs.length := h2
  unfold leftM
  omega
theorem have_len (P : Pok prs hs) (c : CanBe prs (roomM hs) held) (hp : p ∈ prs) (h : letB prs hs held p = true) : (haveM prs (roomM hs) held p).length ≤ prs.length :=
  List.Nodup.length_le_of_subset (have_can P c hp h).nodup fun q hq => (have_can P c hp h).mem q hq
end
end Dm

/-! xs.index of data, slices of tuples compared, lists of data compared with [] -/
namespace Dm
open PySem PySem.Spec PyProof.Rows L2 Evl
theorem indexDK {X : Cx} {K : PySem.W.Frag} (h : X.K = K) (hu : X.A.units + 65 < cLine) : MtR X "list.index" (rIndexD K) := h ▸ mt_indexD hu
theorem sortedIK {X : Cx} {K : PySem.W.Frag} (h : X.K = K) : CallR X (.builtin "sorted") (rSortedI K) := h ▸ cr_sortedI
theorem units65 {k : Nat} {A : Around} (r : Room k A) : A.units + 65 < cLine := by have := r.un; omega
theorem eqv_int (a b : Int) : PyData.eqv (.int a) (.int b) = decide (a = b) := by
  simp only [PyData.eqv]
  rw [Bool.eq_iff_iff, beq_iff_eq, decide_eq_true_iff]
theorem eqv_pr (p q : List Int × Int) : PyData.eqv (prD p) (prD q) = decide (p = q) := by
  have : PyData.eqv (prD p) (prD q) = (PyData.eqv (mkD p.1) (mkD q.1) && (PyData.eqv (.int p.2) (.int q.2) && true)) := by
    unfold prD
    simp only [PyData.eqv, PyData.eqvAll]
  rw [this, eqv_mk, eqv_int, Bool.and_true, Bool.eq_iff_iff, Bool.and_eq_true, decide_eq_true_iff, decide_eq_true_iff, decide_eq_true_iff]
  exact ⟨fun ⟨a, b⟩ => Prod.ext a b, fun e => ⟨by rw [e], by rw [e]⟩⟩
section
variable {K : PySem.W.Frag} {σ : L2.St} {H : Hp} {to te ta tb th : TE} {a b : Addr} {v : V} {xs : List V}
/-- order.index(pair) -/
theorem ev_index {prs : Prs} {p : List Int × Int} (ho : Ev to σ H (.ref a)) (hx : SqL K H a xs) (tx : Tps H xs (prs.map prD)) (he : Ev te σ H v) (hv : Tp H v (prD p)) (hp : p ∈ prs) (hn : prs.Nodup) (hl : prs.length ≤ 40000) (hid : ∀ q ∈ prs, q.1.length ≤ 40000) :
    Ev (tBM K "list" (rIndexD K) to (tCons te tNil)) σ H (.int (ixM prs p)) := fun H1 e Q q =>
  ho H1 e _ fun H2 e2 => ⟨.inl ⟨rfl, xs, ex_l (e.trans e2) hx⟩, he H2 (e.trans e2) _ fun H3 e3 => by
    have e' := (e.trans e2).trans e3
    have f1 := fine_prs hl hid
    have f2 : Fint 2 (prD p) := fine_two (fine_mk (hid p hp)) (.int _ _)
    have hat := ix_at hp
    refine ⟨a, v, prD p, prs.map prD, ixN prs p, prD p, rfl, rfl, .lst (ex_l e' hx) (tx.mono (Same.ts e')).dp, (hv.mono (Same.ts e')).dp, f1.shaped (by decide), f2.shaped (by decide), by rw [List.getElem?_map, hat]; rfl, by rw [eqv_pr, decide_eq_true rfl], fun m z' hm hz => ?_, q H3 (e2.trans e3)⟩
    rw [List.getElem?_map, Option.map_eq_some_iff] at hz
    obtain ⟨r, hr, rfl⟩ := hz
    rw [eqv_pr, decide_eq_false_iff_not]
    intro z
    subst z
    have : prs.idxOf r = m := idx_at hn hr
    exact absurd hm (Nat.not_lt.mpr (Nat.le_of_eq this))⟩
/-- t[:n] == u, tuples of numbers -/
theorem ev_sliceEq {l o : List Int} {n : Nat} {c d : Addr} {tl : TO} (h : Ev te σ H (.ref c)) (h1 : EvO tl σ H none) (h2 : EvO (tPart th) σ H (some (n : Int))) (hl : Tp H (.ref c) (mkD l)) (hb : Ev tb σ H (.ref d)) (ho : Tp H (.ref d) (mkD o)) (ll : l.length ≤ 40000) (lo : o.length ≤ 40000) :
    EvT (tTest (tOp (rEqD K) (tSl (rSlF K) te tl (tPart th)) tb)) σ H (decide (l.take n = o)) := fun H1 e Q q => by
  obtain ⟨c', ys, ec, hc, hys⟩ := hl.tup_inv
  cases ec
  have z := hys.ints ; subst z
  have fin : ∀ {H4 : Hp} {p : Addr}, Same H1 H4 → Tp H4 (.ref p) (mkD (l.take n)) → tb σ H4 fun w H5 => rEqD K (.ref p) w H5 fun x H6 => ∃ k, x = .bl k ∧ Q k H6 := fun {H4 p} e4 hp => hb H4 (e.trans e4) _ fun H5 e5 =>
    ⟨mkD (l.take n), mkD o, (hp.mono (Same.ts e5)).dp, (ho.mono (Same.ts ((e.trans e4).trans e5))).dp, (fine_mk (by rw [List.length_take]; omega)).shaped (by decide), (fine_mk lo).shaped (by decide), _, rfl, by rw [eqv_mk]; exact q H5 (e4.trans e5)⟩
  refine h H1 e _ fun H2 e2 => h1 H2 (e.trans e2) _ fun H3 e3 => h2 H3 ((e.trans e2).trans e3) _ fun H4 e4 => ?_
  have E := ((e.trans e2).trans e3).trans e4
  have E' := (e2.trans e3).trans e4
  have hc4 := hc.mono (Same.ts E)
  refine ⟨c, l.map V.int, rfl, hc4.sq, fun ⟨_, z⟩ => ?_, fun z p ob hp hob => ?_⟩
  · rw [HT.sIx_nat] at z
    have e5 : l.take n = l := List.take_of_length_le (by rw [List.length_map] at z; omega)
    refine fin E' ?_
    rw [e5]
    exact .tup hc4 (Tps.of_ints l)
  · have ec : cutV (l.map V.int) none (some (n : Int)) = (l.take n).map V.int := by
      unfold cutV
      rw [HT.sIx_nat, HT.sIx_none, List.drop_zero, Nat.sub_zero, List.map_take]
      rw [List.take_eq_take_iff]
      omega
    rw [ec]
    exact fin (E'.trans (Same.new hp)) (.tup (TupAt.new hob) (Tps.of_ints _))
/-- [..] == [] where the list is new and of data -/
theorem et_eqNil {ds : List PyData} (h : EvL te σ H xs) (tx : Tps H xs ds) (hb : EvL tb σ H []) (sh : SeqAt.shaped (.list ds) = true) : EvT (tTest (tOp (rEqD K) te tb)) σ H (decide (ds = [])) := fun H1 e Q q =>
  h H1 e _ fun p H2 hp e2 h2 => hb H2 (e.trans e2) _ fun r H3 hr e3 h3 => ⟨.list ds, .list [], .lst (SqL.of (e3 _ _ h2)) (tx.mono (Same.ts ((e.trans e2).trans e3))).dp, .lst (SqL.of h3) .nil, sh, (show SeqAt.shaped (.list []) = true by decide), _, rfl, by rw [eqv_nilL]; exact q H3 (e2.trans e3)⟩
end
theorem Tps.zipped' {α : Type} {H : Hp} {enc : α → PyData} : ∀ {vs : List V} {l : List α}, Tps H vs (l.map enc) → (vs.zip l).map (·.2) = l ∧ ∀ z ∈ vs.zip l, Tp H z.1 (enc z.2)
  | [], [], _ => ⟨rfl, fun _ h => nomatch h⟩
  | v :: vs, x :: l, .cons h t => by
    obtain ⟨h1, h2⟩ := Tps.zipped' t
    refine ⟨by rw [List.zip_cons_cons, List.map_cons, h1], fun z hz => ?_⟩
    rcases List.mem_cons.mp hz with e | e
    · rw [e] ; exact h
    · exact h2 z e
theorem Tps.of_all {α : Type} {H : Hp} {enc : α → PyData} : ∀ {l : List (V × α)}, (∀ z ∈ l, Tp H z.1 (enc z.2)) → Tps H (l.map (·.1)) ((l.map (·.2)).map enc)
  | [], _ => .nil
  | z :: l, h => .cons (h z (List.mem_cons_self ..)) (Tps.of_all fun y hy => h y (List.mem_cons_of_mem _ hy))
/-- what a comprehension keeps of a list -/
theorem given_keep {α : Type} [Inhabited α] {H : Hp} {enc : α → PyData} {vs : List V} {l : List α} (f : α → Bool) (t : Tps H vs (l.map enc)) : Tps H (given vs.length (fun i => f (l.getD i default)) (fun i => vs.getD i .non)) ((l.filter f).map enc) := by
  have hl : vs.length = l.length := by rw [t.length, List.length_map]
  obtain ⟨h1, h2⟩ := Tps.zipped' t
  have hz : (vs.zip l).length = vs.length := by rw [List.length_zip]; omega
  have e : given vs.length (fun i => f (l.getD i default)) (fun i => vs.getD i .non) = ((vs.zip l).filter fun z => f z.2).map (·.1) := by
    rw [← hz]
    refine given_map (vs.zip l) _ _ _ _ (fun i z hi => ?_) (fun i z hi => ?_)
    · rw [List.getElem?_zip_eq_some] at hi
      rw [List.getD_eq_getElem?_getD, hi.2] ; rfl
    · rw [List.getElem?_zip_eq_some] at hi
      rw [List.getD_eq_getElem?_getD, hi.1] ; rfl
  rw [e]
  have e2 : l.filter f = ((vs.zip l).filter fun z => f z.2).map (·.2) := by
    conv => lhs; rw [← h1]
    rw [List.filter_map]
    rfl
  rw [e2]
  exact Tps.of_all fun z hz => h2 z (List.mem_filter.mp hz).1
theorem keep_eq (lost : List (List Int)) (t : List Int × Int) : decide ((lost.filter fun o => decide (t.1.take o.length = o)).map mkD = []) = keepB lost t := by
  unfold keepB
  rw [Bool.eq_iff_iff, decide_eq_true_iff, List.map_eq_nil_iff, List.filter_eq_nil_iff, List.all_eq_true]
  exact ⟨fun h o ho => by have := h o ho; simpa using this, fun h o ho => by have := h o ho; simpa using this⟩
theorem fine_mks {l : List (List Int)} (h1 : l.length ≤ 40000) (h2 : ∀ m ∈ l, m.length ≤ 40000) : Fint 2 (.list (l.map mkD)) := .list (by rw [List.length_map]; exact h1) fun d hd => by
  obtain ⟨m, hm, rfl⟩ := List.mem_map.mp hd
  exact fine_mk (h2 m hm)
/-- the last of the sorted is the greatest -/
theorem last_max {ns own : List Int} (pm : ns.Perm own) (sd : ns.Pairwise (· ≤ ·)) (hne : own ≠ []) : ∃ ns0, ns = ns0 ++ [maxI (-1) own] := by
  rcases List.eq_nil_or_concat ns with rfl | ⟨ns0, x, rfl⟩
  · exact absurd pm.nil_eq.symm hne
  · rw [List.concat_eq_append] at pm sd ⊢
    refine ⟨ns0, ?_⟩
    have h1 := maxI_ge (pm.mem_iff.mp (by simp) : x ∈ own)
    have h2 := pm.mem_iff.mpr (maxI_mem hne)
    have h3 : maxI (-1) own ≤ x := by
      rcases List.mem_append.mp h2 with z | z
      · exact (List.pairwise_append.mp sd).2.2 _ z x (by simp)
      · rw [List.mem_singleton.mp z] ; exact Int.le_refl _
    have : x = maxI (-1) own := by omega
    rw [this]
end Dm

/-! pairs sorted; rooms by dict(..); what stays through a law's turns -/
namespace Dm
open PySem PySem.Spec PyProof.Rows L2 Evl
open PySem.W (dataLe)
theorem merge_new : ∀ {more kvs : List (Key × V)}, ((kvs ++ more).map (·.1)).Nodup → mergeK kvs more = kvs ++ more
  | [], kvs, _ => (List.append_nil _).symm
  | p :: more, kvs, h => by
    have hn : valV kvs p.1 = none := by
      cases hv : valV kvs p.1 with
      | none => rfl
      | some v =>
        have : p.1 ∈ kvs.map (·.1) := by
          have := valV_any (kvs := kvs) (k := p.1)
          rw [hv] at this
          obtain ⟨q, hq, e⟩ := List.any_eq_true.mp this
          have e : q.1 = p.1 := by simpa using e
          exact List.mem_map.mpr ⟨q, hq, e⟩
        rw [List.map_append, List.nodup_append] at h
        exact absurd rfl (h.2.2 p.1 this p.1 (List.mem_map.mpr ⟨p, List.mem_cons_self .., rfl⟩))
    show mergeK (putK kvs p.1 p.2) more = kvs ++ p :: more
    rw [putK_new _ hn, merge_new (by rw [List.append_assoc]; exact h), List.append_assoc]
    rfl
def rmD (h : Hlp) : PyData := .tuple [.int h.1, .int h.2.2]
theorem rm_pairs {K : PySem.W.Frag} {H : Hp} : ∀ {acc : List V} {hs : List Hlp}, Tps H acc (hs.map rmD) → ∃ ps : List Addr, acc = ps.map V.ref ∧ Paired (fun p kv => SqT K H p [kV kv.1, kv.2]) ps (hs.map rmE)
  | [], [], _ => ⟨[], rfl, .nil⟩
  | v :: acc, h :: hs, .cons hv t => by
    obtain ⟨ps, e, pr⟩ := rm_pairs (K := K) t
    obtain ⟨b, ys, rfl, hb, hys⟩ := hv.tup_inv
    obtain ⟨x, y, rfl, hx, hy⟩ := hys.two
    have z := hx.int_inv ; subst z
    have z := hy.int_inv ; subst z
    exact ⟨b :: ps, by rw [e]; rfl, .cons hb.sq pr⟩
theorem rm_merge {hs : List Hlp} (hn : (hs.map (·.1)).Nodup) : mergeK [] (hs.map rmE) = hs.map rmE := by
  refine merge_new ?_
  rw [List.nil_append, List.map_map]
  have e : hs.map ((fun p : Key × V => p.1) ∘ rmE) = (hs.map (·.1)).map Sum.inl := by rw [List.map_map]; rfl
  rw [e]
  exact List.pairwise_map.mpr (hn.imp fun h z => h (by injection z))
def sortP (l : Prs) : Prs := l.mergeSort (dataLe false prD)
theorem srt_pr {H : Hp} {vs : List V} {l : Prs} (al : ∀ p q : List Int × Int, PySem.W.alike (prD p) (prD q) = true) (dp : ∀ p : List Int × Int, (prD p).depth ≤ 16) (h : Tps H vs (l.map prD)) : SrtOk H (vs.zip (l.map prD)) := by
  obtain ⟨h1, h2, h3⟩ := h.zipped
  refine ⟨h3, by rw [h2]; exact PySem.W.AllAlike.of al, by rw [h2]; exact PySem.W.Sortable.tuples fun r => ⟨_, _, rfl⟩, fun b hb => ?_⟩
  have : b.2 ∈ (vs.zip (l.map prD)).map (·.2) := List.mem_map.mpr ⟨b, hb, rfl⟩
  rw [h2] at this
  obtain ⟨r, _, e⟩ := List.mem_map.mp this
  rw [← e]
  exact dp r
theorem srt_prs {H : Hp} {vs : List V} {l : Prs} (h : Tps H vs (l.map prD)) : Tps H ((srtD (vs.zip (l.map prD))).map (·.1)) ((sortP l).map prD) := by
  obtain ⟨h1, h2, h3⟩ := h.zipped
  have := Tps.unzip (bs := srtD (vs.zip (l.map prD))) fun b hb => h3 b (srt_mem hb)
  rwa [srt_data prD h2] at this
theorem could_mem {prs held : Prs} {hs : List Hlp} {p : List Int × Int} : p ∈ couldM prs hs held ↔ p ∈ prs ∧ letB prs hs held p = true := List.mem_filter
theorem could_nil {prs held : Prs} {hs : List Hlp} : couldM prs hs held = [] ↔ ∀ p ∈ prs, letB prs hs held p = false := by
  unfold couldM
  rw [List.filter_eq_nil_iff]
  exact ⟨fun h p hp => by cases e : letB prs hs held p with | true => exact absurd e (h p hp) | false => rfl, fun h p hp => by rw [h p hp]; decide⟩
end Dm

namespace Dm
open PySem PySem.Spec PyProof.Rows L2 Evl
section
variable {K : PySem.W.Frag} {σ : L2.St} {H : Hp} {te tb : TE} {p : Addr} {xs : List V} {ds es : List PyData}
/-- xs != [], xs of data -/
theorem et_neNilD (h : Ev te σ H (.ref p)) (hx : SqL K H p xs) (tx : Tps H xs ds) (sh : SeqAt.shaped (.list ds) = true) : EvT (tTest (tOp (rNeD K) te (tLst tNil))) σ H (!decide (ds = [])) := fun H1 e Q q =>
  h H1 e _ fun H2 e2 => (el_lst ea_nil (by decide)) H2 (e.trans e2) _ fun r H3 hr e3 h3 => ⟨.list ds, .list [], .lst (ex_l ((e.trans e2).trans e3) hx) (tx.mono (Same.ts ((e.trans e2).trans e3))).dp, .lst (SqL.of h3) .nil, sh, (show SeqAt.shaped (.list []) = true by decide), _, rfl, by rw [eqv_nilL]; exact q H3 (e2.trans e3)⟩
theorem shaped_prs {l : Prs} (h1 : l.length ≤ 40000) (h2 : ∀ p ∈ l, p.1.length ≤ 40000) : SeqAt.shaped (.list (l.map prD)) = true := (fine_prs h1 h2).shaped (by decide)
end
end Dm

/-! other marks, other numbers: all is told alike -/
namespace Dm
open PySem PySem.Spec PyProof.Rows L2 Evl
open PySem.W (dataLe dataLt)
/-! ### marks by other numbers -/
def oAt (o : List (List Int)) (k : Nat) (x : Int) : Int := (o.getD k []).getD x.toNat 0
def renM (o : List (List Int)) (m : List Int) : List Int := (List.range 3).map fun k => oAt o k (m.getD k 0)
def renW (o : List (List Int)) (w : List Int) : List Int := (List.range 3).map fun k => if 0 ≤ w.getD k 0 then oAt o k (w.getD k 0) else -1
def renC (o : List (List Int)) (cs : List (List Int × Int)) : List (List Int × Int) := cs.map fun c => (renW o c.1, c.2)
structure OkO (o : List (List Int)) : Prop where
  len : o.length = 3
  row : ∀ l ∈ o, l.length = 10 ∧ l.Nodup ∧ ∀ x ∈ l, 0 ≤ x ∧ x ≤ 9
section
variable {o : List (List Int)} {m w : List Int} {cs : List (List Int × Int)} {k : Nat} {x y : Int}
theorem oAt_row (h : OkO o) (hk : k < 3) : o.getD k [] ∈ o := by
  rw [List.getD_eq_getElem?_getD, List.getElem?_eq_getElem (by rw [h.len]; exact hk)]
  exact List.getElem_mem _
theorem oAt_rng (h : OkO o) (hk : k < 3) (h0 : 0 ≤ x) (h1 : x ≤ 9) : 0 ≤ oAt o k x ∧ oAt o k x ≤ 9 := by
  obtain ⟨a, _, b⟩ := h.row _ (oAt_row h hk)
  refine b _ ?_
  unfold oAt
  generalize o.getD k [] = l at a
  rw [List.getD_eq_getElem?_getD, List.getElem?_eq_getElem (by rw [a]; omega)]
  exact List.getElem_mem _
theorem oAt_inj (h : OkO o) (hk : k < 3) (x0 : 0 ≤ x) (x1 : x ≤ 9) (y0 : 0 ≤ y) (y1 : y ≤ 9) : oAt o k x = oAt o k y ↔ x = y := by
  refine ⟨fun e => ?_, fun e => by rw [e]⟩
  obtain ⟨a, b, _⟩ := h.row _ (oAt_row h hk)
  unfold oAt at e
  generalize o.getD k [] = l at a b e
  have h1 : x.toNat < l.length := by rw [a]; omega
  have h2 : y.toNat < l.length := by rw [a]; omega
  rw [List.getD_eq_getElem?_getD, List.getD_eq_getElem?_getD, List.getElem?_eq_getElem h1, List.getElem?_eq_getElem h2] at e
  have e : l[x.toNat] = l[y.toNat] := e
  have := (List.getElem?_inj h1 b).mp (show l[x.toNat]? = l[y.toNat]? by rw [List.getElem?_eq_getElem h1, List.getElem?_eq_getElem h2, e])
  omega
theorem getD_mem3 (hm : m.length = 3) (hk : k < 3) : m.getD k 0 ∈ m := by
  rw [List.getD_eq_getElem?_getD, List.getElem?_eq_getElem (by omega)]
  exact List.getElem_mem _
theorem ren_get (hk : k < 3) : (renM o m).getD k 0 = oAt o k (m.getD k 0) := by
  unfold renM
  rw [List.getD_eq_getElem?_getD, List.getElem?_map, List.getElem?_range hk]; rfl
theorem renW_get (hk : k < 3) : (renW o w).getD k 0 = if 0 ≤ w.getD k 0 then oAt o k (w.getD k 0) else -1 := by
  unfold renW
  rw [List.getD_eq_getElem?_getD, List.getElem?_map, List.getElem?_range hk]; rfl
theorem renM_ok (h : OkO o) (hm : okMarks m) : okMarks (renM o m) := by
  refine ⟨by unfold renM; simp, fun x hx => ?_⟩
  obtain ⟨k, hk, rfl⟩ := List.mem_map.mp hx
  have hk := List.mem_range.mp hk
  have := hm.2 _ (getD_mem3 hm.1 hk)
  exact oAt_rng h hk this.1 this.2
theorem renW_ok (h : OkO o) (hw : w.length = 3) (hr : ∀ x ∈ w, -1 ≤ x ∧ x ≤ 9) : (renW o w).length = 3 ∧ ∀ x ∈ renW o w, -1 ≤ x ∧ x ≤ 9 := by
  refine ⟨by unfold renW; simp, fun x hx => ?_⟩
  obtain ⟨k, hk, rfl⟩ := List.mem_map.mp hx
  have hk := List.mem_range.mp hk
  have := hr _ (getD_mem3 hw hk)
  split
  · rename_i h0
    have := oAt_rng h hk h0 this.2
    omega
  · omega
theorem renC_ok (h : OkO o) (hc : okClaims cs) : okClaims (renC o cs) := by
  refine ⟨by unfold renC; rw [List.length_map]; exact hc.1, fun c hx => ?_⟩
  obtain ⟨c', hc', rfl⟩ := List.mem_map.mp hx
  obtain ⟨a, b, c1, c2⟩ := hc.2 c' hc'
  have := renW_ok h a b
  exact ⟨this.1, this.2, c1, c2⟩
theorem cntEq_ren (h : OkO o) (hm : okMarks m) (hw : w.length = 3) (hr : ∀ x ∈ w, -1 ≤ x ∧ x ≤ 9) : cntEq (renW o w) (renM o m) = cntEq w m := by
  unfold cntEq
  congr 1
  refine List.filter_congr fun k hk => ?_
  have hk := List.mem_range.mp hk
  have a := hr _ (getD_mem3 hw hk)
  have b := hm.2 _ (getD_mem3 hm.1 hk)
  rw [renW_get hk, ren_get hk, Bool.eq_iff_iff, decide_eq_true_iff, decide_eq_true_iff]
  by_cases z : 0 ≤ w.getD k 0
  · rw [if_pos z]
    exact oAt_inj h hk z a.2 b.1 b.2
  · rw [if_neg z]
    have := oAt_rng h hk b.1 b.2
    constructor <;> intro e <;> omega
theorem cntTold_ren (h : OkO o) (hw : w.length = 3) (hr : ∀ x ∈ w, -1 ≤ x ∧ x ≤ 9) : cntTold (renW o w) = cntTold w := by
  unfold cntTold
  congr 1
  refine List.filter_congr fun k hk => ?_
  have hk := List.mem_range.mp hk
  have a := hr _ (getD_mem3 hw hk)
  rw [renW_get hk]
  congr 1
  rw [Bool.eq_iff_iff, decide_eq_true_iff, decide_eq_true_iff]
  by_cases z : 0 ≤ w.getD k 0
  · rw [if_pos z]
    have := oAt_rng h hk z a.2
    constructor <;> intro e <;> omega
  · rw [if_neg z]
    constructor <;> intro e <;> omega
theorem lawFit_ren (h : OkO o) (hm : okMarks m) (hc : okClaims cs) : lawFit (renC o cs) (renM o m) = lawFit cs m := by
  unfold lawFit renC
  rw [List.foldl_map]
  have gen : ∀ (l : List (List Int × Int)) (b : Option Int), (∀ c ∈ l, okClaim c) → l.foldl (fun b c => stepF (renM o m) b (renW o c.1, c.2)) b = l.foldl (stepF m) b := by
    intro l
    induction l with
    | nil => exact fun b _ => rfl
    | cons c l ih =>
      intro b hl
      obtain ⟨a1, a2, _⟩ := hl c (List.mem_cons_self ..)
      rw [List.foldl_cons, List.foldl_cons]
      have e : stepF (renM o m) b (renW o c.1, c.2) = stepF m b c := by
        unfold stepF
        simp only [cntEq_ren h hm a1 a2, cntTold_ren h a1 a2]
      rw [e]
      exact ih _ fun c' hc' => hl c' (List.mem_cons_of_mem _ hc')
  exact gen cs none hc.2
end
/-! ### things by other marks -/
mutual
def Th.ren (o : List (List Int)) : Th → Th
  | .mk m is => .mk (renM o m) (Th.rens o is)
def Th.rens (o : List (List Int)) : List Th → List Th
  | [] => []
  | t :: ts => t.ren o :: Th.rens o ts
end
theorem Th.rens_map (o : List (List Int)) : ∀ ts : List Th, Th.rens o ts = ts.map (Th.ren o)
  | [] => by simp only [Th.rens, List.map_nil]
  | t :: ts => by simp only [Th.rens, List.map_cons, Th.rens_map o ts]
theorem Th.ren_mk (o : List (List Int)) (m : List Int) (is : List Th) : Th.ren o (.mk m is) = .mk (renM o m) (is.map (Th.ren o)) := by simp only [Th.ren, Th.rens_map]
theorem Th.ren_ok {o : List (List Int)} (h : OkO o) : ∀ {n : Nat} {t : Th}, t.ok n → (t.ren o).ok n
  | 0, .mk m is, ok => by
    rw [Th.ren_mk]
    exact ⟨renM_ok h ok.1, by rw [ok.2]; rfl⟩
  | n + 1, .mk m is, ok => by
    rw [Th.ren_mk]
    refine ⟨renM_ok h ok.1, by rw [List.length_map]; exact ok.2.1, fun t ht => ?_⟩
    obtain ⟨t', ht', rfl⟩ := List.mem_map.mp ht
    exact Th.ren_ok h (ok.2.2 t' ht')
/-! ### numbers by others -/
def shiftN (far : Int) : List Int → List Int
  | [] => []
  | x :: r => (x + far) :: r
def mvP (far : Int) (p : List Int × Int) : List Int × Int := (shiftN far p.1, p.2 + far)
section
variable {far : Int} {a b : List Int}
theorem shift_len : (shiftN far a).length = a.length := by cases a <;> rfl
theorem shift_inj : shiftN far a = shiftN far b ↔ a = b := by
  refine ⟨fun e => ?_, fun e => by rw [e]⟩
  cases a with
  | nil => cases b with
    | nil => rfl
    | cons y b => cases e
  | cons x a => cases b with
    | nil => cases e
    | cons y b =>
      injection e with e1 e2
      rw [e2, show x = y by omega]
theorem shift_drop : (shiftN far a).dropLast = shiftN far a.dropLast := by
  cases a with
  | nil => rfl
  | cons x a => cases a with
    | nil => rfl
    | cons y a => rfl
theorem shift_app (h : a ≠ []) : shiftN far (a ++ b) = shiftN far a ++ b := by
  cases a with
  | nil => exact absurd rfl h
  | cons x a => rfl
theorem shift_lt : shiftN far a < shiftN far b ↔ a < b := by
  cases a with
  | nil => cases b with
    | nil => exact Iff.rfl
    | cons y b => exact ⟨fun _ => List.nil_lt_cons .., fun _ => List.nil_lt_cons ..⟩
  | cons x a => cases b with
    | nil => exact ⟨fun h => absurd h (List.not_lt_nil _), fun h => absurd h (List.not_lt_nil _)⟩
    | cons y b =>
      show (x + far) :: a < (y + far) :: b ↔ x :: a < y :: b
      rw [List.cons_lt_cons_iff, List.cons_lt_cons_iff]
      constructor
      · rintro (h | ⟨h1, h2⟩)
        · exact .inl (by omega)
        · exact .inr ⟨by omega, h2⟩
      · rintro (h | ⟨h1, h2⟩)
        · exact .inl (by omega)
        · exact .inr ⟨by omega, h2⟩
theorem mv_inj {p q : List Int × Int} : mvP far p = mvP far q ↔ p = q := by
  refine ⟨fun e => ?_, fun e => by rw [e]⟩
  have e1 : shiftN far p.1 = shiftN far q.1 := congrArg Prod.fst e
  have e2 : p.2 + far = q.2 + far := congrArg Prod.snd e
  exact Prod.ext (shift_inj.mp e1) (by omega)
end
def renTs (o : List (List Int)) (far : Int) (ts : List (Int × Th)) : List (Int × Th) := ts.map fun t => (t.1 + far, t.2.ren o)
def renH (o : List (List Int)) (far : Int) (hs : List Hlp) : List Hlp := hs.map fun h => (h.1 + far, renC o h.2.1, h.2.2)
section
variable {o : List (List Int)} {far : Int} {ts : List (Int × Th)} {hs : List Hlp}
theorem nums_far {ns : List Int} (h : OkNums ns) (h0 : 0 ≤ far) (h1 : ∀ n ∈ ns, n + far ≤ 999) : OkNums (ns.map (· + far)) :=
  ⟨by rw [List.length_map]; exact h.len, List.pairwise_map.mpr (h.rise.imp fun h => by omega), fun n hn => by
    obtain ⟨m, hm, rfl⟩ := List.mem_map.mp hn
    have := h.rng m hm
    have := h1 m hm
    omega⟩
theorem renTs_ok (ho : OkO o) (h : OkThings ts) (h0 : 0 ≤ far) (h1 : ∀ n ∈ ts.map (·.1), n + far ≤ 999) : OkThings (renTs o far ts) := by
  refine ⟨?_, fun t ht => ?_⟩
  · have := nums_far h.nums h0 h1
    unfold renTs
    rw [List.map_map] at this ⊢
    exact this
  · obtain ⟨t', ht', rfl⟩ := List.mem_map.mp ht
    exact Th.ren_ok ho (h.ok t' ht')
theorem renH_ok (ho : OkO o) (h : OkHelpers hs) (h0 : 0 ≤ far) (h1 : ∀ n ∈ hs.map (·.1), n + far ≤ 999) : OkHelpers (renH o far hs) := by
  refine ⟨?_, fun t ht => ?_⟩
  · have := nums_far h.nums h0 h1
    unfold renH
    rw [List.map_map] at this ⊢
    exact this
  · obtain ⟨t', ht', rfl⟩ := List.mem_map.mp ht
    obtain ⟨a, b⟩ := h.ok t' ht'
    exact ⟨renC_ok ho a, b⟩
theorem plAll_ren {f g : Nat → Th → List (List Int × List Int)} (G : List Int × List Int → List Int × List Int) (h : ∀ k t, g k (t.ren o) = (f k t).map G) : ∀ (k : Nat) (is : List Th), plAll g k (is.map (Th.ren o)) = (plAll f k is).map G
  | k, [] => rfl
  | k, t :: is => by
    show g k (t.ren o) ++ plAll g (k + 1) (is.map (Th.ren o)) = (f k t ++ plAll f (k + 1) is).map G
    rw [h, plAll_ren G h, List.map_append]
theorem pl_ren : ∀ (n : Nat) (nm : List Int) (t : Th), nm ≠ [] → Th.pl n (shiftN far nm) (t.ren o) = (Th.pl n nm t).map fun p => (shiftN far p.1, renM o p.2)
  | 0, nm, .mk m is, _ => by rw [Th.ren_mk]; rfl
  | n + 1, nm, .mk m is, hn => by
    rw [Th.ren_mk]
    show (shiftN far nm, renM o m) :: plAll (fun k t => Th.pl n (shiftN far nm ++ [(k : Int)]) t) 0 (is.map (Th.ren o)) = _
    rw [plAll_ren (f := fun k t => Th.pl n (nm ++ [(k : Int)]) t) (fun p => (shiftN far p.1, renM o p.2)) (fun k t => by
      rw [← shift_app hn]
      exact pl_ren n _ t (by simp))]
    rfl
theorem plcs_ren : plcs (renTs o far ts) = (plcs ts).map fun p => (shiftN far p.1, renM o p.2) := by
  unfold plcs renTs
  rw [List.flatMap_map, List.map_flatMap]
  congr 1
  funext t
  exact pl_ren 2 [t.1] t.2 (by simp)
theorem fm_congr {α β : Type} {f g : α → Option β} : ∀ {l : List α}, (∀ a ∈ l, f a = g a) → l.filterMap f = l.filterMap g
  | [], _ => rfl
  | a :: l, h => by
    rw [List.filterMap_cons, List.filterMap_cons, h a (List.mem_cons_self ..), fm_congr fun b hb => h b (List.mem_cons_of_mem _ hb)]
def mvR (far : Int) (r : Rk) : Rk := (shiftN far r.1, r.2.1, r.2.2 + far)
theorem rkOf_ren (ho : OkO o) (hh : OkHelpers hs) {p : List Int × List Int} (hp : okMarks p.2) : rkOf (shiftN far p.1, renM o p.2) (renH o far hs) = (rkOf p hs).map (mvR far) := by
  unfold rkOf renH
  rw [List.filterMap_map, List.map_filterMap]
  refine fm_congr fun h hx => ?_
  show (lawFit (renC o h.2.1) (renM o p.2)).map _ = ((lawFit h.2.1 p.2).map _).map _
  rw [lawFit_ren ho hp (hh.ok h hx).1, Option.map_map]
  rfl
theorem rks_ren (ho : OkO o) (hh : OkHelpers hs) : ∀ {ps : List (List Int × List Int)}, (∀ p ∈ ps, okMarks p.2) → rks (ps.map fun p => (shiftN far p.1, renM o p.2)) (renH o far hs) = (rks ps hs).map (mvR far)
  | [], _ => rfl
  | p :: ps, h => by
    show rkOf (shiftN far p.1, renM o p.2) (renH o far hs) ++ rks (ps.map fun p => (shiftN far p.1, renM o p.2)) (renH o far hs) = (rkOf p hs ++ rks ps hs).map (mvR far)
    rw [rkOf_ren ho hh (h p (List.mem_cons_self ..)), rks_ren ho hh fun q hq => h q (List.mem_cons_of_mem _ hq), List.map_append]
theorem lt_rk (a b : Rk) : dataLt (rkD a) (rkD b) = if a.1.length = b.1.length then (if a.2.1 = b.2.1 then (if a.2.2 = b.2.2 then (if a.1 = b.1 then false else decide (a.1 < b.1)) else decide (a.2.2 < b.2.2)) else decide (b.2.1 < a.2.1)) else decide (a.1.length < b.1.length) := by
  unfold rkD
  rw [PySem.W.dataLt_tuple, PySem.W.dataLt_cons (by simp [PySem.W.alike]), eqv_int, PySem.W.dataLt_cons (by simp [PySem.W.alike]), eqv_int, PySem.W.dataLt_cons (by simp [PySem.W.alike]), eqv_int, PySem.W.dataLt_cons (alike_mk _ _), eqv_mk, PySem.W.dataLt_int, PySem.W.dataLt_int, PySem.W.dataLt_int, lt_mk]
  by_cases h1 : a.1.length = b.1.length
  · rw [if_pos (decide_eq_true (by omega)), if_pos h1]
    by_cases h2 : a.2.1 = b.2.1
    · rw [if_pos (decide_eq_true (by omega)), if_pos h2]
      by_cases h3 : a.2.2 = b.2.2
      · rw [if_pos (decide_eq_true h3), if_pos h3]
        by_cases h4 : a.1 = b.1
        · rw [if_pos (decide_eq_true h4), if_pos h4]
          rfl
        · rw [if_neg (by simpa using h4), if_neg h4]
      · rw [if_neg (by simpa using h3), if_neg h3]
    · rw [if_neg (by rw [decide_eq_true_iff]; omega), if_neg h2, Bool.eq_iff_iff, decide_eq_true_iff, decide_eq_true_iff]
      omega
  · rw [if_neg (by rw [decide_eq_true_iff]; omega), if_neg h1, Bool.eq_iff_iff, decide_eq_true_iff, decide_eq_true_iff]
    omega
theorem lt_rk_mv (a b : Rk) : dataLt (rkD (mvR far a)) (rkD (mvR far b)) = dataLt (rkD a) (rkD b) := by
  rw [lt_rk, lt_rk]
  unfold mvR
  simp only [shift_len, shift_inj, shift_lt]
  have e1 : (a.2.2 + far = b.2.2 + far) = (a.2.2 = b.2.2) := by rw [eq_iff_iff]; omega
  have e2 : (a.2.2 + far < b.2.2 + far) = (a.2.2 < b.2.2) := by rw [eq_iff_iff]; omega
  simp only [e1, e2]
theorem lt_pr_mv (p q : List Int × Int) : dataLt (prD (mvP far p)) (prD (mvP far q)) = dataLt (prD p) (prD q) := by
  rw [lt_pr, lt_pr]
  unfold mvP
  simp only [shift_inj, shift_lt]
  have e2 : (p.2 + far < q.2 + far) = (p.2 < q.2) := by rw [eq_iff_iff]; omega
  simp only [e2]
theorem sortP_mv (l : Prs) : sortP (l.map (mvP far)) = (sortP l).map (mvP far) := by
  unfold sortP
  exact (PySem.W.sort_maps (mvP far) fun a _ b _ => by
    rw [PySem.W.dataLe_eq]
    show (!dataLt (prD b) (prD a)) = (!dataLt (prD (mvP far b)) (prD (mvP far a)))
    rw [lt_pr_mv]).symm
theorem prs_ren (ho : OkO o) (hh : OkHelpers hs) {ps : List (List Int × List Int)} (hp : ∀ p ∈ ps, okMarks p.2) : prsM (ps.map fun p => (shiftN far p.1, renM o p.2)) (renH o far hs) = (prsM ps hs).map (mvP far) := by
  unfold prsM ordR
  rw [rks_ren ho hh hp, ← PySem.W.sort_maps (r := dataLe false rkD) (s := dataLe false rkD) (mvR far) (l := rks ps hs) (fun a _ b _ => by
    rw [PySem.W.dataLe_eq]
    show (!dataLt (rkD b) (rkD a)) = (!dataLt (rkD (mvR far b)) (rkD (mvR far a)))
    rw [lt_rk_mv]), List.map_map, List.map_map]
  rfl
theorem room_far (n : Int) : roomM (renH o far hs) (n + far) = roomM hs n := by
  unfold roomM renH
  rw [List.find?_map, Option.map_map]
  have e : ((fun h : Hlp => decide (h.1 = n + far)) ∘ fun h : Hlp => (h.1 + far, renC o h.2.1, h.2.2)) = fun h : Hlp => decide (h.1 = n) := by
    funext h
    show decide (h.1 + far = n + far) = decide (h.1 = n)
    rw [Bool.eq_iff_iff, decide_eq_true_iff, decide_eq_true_iff]
    omega
  rw [e]
  rfl
theorem mem_ids {l : Prs} {nm : List Int} : shiftN far nm ∈ (l.map (mvP far)).map (·.1) ↔ nm ∈ l.map (·.1) := by
  rw [List.map_map]
  constructor
  · intro h
    obtain ⟨p, hp, e⟩ := List.mem_map.mp h
    exact List.mem_map.mpr ⟨p, hp, shift_inj.mp e⟩
  · intro h
    obtain ⟨p, hp, e⟩ := List.mem_map.mp h
    exact List.mem_map.mpr ⟨p, hp, by rw [← e]; rfl⟩
theorem cnt_mv {l : Prs} {n : Int} : cntM (l.map (mvP far)) (n + far) = cntM l n := by
  unfold cntM
  rw [List.map_map, List.count_eq_countP, List.count_eq_countP, List.countP_map, List.countP_map]
  refine List.countP_congr fun p _ => ?_
  show ((p.2 + far == n + far) = true) ↔ ((p.2 == n) = true)
  rw [beq_iff_eq, beq_iff_eq]
  omega
theorem can_mv {rm rm' : Int → Int} (hr : ∀ n, rm' (n + far) = rm n) (had : Prs) (p : List Int × Int) : canM rm' (had.map (mvP far)) (mvP far p) = canM rm had p := by
  unfold canM
  have e1 : decide ((mvP far p).1 ∈ (had.map (mvP far)).map (·.1)) = decide (p.1 ∈ had.map (·.1)) := by
    rw [Bool.eq_iff_iff, decide_eq_true_iff, decide_eq_true_iff]
    exact mem_ids
  have e2 : decide ((mvP far p).1.dropLast ∈ (had.map (mvP far)).map (·.1)) = decide (p.1.dropLast ∈ had.map (·.1)) := by
    rw [Bool.eq_iff_iff, decide_eq_true_iff, decide_eq_true_iff]
    show (shiftN far p.1).dropLast ∈ _ ↔ _
    rw [shift_drop]
    exact mem_ids
  have e3 : decide ((cntM (had.map (mvP far)) (mvP far p).2 : Int) < rm' (mvP far p).2) = decide ((cntM had p.2 : Int) < rm p.2) := by
    show decide ((cntM (had.map (mvP far)) (p.2 + far) : Int) < rm' (p.2 + far)) = _
    rw [cnt_mv, hr]
  have e4 : (mvP far p).1.length = p.1.length := shift_len
  rw [e1, e2, e3, e4]
theorem ch_mv {rm rm' : Int → Int} (hr : ∀ n, rm' (n + far) = rm n) (prs : Prs) : chM rm' (prs.map (mvP far)) = (chM rm prs).map (mvP far) := by
  unfold chM
  rw [List.foldl_map]
  have gen : ∀ (l had : Prs), l.foldl (fun h p => chStep rm' h (mvP far p)) (had.map (mvP far)) = (l.foldl (chStep rm) had).map (mvP far) := by
    intro l
    induction l with
    | nil => exact fun had => rfl
    | cons p l ih =>
      intro had
      rw [List.foldl_cons, List.foldl_cons]
      have e : chStep rm' (had.map (mvP far)) (mvP far p) = (chStep rm had p).map (mvP far) := by
        unfold chStep
        rw [can_mv hr]
        split
        · rw [List.map_append] ; rfl
        · rfl
      rw [e]
      exact ih _
  exact gen prs []
theorem rest_ren (ho : OkO o) (hh : OkHelpers hs) (ht : OkThings ts) : restM (renTs o far ts) (renH o far hs) = (restM ts hs).map (mvP far) := by
  unfold restM
  rw [plcs_ren, prs_ren ho hh fun p hp => (plcs_mem ht.ok hp).1]
  exact ch_mv room_far _
/-! ### what could be had, by others -/
theorem ix_mv (prs : Prs) (p : List Int × Int) : ixM (prs.map (mvP far)) (mvP far p) = ixM prs p := by
  unfold ixM
  congr 1
  induction prs with
  | nil => rfl
  | cons q l ih =>
    rw [List.map_cons, List.idxOf_cons, List.idxOf_cons, ih]
    have : (mvP far q == mvP far p) = (q == p) := by
      rw [Bool.eq_iff_iff, beq_iff_eq, beq_iff_eq]
      exact mv_inj
    rw [this]
theorem who_mv (prs held : Prs) (nm : List Int) : whoM (prs.map (mvP far)) (held.map (mvP far)) (shiftN far nm) = whoM prs held nm := by
  unfold whoM
  rw [List.find?_map, Option.map_map]
  have e : ((fun q : List Int × Int => decide (q.1 = shiftN far nm)) ∘ mvP far) = fun q => decide (q.1 = nm) := by
    funext q
    show decide (shiftN far q.1 = shiftN far nm) = decide (q.1 = nm)
    rw [Bool.eq_iff_iff, decide_eq_true_iff, decide_eq_true_iff]
    exact shift_inj
  rw [e]
  congr 1
  funext q
  exact ix_mv prs q
theorem own_mv (prs held : Prs) (n : Int) : ownI (ixM (prs.map (mvP far))) (held.map (mvP far)) (n + far) = ownI (ixM prs) held n := by
  unfold ownI
  rw [List.filter_map, List.map_map]
  have e : ((fun p : List Int × Int => decide (p.2 = n + far)) ∘ mvP far) = fun p => decide (p.2 = n) := by
    funext q
    show decide (q.2 + far = n + far) = decide (q.2 = n)
    rw [Bool.eq_iff_iff, decide_eq_true_iff, decide_eq_true_iff]
    omega
  rw [e]
  refine List.map_congr_left fun q _ => ?_
  exact ix_mv prs q
theorem bnd_mv (prs held : Prs) (n : Int) : bndM (prs.map (mvP far)) (renH o far hs) (held.map (mvP far)) (n + far) = bndM prs hs held n := by
  unfold bndM renH
  rw [List.find?_map, Option.map_map]
  have e : ((fun h : Hlp => decide (h.1 = n + far)) ∘ fun h : Hlp => (h.1 + far, renC o h.2.1, h.2.2)) = fun h : Hlp => decide (h.1 = n) := by
    funext h
    show decide (h.1 + far = n + far) = decide (h.1 = n)
    rw [Bool.eq_iff_iff, decide_eq_true_iff, decide_eq_true_iff]
    omega
  rw [e]
  congr 2
  funext h
  show bndI (ixM (prs.map (mvP far))) ((prs.map (mvP far)).length : Int) (held.map (mvP far)) (h.1 + far, renC o h.2.1, h.2.2) = bndI (ixM prs) (prs.length : Int) held h
  unfold bndI
  rw [own_mv, List.length_map]
theorem let_mv (prs held : Prs) (p : List Int × Int) : letB (prs.map (mvP far)) (renH o far hs) (held.map (mvP far)) (mvP far p) = letB prs hs held p := by
  unfold letB
  have e1 : decide ((mvP far p).1.dropLast ∈ (held.map (mvP far)).map (·.1)) = decide (p.1.dropLast ∈ held.map (·.1)) := by
    rw [Bool.eq_iff_iff, decide_eq_true_iff, decide_eq_true_iff]
    show (shiftN far p.1).dropLast ∈ _ ↔ _
    rw [shift_drop]
    exact mem_ids
  have e2 : (mvP far p).1.length = p.1.length := shift_len
  have e3 : whoM (prs.map (mvP far)) (held.map (mvP far)) (mvP far p).1 = whoM prs held p.1 := who_mv prs held p.1
  have e4 : bndM (prs.map (mvP far)) (renH o far hs) (held.map (mvP far)) (mvP far p).2 = bndM prs hs held p.2 := bnd_mv prs held p.2
  rw [e1, e2, e3, e4, ix_mv, List.length_map]
theorem could_mv (prs held : Prs) : couldM (prs.map (mvP far)) (renH o far hs) (held.map (mvP far)) = (couldM prs hs held).map (mvP far) := by
  unfold couldM
  rw [List.filter_map]
  congr 1
  refine List.filter_congr fun p _ => ?_
  exact let_mv prs held p
theorem canbe_mv {prs held : Prs} {rm rm' : Int → Int} (hr : ∀ n, rm' (n + far) = rm n) (c : CanBe prs rm held) : CanBe (prs.map (mvP far)) rm' (held.map (mvP far)) := by
  refine ⟨?_, fun q hq => ?_, fun n => ?_, fun q hq => ?_⟩
  · rw [List.map_map]
    have e : held.map ((fun p : List Int × Int => p.1) ∘ mvP far) = (held.map (·.1)).map (shiftN far) := by rw [List.map_map]; rfl
    rw [e]
    exact List.pairwise_map.mpr (c.nd.imp fun h z => h (shift_inj.mp z))
  · obtain ⟨p, hp, rfl⟩ := List.mem_map.mp hq
    exact List.mem_map.mpr ⟨p, c.mem p hp, rfl⟩
  · obtain ⟨m, rfl⟩ : ∃ m, n = m + far := ⟨n - far, by omega⟩
    rw [cnt_mv, hr]
    exact c.room m
  · obtain ⟨p, hp, rfl⟩ := List.mem_map.mp hq
    refine (c.par p hp).imp (fun z => by rw [← z]; exact shift_len) fun z => ?_
    show (shiftN far p.1).dropLast ∈ _
    rw [shift_drop]
    exact mem_ids.mpr z
end
end Dm

/-! tuples joined where the second may be empty; lists of lists of numbers; ids shifted -/
namespace Dm
open PySem PySem.Spec PyProof.Rows L2 Evl
def rCatF2 (K : PySem.W.Frag) : R2 := fun x y H Q => ∃ a b xs ys, x = .ref a ∧ y = .ref b ∧ SqT K H a xs ∧ SqT K H b ys ∧ xs ≠ [] ∧ xs.length + ys.length ≤ sizeLine ∧ (ys = [] → Q (.ref a) H) ∧ (ys ≠ [] → ∀ p o, H p = none → o.dict = none → Q (.ref p) (upd H p (.frz o (.tup (xs ++ ys)))))
theorem op_catF2 {X : Cx} {K : PySem.W.Frag} (hK : X.K = K) : OpR X (binaryOp .Add) (rCatF2 K) := by
  subst hK
  intro pins s σ H x y v u Q I rx ry h
  obtain ⟨a, b, xs, ys, rfl, rfl, ha, hb, hx, hz, q1, q2⟩ := h
  cases rx
  cases ry
  obtain ⟨its, r1, p1, _⟩ := I.tuple ha
  obtain ⟨its2, r2, p2, _⟩ := I.tuple hb
  refine HT.cat_tup p1 p2 (fun z => hx (r1.nil_iff.mp z)) (fun z => ⟨.ref a, H, I, rfl, q1 (r2.nil_iff.mp z)⟩) (fun z => ?_) (by rw [← r1.length, ← r2.length]; exact hz)
  exact newTupF I (r1.append r2) (by rw [List.length_append]; exact hz) (q2 fun y => z (r2.nil_iff.mpr y))
section
variable {K : PySem.W.Frag} {σ : L2.St} {H : Hp} {te tb tn : TE} {b : Addr} {nm : List Int} {far n : Int} {Q : VK} {xs : List V}
/-- tuple(a new list) -/
theorem ef_tupL (h : EvL te σ H xs) (k : ∀ H1 p, Same H H1 → TupAt H1 p xs → Q (.ref p) H1) : tCB (rTupF K) (tCons te tNil) σ H Q :=
  h H (Ex.refl H) _ fun p H1 hp e1 h1 => ⟨p, xs, rfl, .inl ⟨SqL.of h1, fun l o hl ho => k _ l (e1.trans (Same.new hl)) (TupAt.new ho)⟩⟩
/-- (name[0] + far,) + name[1:] -/
theorem ef_shift (h : Ev te σ H (.ref b)) (hf : Ev tb σ H (.int far)) (hb : Tp H (.ref b) (mkD nm)) (hne : nm ≠ []) (hl : nm.length ≤ 1000) (k : ∀ H1 p, Same H H1 → Tp H1 (.ref p) (mkD (shiftN far nm)) → Q (.ref p) H1) :
    tOp (rCatF2 K) (tTupF (tCons (tOp (rI0 fun i j => .int (i + j)) (tOp (rIx K) te (tC (.int 0))) tb) tNil)) (tSl (rSlF K) te (tPart (tC (.int 1))) tNoPart) σ H Q := by
  obtain ⟨x, r, rfl⟩ : ∃ x r, nm = x :: r := by cases nm with | nil => exact absurd rfl hne | cons x r => exact ⟨x, r, rfl⟩
  obtain ⟨c, ys, ec, hc, hys⟩ := hb.tup_inv
  cases ec
  have z := hys.ints ; subst z
  refine g_op ?_
  refine eF_tup (vs := [.int (x + far)]) (ea_cons (ev_op (ev_ixT (i := 0) h ev_c hc (show atI ((x :: r).map V.int) ((0 : Nat) : Int) = some (.int x) from atI_nat rfl)) hf rv_I0) ea_nil) (by show 1 ≤ 100000; decide) fun H1 p1 e1 n1 t1 => ?_
  refine h H1 e1 _ fun H2 e2 => ?_
  refine ⟨1, rfl, ?_⟩
  have E2 := e1.trans e2
  have hc2 := hc.mono (Same.ts E2)
  have lr : r.length < 1000 := hl
  have l1 : ((x :: r).map V.int).length = r.length + 1 := by rw [List.length_map]; rfl
  have s1 : HT.sIx ((x :: r).map V.int).length 0 (some 1) = 1 := by
    rw [l1]
    show HT.sIx (r.length + 1) 0 (some ((1 : Nat) : Int)) = 1
    rw [HT.sIx_nat] ; omega
  refine ⟨b, _, rfl, hc2.sq, (fun ⟨z, _⟩ => by rw [s1] at z; cases z), fun _ p o hp ho => ?_⟩
  have ec : cutV ((x :: r).map V.int) (some 1) none = r.map V.int := by
    unfold cutV
    rw [s1, HT.sIx_none, l1]
    show (((x :: r).map V.int).drop 1).take (r.length + 1 - 1) = r.map V.int
    rw [List.map_cons, List.drop_succ_cons, List.drop_zero, Nat.add_sub_cancel, List.take_of_length_le (by rw [List.length_map]; exact Nat.le_refl _)]
  rw [ec]
  have e3 : Same H2 (upd H2 p (.frz o (.tup (r.map V.int)))) := Same.new hp
  have t3 : TupAt (upd H2 p (.frz o (.tup (r.map V.int)))) p (r.map V.int) := TupAt.new ho
  generalize (upd H2 p (.frz o (.tup (r.map V.int)))) = H3 at e3 t3 ⊢
  have t13 := t1.mono (Same.ts (e2.trans e3))
  have E3 := E2.trans e3
  refine ⟨p1, p, _, _, rfl, rfl, t13.sq, t3.sq, by simp, by rw [sizeLine_eq, List.length_map]; show 1 + r.length ≤ _; omega, fun z => ?_, fun z p2 o2 hp2 ho2 => ?_⟩
  · have : r = [] := by simpa using z
    subst this
    exact k H3 p1 E3 (.tup t13 (Tps.of_ints [x + far]))
  · refine k _ p2 (E3.trans (Same.new hp2)) (.tup (TupAt.new ho2) ?_)
    exact Tps.of_ints ((x + far) :: r)
/-- (an id shifted, a number shifted), the next item of a comprehension -/
theorem cF_mv {L : Addr} {acc : List V} {p : List Int × Int} {Pn : Hp → Prop} (hL : H L = some (.lst acc)) (h : Ev te σ H (.ref b)) (hf : Ev tb σ H (.int far)) (hn : Ev tn σ H (.int p.2)) (hb : Tp H (.ref b) (mkD p.1)) (hne : p.1 ≠ []) (hl : p.1.length ≤ 1000) (hz : acc.length < 100000)
    (k : ∀ H1 v, Same H H1 → Tp H1 v (prD (mvP far p)) → Tst H1 (upd H1 L (.lst (acc ++ [v]))) → Pn (upd H1 L (.lst (acc ++ [v])))) :
    tTupF (tCons (tOp (rCatF2 K) (tTupF (tCons (tOp (rI0 fun i j => .int (i + j)) (tOp (rIx K) te (tC (.int 0))) tb) tNil)) (tSl (rSlF K) te (tPart (tC (.int 1))) tNoPart)) (tCons (tOp (rI0 fun i j => .int (i + j)) tn tb) tNil)) σ H fun y H4 => ∃ acc, H4 L = some (.lst acc) ∧ acc.length < sizeLine ∧ Pn (upd H4 L (.lst (acc ++ [y]))) := by
  refine g_cons ?_
  refine ef_shift (K := K) h hf hb hne hl fun H1 q e1 tq => ?_
  refine g_cons ?_
  refine (ev_op hn hf rv_I0) H1 e1 _ fun H2 e2 => ?_
  refine g_nil ⟨by show 2 ≤ sizeLine; decide, fun p2 o2 hp2 ho2 => ?_⟩
  have e3 : Same H2 (upd H2 p2 (.frz o2 (.tup [.ref q, .int (p.2 + far)]))) := Same.new hp2
  have t3 : TupAt (upd H2 p2 (.frz o2 (.tup [.ref q, .int (p.2 + far)]))) p2 [.ref q, .int (p.2 + far)] := TupAt.new ho2
  have E := (e1.trans e2).trans e3
  have hL3 := E _ _ hL
  refine ⟨acc, hL3, sz_lt hz, k _ _ E (.tup t3 (.cons (tq.mono (Same.ts (e2.trans e3))) (.cons (.int _) .nil))) ((Mv.refl [L] _).upd' (by simp) (fun u ys z => by rw [hL3] at z; cases z)).ts⟩
end
/-- a list of lists of numbers -/
structure OtAt (H : Hp) (O : Addr) (o : List (List Int)) : Prop where
  ex : ∃ as : List Addr, H O = some (.lst (as.map V.ref)) ∧ as.length = o.length ∧ ∀ (i : Nat) (a : Addr) (l : List Int), as[i]? = some a → o[i]? = some l → H a = some (.lst (l.map V.int))
theorem OtAt.same {H H' : Hp} {O : Addr} {o : List (List Int)} (e : Same H H') (t : OtAt H O o) : OtAt H' O o := by
  obtain ⟨as, h1, h2, h3⟩ := t.ex
  exact ⟨as, e _ _ h1, h2, fun i a l ha hl => e _ _ (h3 i a l ha hl)⟩
/-- others[k][x] -/
theorem ev_other {K : PySem.W.Frag} {σ : L2.St} {H : Hp} {to tk tx : TE} {O : Addr} {o : List (List Int)} {k : Nat} {x : Int} (h1 : Ev to σ H (.ref O)) (h2 : Ev tk σ H (.int (k : Int))) (h3 : Ev tx σ H (.int x)) (t : OtAt H O o) (ok : OkO o) (hk : k < 3) (x0 : 0 ≤ x) (x1 : x ≤ 9) :
    Ev (tOp (rIx K) (tOp (rIx K) to tk) tx) σ H (.int (oAt o k x)) := by
  obtain ⟨as, a1, a2, a3⟩ := t.ex
  have hk' : k < o.length := by rw [ok.len]; exact hk
  have ha : as[k]? = some (as[k]'(by omega)) := List.getElem?_eq_getElem (by omega)
  have ho : o[k]? = some o[k] := List.getElem?_eq_getElem hk'
  have hr := a3 k _ _ ha ho
  have l10 := (ok.row _ (List.getElem_mem hk')).1
  obtain ⟨m, rfl⟩ : ∃ m : Nat, x = (m : Int) := ⟨x.toNat, by omega⟩
  have hm : m < o[k].length := by rw [l10]; omega
  have ev : oAt o k (m : Int) = o[k][m] := by
    unfold oAt
    rw [List.getD_eq_getElem?_getD (l := o), ho]
    show (o[k]).getD (Int.toNat (m : Int)) 0 = _
    rw [Int.toNat_natCast, List.getD_eq_getElem?_getD, List.getElem?_eq_getElem hm] ; rfl
  rw [ev]
  exact ev_ixL (ev_ixL h1 h2 (SqL.of a1) (atI_nat (by rw [List.getElem?_map, ha]; rfl))) h3 (SqL.of hr) (atI_nat (by rw [List.getElem?_map, List.getElem?_eq_getElem hm]; rfl))
end Dm

/-! D34: an own exception over ValueError (classes between) whose __init__ says super().__init__(e) and then the rest. -/
namespace Dm
open PySem PySem.Spec PyProof.Rows L2

/-- the names of such a def -/
structure SupScope (N P : List Str) (sc : Scope) : Prop where
  kind : sc.kind = .function
  co : sc.isCoroutine = false
  gen : sc.isGenerator = false
  nd : N.Nodup
  pre : N.take P.length = P
  par : ∀ x ∈ P, sc.names.lookup x = some .local
  nocell : ∀ y ∈ sc.names, y.2 ≠ .cell
  free : ∀ y ∈ sc.names, y.2 = .free → y.1 = "__class__"
  cls : sc.names.lookup ("__class__" : Str) = some .free
  sup : sc.names.lookup ("super" : Str) = some .globalImplicit

def sxCx (CX : CXT) (P : Program) (w : World) (K : PySem.W.Frag) (mg : Str → Option Value) (base : Heap) (N : List Str) (qual : Str) (scope : Scope) (f : Addr) (cd : Value) (cc : Addr) (A : Around) (outer : List Env) (s : Shared) (H : Hp) (E : XK) : Cx where
  prog := P
  w := w
  K := K
  mg := mg
  base := base
  A := A.deeper (PySem.W.ksEnv qual scope s.heap.objs.size f cd cc)
  N := N
  s_0 := s
  H_0 := H
  env := PySem.W.ksEnv qual scope s.heap.objs.size f cd cc
  outer := outer
  stack := PySem.W.ksEnv qual scope s.heap.objs.size f cd cc :: outer
  ex := []
  calm := true
  fn := fun _ => false
  pn := []
  xe := fun e s' => wpAny (model P w) (A.deeper (PySem.W.ksEnv qual scope s.heap.objs.size f cd cc)) (leaving (PySem.W.ksEnv qual scope s.heap.objs.size f cd cc) e) (fun _ s'' => CX outer H s E e s'') (fun e' s'' => CX outer H s E e' s'') s'

theorem inv_startS {CX : CXT} {P : Program} {w : World} {K : PySem.W.Frag} {mg : Str → Option Value} {base : Heap} {N ps : List Str} {qual : Str} {scope : Scope} {f cc : Addr} {cd : Value} {A : Around} {outer : List Env} {s : Shared} {H : Hp} {E : XK} {us : List Value} {vs : List V} {h₁ : Heap} {tk : Nat} {v : Option Value}
    (S : SupScope N ps scope) (hd : A.handled = none) (e0 : Env0 P w K mg base A outer s H) (hl : vs.length = ps.length) (r : Vals vs us) (hc : base.IsCell cc v)
    (hns : h₁.Ns s.heap.objs.size fun y => (ps.zip us).reverse.lookup y) (kp : ∀ b o, s.heap.get? b = some o → h₁.get? b = some o) :
    Inv (sxCx CX P w K mg base N qual scope f cd cc A outer s H E) [] (L2.start N vs) H { s with heap := h₁, toks := tk } := by
  have hpl : ps.length ≤ N.length := by
    have := congrArg List.length S.pre
    rw [List.length_take] at this
    omega
  have noA : ∀ b : Addr, b ∉ (sxCx CX P w K mg base N qual scope f cd cc A outer s H E).ex := fun b z => absurd (show b ∈ ([] : List Addr) from z) (by simp)
  have one : ∀ {y : Str} {c : Addr}, (sxCx CX P w K mg base N qual scope f cd cc A outer s H E).env.cells.lookup y = some c → y = "__class__" ∧ c = cc := fun {y c} e => by
    have e' : List.lookup y [(("__class__" : Str), cc)] = some c := e
    have m := PySem.mem_of_lookup e'
    rw [List.mem_singleton] at m
    cases m
    exact ⟨rfl, rfl⟩
  obtain ⟨oc, hoc, hdc⟩ := hc
  have cellK : h₁.IsCell cc v := ⟨oc, kp _ _ (e0.bs _ _ hoc).1, hdc⟩
  refine ⟨⟨e0.mod, S.kind, rfl, rfl, Nat.le_refl _, fun y z c e1 e2 => (one e1).1.trans (one e2).1.symm, fun y hy => ?_, fun y c z _ => ?_, fun _ => hd, Around.frames_deeper e0.frames, .inr ⟨rfl, rfl⟩, fun b z => absurd z (noA b), e0.bs, e0.bsz, fun b _ _ => noA b,
      fun b z => absurd z (noA b), e0.funs, e0.frf⟩,
    rfl, e0.bare, Un.kept kp, ⟨_, hns, fun i y v e1 e2 e3 => ?_⟩, fun y c e => ?_, e0.hok.fresh (Nat.le_refl _), fun y c e => ?_, fun q hq => absurd (show q ∈ ([] : List (Addr × Obj)) ++ [] from hq) (by simp), e0.hok.kept kp, ?_⟩
  · have hy : scope.names.lookup y = some .cell ∨ scope.names.lookup y = some .free := hy
    rcases hy with hy | hy
    · exact absurd rfl (S.nocell _ (PySem.mem_of_lookup hy))
    · have := S.free _ (PySem.mem_of_lookup hy) rfl
      dsimp only at this
      subst this
      exact ⟨cc, rfl⟩
  · have z : false = true := z
    cases z
  · have e1 : N[i]? = some y := e1
    unfold L2.start at e2
    by_cases h1 : i < vs.length
    · have hq : ps[i]? = some y := by
        rw [← S.pre, List.getElem?_take_of_lt (by omega)]
        exact e1
      rw [List.getElem?_append_left (by rw [List.length_map]; omega), List.getElem?_map] at e2
      have ha : vs[i]? = some v := by
        cases e : vs[i]? with
        | none => rw [e] at e2; cases e2
        | some a => rw [e] at e2; cases e2; rfl
      obtain ⟨u, hu, rv⟩ := r.get ha
      have ndP : ps.Nodup := by rw [← S.pre]; exact S.nd.sublist (List.take_sublist _ _)
      exact ⟨u, rv, .inl ⟨S.par y (List.mem_of_getElem? hq), NdefX.zip_look ndP hq hu⟩⟩
    · rw [List.getElem?_append_right (by rw [List.length_map]; omega), List.getElem?_replicate] at e2
      split at e2 <;> cases e2
  · rw [(one e).2]
    exact ⟨v, cellK⟩
  · rw [(one e).2]
    exact (e0.bs _ _ hoc).2
  · unfold L2.start
    show _ = N.length
    rw [List.length_append, List.length_map, List.length_replicate]
    omega

/-- what the written part says of a class over ValueError whose __init__ begins with super().__init__(..) -/
structure ProgF (P : Program) (file : Str) : Prop where
  file : ((P.main.file : Str) == file) = true
  top : (P.main.scope.names.lookup ("super" : Str)).isSome = false
structure SupF (file : Str) (K : PySem.W.Frag) (mg : Str → Option Value) (C cc cda : Addr) : Prop where
  oex : OexC K C
  cell : ∃ cl cld csl, K.lookup cc = some ⟨cl, cld, .cell (some (.ref C)), csl⟩
  code : ∃ ccl cdd vs ccs tf, K.lookup cda = some ⟨ccl, cdd, .fields vs, ccs⟩ ∧ vs[2]? = some (.str file tf)
  nosup : mg "super" = none
  stat : PySem.W.nsIn K cStatics "thirdparty.any" = some none
  sup : PySem.W.ks_superIn K C C "__init__" = some (some (.builtin "ValueError.__init__"))
  ve : PySem.W.subIn K (.ref C) (.type "ValueError") = some true
  own : PySem.W.mroIn K C (.ref C) = some true

section
variable {X : Cx} {pins : List (Addr × Obj)} {σ : L2.St} {H : Hp} {s : Shared} {a C u : Addr}
/-- the bound ValueError.__init__ called: nothing of it is told -/
theorem mw_ok {us : List Value} {Q : Value → Shared → Prop} {E : Value → Shared → Prop} {A : Around} (T : OexC X.K C) (I : Inv X pins σ H s) (e : H a = some (exo a C none)) (hu : s.heap.get? u = some (PySem.W.kxs_mw "ValueError.__init__" a)) (hl : us.length ≤ sizeLine) (h : ∀ s', Inv X pins σ H s' → Q .none s') :
    wpAny (model X.prog X.w) A (call (.ref u) us) Q E s := by
  obtain ⟨nm, q, N, bs, bm, sn, sub, ab, col, dd, k0, k1, k2, k3, k5, hC, hbm⟩ := T.cls
  obtain ⟨t1, ho⟩ := exo_at I.hok e
  have hT := fun Y => PySem.HandSPX.refsVE_contains Y bm hbm
  have IK := I.kIn _ _ hC
  have fin : ∀ h' t2, (∀ b o, b ≠ a → s.heap.get? b = some o → h'.get? b = some o) → h'.get? a = some (PySem.HandSPX.excO C t2) → Q .none { s with heap := h' } := fun h' t2 k hx => by
    have J := I.write (t' := s.toks) (x := a) (e := a) (o := exo a C none) (by rw [e]; exact True.intro) (.inl rfl) k ⟨_, hx⟩ (exo_ok hx)
    have eu : upd H a (exo a C none) = H := by
      funext b
      by_cases hb : b = a
      · rw [hb, upd_same, e]
      · rw [upd_ne hb]
    rw [eu] at J
    exact h _ J
  obtain ⟨hp, g, d, t, os⟩ := s
  refine wpAny_call (codeAny_of_tree ?_)
  show wpAny _ A.in1 (callAny (.ref u) ⟨us, []⟩) _ _ _
  simp only [callAny]
  refine wpAny_bind (wpAny_load hu ?_)
  simp only [PySem.W.kxs_mw, show (Value.type "method-wrapper" == Value.type "method" || Value.type "method-wrapper" == Value.type "builtin_function_or_method" || Value.type "method-wrapper" == Value.type "method-wrapper") = true by decide, if_true]
  refine PySem.W.KFB.if_so (by decide) ?_
  refine wpAny_bind (PySem.W.check_bound_init F.excBase_ValueError.toExcCallFacts IK ho rfl ?_)
  refine wpAny_bind (wpAny_pure (wpAny_pure ?_))
  refine ⟨PySem.plainId_quiet F.excBase_ValueError.init.plain _, codeAny_builtin F.excBase_ValueError.initEntry ?_⟩
  rw [Around.under_plainId F.excBase_ValueError.init.plain _]
  wp_walk
  refine fin _ hp.objs.size (fun b o hb ho' => ?_) ?_
  · rw [Heap.get?_update_other _ _ (Ne.symm hb)]
    exact Heap.get?_push_of_some _ ho'
  · rw [Heap.get?_update_self _ (Heap.get?_push_of_some _ ho) rfl]
    rfl
end

theorem cw_mw {M : Model} {A : Around} {E : Value → Shared → Prop} {s : Shared} {i : String} {u x : Addr} {pos : Pos} {env : Env} {e : Expr} {es : List Expr} {Q : Value → Shared → Prop}
    (h : wpAny M A (spliced (backTo pos (starEach (e :: es) env))) (fun vs s₁ => s₁.heap.get? u = some (PySem.W.kxs_mw i x) ∧ wpAny M A (call (.ref u) vs) Q E s₁) E s)
    (he : starEach (e :: es) env = (false, eval e env) :: starEach es env) (hz : (backTo pos (starEach es env)).any (·.1) = false) : wpAny M A (callWith pos (.ref u) [] (backTo pos (starEach (e :: es) env)) []) Q E s := by
  rw [he] at h ⊢
  refine PySem.W.kxs_callWith (i := i) (x := x) ?_ (Calls.evalArgs_plain h)
  show (false || (backTo pos (starEach es env)).any (·.1)) = false
  rw [hz]
  rfl
/-- THE RULE: an own exception's __init__ that begins with super().__init__(e, ..) -/
theorem fn_super {CX : CXT} {P : Program} {w : World} {K : PySem.W.Frag} {mg : Str → Option Value} {base : Heap} {k : Nat} {f cc cda C : Addr} {name qual : Str} {params : Arguments} {body rest : List Stmt} {scope : Scope} {dV kV doc pm ct oc : Value} {an od : Option Addr}
    {osl : Array (Option Value)} {N ps : List Str} {sp : Sp} {ar : Arg} {e : Expr} {es : List Expr} {p0 p1 p2 p3 p4 : Pos} {pl : Addr → Sem Bool}
    (lk : K.lookup f = some ⟨oc, od, .func (PySem.W.ksFn name qual params body scope dV kV doc pm an (.ref cda) ct cc), osl⟩) (hcd : PySem.W.codeIn K (.ref cda) qual = true) (S : SupScope N ps scope) {file : Str} (T : SupF file K mg C cc cda) (hP : ProgF P file)
    (hp : (params.posonlyargs ++ params.args).head? = some ar) (har : N[0]? = some ar.arg) (hps : ar.arg ∈ ps)
    (hbd : body = .Expr (.Call (.Attribute (.Call (.Name "super" p0) [] [] p1) "__init__" p2) (e :: es) [] p3) p4 :: rest)
    (len : ∀ vs H Q E, sp vs H Q E → vs.length = ps.length)
    (hbody : ∀ (A : Around) (outer : List Env) (s : Shared) (H : Hp) (vs : List V) (Q : VK) (E : XK), Room k (A.deeper (PySem.W.ksEnv qual scope s.heap.objs.size f (.ref cda) cc)) → sp vs H Q E →
      ∃ a vr ta tr, vs = .ref a :: vr ∧ H a = some (exo a C none) ∧ PA (sxCx CX P w K mg base N qual scope f (.ref cda) cc A outer s H E) (e :: es) ta ∧ PSs (sxCx CX P w K mg base N qual scope f (.ref cda) cc A outer s H E) rest tr ∧
        ta (L2.start N vs) H fun ws H1 => ws.length ≤ 1000 ∧ H1 a = some (exo a C none) ∧ tr { nx := fun _ H' => Q .non H', rt := Q } (L2.start N vs) H1)
    (hev : ∀ L, eval (.Call (.Attribute (.Call (.Name "super" p0) [] [] p1) "__init__" p2) (e :: es) [] p3) (PySem.W.ksEnv qual scope L f (.ref cda) cc) = (do
      let ov ← attributeBase (.Call (.Name "super" p0) [] [] p1) "__init__" (PySem.W.ksEnv qual scope L f (.ref cda) cc) (eval (.Call (.Name "super" p0) [] [] p1) (PySem.W.ksEnv qual scope L f (.ref cda) cc))
      standAt p2.atName
      let (g, first) ← holding [ov] (getMethod ov "__init__" (pl L))
      callWith p3 g first (backTo p3 (starEach (e :: es) (PySem.W.ksEnv qual scope L f (.ref cda) cc))) []) := by intro; rfl)
    (hst : ∀ L, starEach (e :: es) (PySem.W.ksEnv qual scope L f (.ref cda) cc) = (false, eval e (PySem.W.ksEnv qual scope L f (.ref cda) cc)) :: starEach es (PySem.W.ksEnv qual scope L f (.ref cda) cc) := by intro; rfl)
    (hpl : ∀ L, (backTo p3 (starEach es (PySem.W.ksEnv qual scope L f (.ref cda) cc))).any (·.1) = false := by intro; rfl)
    (hsw : ∀ L, swapsWith (.Call (.Attribute (.Call (.Name "super" p0) [] [] p1) "__init__" p2) (e :: es) [] p3) none p4.line (PySem.W.ksEnv qual scope L f (.ref cda) cc) = pure false := by intro; rfl) :
    FnOk P w K mg base CX (k + 1) f (PySem.W.ksFn name qual params body scope dV kV doc pm an (.ref cda) ct cc) ps sp := by
  refine ⟨len, fun A outer s H args us vs Q E hr e0 hb r hsp => ?_⟩
  have hl := len _ _ _ _ hsp
  have KX : K.In s.heap := e0.mod.kin.keeps fun b o e => (e0.bs b o e).1
  have lim : s.heap.NoLimit := e0.mod.nolimit.keeps fun b o e => (e0.bs b o e).1
  obtain ⟨cl, cld, csl, hcell⟩ := T.cell
  obtain ⟨ccl, cdd, cvs, ccs, tf, hcode, hcvs⟩ := T.code
  have hkind : ∀ y ∈ ps.zip us, scope.names.lookup y.1 = some .local := fun ⟨n, v⟩ hy => S.par n (List.of_mem_zip hy).1
  refine PySem.ks_codeAny_call_defAt (fd := PySem.W.ksFn name qual params body scope dV kV doc pm an (.ref cda) ct cc) (body := body) (binds := ps.zip us) hr.depth (KX _ _ lk) rfl lim (PySem.W.codeRec_of KX hcd) rfl hb S.nocell hkind (fun h₁ hns kp => ?_) S.co S.gen S.kind
  obtain ⟨a, vr, ta, tr, ev, ea, ha, ht, hq⟩ := hbody A outer s H vs Q E (hr.deeper _) hsp
  have hic : base.IsCell cc (some (.ref C)) := ⟨_, e0.mod.kin _ _ hcell, rfl⟩
  have I : Inv (sxCx CX P w K mg base N qual scope f (.ref cda) cc A outer s H E) [] (L2.start N vs) H { s with heap := h₁, toks := s.toks + (ps.zip us).length } := inv_startS S hr.hd e0 hl r hic hns kp
  subst hbd
  have hint : interactive (PySem.W.ksEnv qual scope s.heap.objs.size f (.ref cda) cc) = false := by
    unfold interactive
    have := S.kind
    show (scope.kind == .module && _) = false
    rw [this]
    rfl
  show PySem.wpAt _ _ _ (execs _ (PySem.W.ksEnv qual scope s.heap.objs.size f (.ref cda) cc)) _ _ _
  refine PySem.ks_wpAt_execs_cons (PySem.ks_wpAt_Expr_any (PySem.ks_wpAt_MethodCall (pl := pl s.heap.objs.size) ?_ (hev _)) hint (hsw _))
  have haL : scope.names.lookup ar.arg = some .local := S.par _ hps
  -- super()
  obtain ⟨cdC, hcl⟩ : ∃ cd, PySem.W.clsIn K C = some cd := by
    cases z : PySem.W.clsIn K C with
    | none => have := T.own; unfold PySem.W.mroIn at this; rw [z] at this; cases this
    | some cd => exact ⟨cd, rfl⟩
  have IB := I.kIn
  obtain ⟨oD, hD1, hD2⟩ : ∃ oD, h₁.get? C = some oD ∧ oD.data = .cls cdC := by
    unfold PySem.W.clsIn at hcl
    split at hcl
    · rename_i c d cd' sl ho
      cases hcl
      exact ⟨_, IB _ _ ho, rfl⟩
    · cases hcl
  obtain ⟨t1, hox⟩ := exo_at I.hok ea
  refine PySem.ks_wpAt_super_base (env := PySem.W.ksEnv qual scope s.heap.objs.size f (.ref cda) cc) S.sup S.cls (by decide) rfl (IB _ _ lk) rfl hp rfl (IB _ _ hcode) rfl hcvs hP.file hP.top ?_
  obtain ⟨mb, hb1, hb2⟩ := I.mod.blt
  refine PySem.W.ks_loadName_global S.kind S.sup (Calls.loadGlobal_builtin (env := PySem.W.ksEnv qual scope s.heap.objs.size f (.ref cda) cc) (I.mod.glob.keeps I.bk) T.nosup (hb1.keeps I.bk) ((hb2 _ (by decide)).trans (show bootBuiltins "super" = some (.type "super") from by decide +kernel)) ⟨rfl, ?_⟩)
  refine wpAny_loadName_free S.kind S.cls rfl ⟨_, IB _ _ hcell, rfl⟩ ?_
  obtain ⟨m, hm, hlk⟩ := I.loc
  obtain ⟨ua, ra, hla⟩ := hlk 0 ar.arg (.ref a) har (by rw [ev]; rfl) (.inl haL)
  obtain rfl : ua = Value.ref a := ra
  have hma : m ar.arg = some (.ref a) := by
    rcases hla with ⟨_, z⟩ | ⟨z, _⟩
    · exact z
    · have z : scope.names.lookup ar.arg = some .cell ∨ scope.names.lookup ar.arg = some .free := z
      rw [haL] at z
      rcases z with z | z <;> cases z
  refine wpAny_loadName_local S.kind haL hm hma ?_
  refine PySem.ks_wpAny_isType_cls hD1 hD2 ⟨rfl, ?_⟩
  refine PySem.ks_wpAny_call_super hD1 hD2 hox rfl (fun c z => by cases z) (PySem.W.looks_mroIn IB T.own) (fun h2 es2 k2 => ?_)
  have I2 : Inv (sxCx CX P w K mg base N qual scope f (.ref cda) cc A outer s H E) [] (L2.start N vs) H { s with heap := h2, toks := s.toks + (ps.zip us).length } := I.kept k2
  have IB2 := I2.kIn
  obtain ⟨t2, hox2⟩ := exo_at I2.hok ea
  have ne0 : a ≠ C := fun z => by
    rw [z, hD1] at hox
    have z2 := Option.some.inj hox
    rw [z2] at hD2
    cases hD2
  have hT2 : PySem.W.Looks (model P w) h2 (typeOf (.ref a)) (.ref C) := fun A Q E s k q => wpAny_typeOf_ref (k _ _ hox2) q
  have hsup : PySem.W.alongIn K "__init__" ((cdC.mro.dropWhile (· != .ref C)).drop 1) = some (some (.builtin "ValueError.__init__")) := by
    have := T.sup
    unfold PySem.W.ks_superIn at this
    rw [hcl] at this
    exact this
  refine PySem.W.kxs_getMethod PySem.W.kxs_ValueError es2 (PySem.W.looks_opaque IB2 T.stat) (l₀ := cdC.mro) (fun A Q E s k q => wpAny_bind ((PySem.W.looks_clsIn IB2 hcl) A _ E s k (wpAny_pure q))) rfl IB2 hsup (hT2.andThen (PySem.W.looks_subIn IB2 T.ve)) ne0 (by decide) ?_
  -- the bound __init__, its arguments, its call
  have I3 : Inv (sxCx CX P w K mg base N qual scope f (.ref cda) cc A outer s H E) [(h2.objs.size, PySem.W.kxs_mw "ValueError.__init__" a)] (L2.start N vs) H { s with heap := h2.push (PySem.W.kxs_mw "ValueError.__init__" a), toks := s.toks + (ps.zip us).length + 1 } := by
    have J := I2.kept (t' := s.toks + (ps.zip us).length + 1) (h' := h2.push (PySem.W.kxs_mw "ValueError.__init__" a)) (fun b o e => Heap.get?_push_of_some _ e)
    refine J.pins_of fun q hq => ?_
    have hq : q ∈ ([] : List (Addr × Obj)) ++ [(h2.objs.size, PySem.W.kxs_mw "ValueError.__init__" a)] := hq
    rw [List.nil_append, List.mem_singleton] at hq
    subst hq
    exact ⟨Heap.get?_push_size _ rfl, I2.hok.fresh (Nat.le_refl _), Nat.ne_of_gt I2.lt, I2.nofs (Nat.le_refl _), fun v z => by cases z⟩
  refine cw_mw (i := "ValueError.__init__") (x := a) (thn (ha.run p3 _ _ _ H _ I3 hq) fun ws s4 ⟨vs4, H4, I4, r4, hz4, ea4, q4⟩ => ⟨(I4.pin _ (List.mem_append_right _ (List.mem_singleton.mpr rfl))).1, ?_⟩) (hst _) (hpl _)
  refine mw_ok T.oex (C := C) (I4.pins_of (pins' := []) fun q hq => absurd (show q ∈ ([] : List (Addr × Obj)) ++ [] from hq) (by simp)) ea4 (I4.pin _ (List.mem_append_right _ (List.mem_singleton.mpr rfl))).1 (by rw [← r4.length, sizeLine_eq]; omega) fun s5 I5 => ?_
  -- the rest
  refine PySem.wpAt_of_wpAny (wpAny_mono (ht.run [] s5 _ H4 _ I5 q4) (fun fl s' hs => ?_) fun e s' hs => hs)
  have fin : ∀ {σ' : L2.St} {H' : Hp} {v : V} {u : Value}, Inv (sxCx CX P w K mg base N qual scope f (.ref cda) cc A outer s H E) [] σ' H' s' → RelV v u → Q v H' → CE outer P w H s Q u s' :=
    fun {σ' H' v u} J rv q => ⟨v, H', J.os, J.bare, J.base, J.hok, rv, q⟩
  cases fl with
  | ret u =>
    obtain ⟨v, σ', H', J, rv, q⟩ := hs
    exact fin J rv q
  | next =>
    obtain ⟨σ', H', J, q⟩ := hs
    exact fin (v := V.non) (u := Value.none) J rfl q
  | brk =>
    obtain ⟨_, _, _, q⟩ := hs
    exact False.elim q
  | cont =>
    obtain ⟨_, _, _, q⟩ := hs
    exact False.elim q
end Dm

/-! D35: own exceptions with one field of a number: made, raised, asked of what class they are, their field read. -/
namespace Dm
open PySem PySem.Spec PyProof.Rows L2

/-- the k-th statement in a class -/
def clsDef (s : Stmt) (k : Nat) : Stmt := match s with
  | .ClassDef _ _ _ b _ _ _ _ _ _ _ => b.getD k s
  | _ => s
/-- the body of such an __init__ -/
def errBody (fld w1 w2 : Str) (j1 j2 : Nat) (p0 p1 p2 p3 p4 p5 p6 p7 p8 p9 q1 q2 q3 q4 : Pos) : List Stmt :=
  [.Expr (.Call (.Attribute (.Call (.Name "super" p0) [] [] p1) "__init__" p2) [.JoinedStr [.Constant (.str w1) j1 p5, .FormattedValue (.Name fld p6) (-1) none p7, .Constant (.str w2) j2 p8] p9] [] p3) p4,
   .Assign [.Attribute (.Name "self" q1) fld q2] (.Name fld q3) q4]
/-- the promise of such an __init__ -/
def spErr (C : Addr) (fld : Str) : Sp := fun vs H Q _ => ∃ (a : Addr) (z : Int), vs = [.ref a, .int z] ∧ z.natAbs.log2 < 1920 ∧ H a = some (exo a C none) ∧
  ∀ dx, H dx = none → dx ≠ a → Q .non (upd (upd H dx (exd dx [(fld, .int z)])) a (exo a C (some dx)))
/-- what the written part says of the class x, its __init__ the first statement in it -/
structure ErrT (file : Str) (K : PySem.W.Frag) (mg : Str → Option Value) (x qual : Str) (st : Stmt) (fld : Str) (C : Addr) : Prop where
  g : mg x = some (.ref C)
  xf : XfC K C
  ec : ExcC K C
  noN : PySem.W.findIn K (.ref C) fld = some none
  fn : ∃ (fI cc cda : Addr) (oc : Value) (od an : Option Addr) (osl : Array (Option Value)) (dV kV doc pm ct : Value), PySem.W.findIn K (.ref C) "__init__" = some (some (.ref fI)) ∧ PySem.W.typeIn K (.ref fI) = some (.type "function") ∧
    K.lookup fI = some ⟨oc, od, .func (PySem.W.ksFn "__init__" qual (defArgs st) (defBody st) (defScope st) .none kV doc pm an (.ref cda) ct cc), osl⟩ ∧ PySem.W.codeIn K (.ref cda) qual = true ∧ SupF file K mg C cc cda

theorem err_text {z : Int} {w1 w2 : Str} (h1 : w1.length ≤ 1000) (h2 : w2.length ≤ 1000) (hz : z.natAbs.log2 < 1920) :
    ((Str.empty ++ w1)).length ≤ sizeLine ∧ ((Str.empty ++ w1) ++ Str.ofString (toString z)).length ≤ sizeLine ∧ (((Str.empty ++ w1) ++ Str.ofString (toString z)) ++ w2).length ≤ sizeLine := by
  have e := int_text_length_le (k := 1920) (by decide) hz
  have z0 : Str.empty.length = 0 := rfl
  have s0 : sizeLine = 16777216 := sizeLine_eq
  refine ⟨?_, ?_, ?_⟩ <;> simp only [Str.length_append, PySem.ofString_length] <;> omega
/-- such an __init__ holds its promise -/
theorem ok_err {P : Program} {w : World} {K : PySem.W.Frag} {mg : Str → Option Value} {base : Heap} {C fI cc cda : Addr} {oc : Value} {od an : Option Addr} {osl : Array (Option Value)} {kV doc pm ct : Value} {st : Stmt} {qual fld w1 w2 : Str} {j1 j2 : Nat} {p0 p1 p2 p3 p4 p5 p6 p7 p8 p9 q1 q2 q3 q4 : Pos} {ar : Arg}
    (lk : K.lookup fI = some ⟨oc, od, .func (PySem.W.ksFn "__init__" qual (defArgs st) (defBody st) (defScope st) .none kV doc pm an (.ref cda) ct cc), osl⟩) (hcd : PySem.W.codeIn K (.ref cda) qual = true) {file : Str} (T : SupF file K mg C cc cda) (hP : ProgF P file) (noN : PySem.W.findIn K (.ref C) fld = some none)
    (hb : defBody st = errBody fld w1 w2 j1 j2 p0 p1 p2 p3 p4 p5 p6 p7 p8 p9 q1 q2 q3 q4) (S : SupScope ["self", fld] ["self", fld] (defScope st)) (hp : ((defArgs st).posonlyargs ++ (defArgs st).args).head? = some ar) (har : ar.arg = "self")
    (h1 : w1.length ≤ 1000) (h2 : w2.length ≤ 1000) (hd : (fld == ("__debug__" : Str)) = false) (hcd2 : (fld == ("__classdict__" : Str)) = false) {pl : Addr → Sem Bool}
    (hev : ∀ L, eval (.Call (.Attribute (.Call (.Name "super" p0) [] [] p1) "__init__" p2) [.JoinedStr [.Constant (.str w1) j1 p5, .FormattedValue (.Name fld p6) (-1) none p7, .Constant (.str w2) j2 p8] p9] [] p3) (PySem.W.ksEnv qual (defScope st) L fI (.ref cda) cc) = (do
      let ov ← attributeBase (.Call (.Name "super" p0) [] [] p1) "__init__" (PySem.W.ksEnv qual (defScope st) L fI (.ref cda) cc) (eval (.Call (.Name "super" p0) [] [] p1) (PySem.W.ksEnv qual (defScope st) L fI (.ref cda) cc))
      standAt p2.atName
      let (g, first) ← holding [ov] (getMethod ov "__init__" (pl L))
      callWith p3 g first (backTo p3 (starEach [.JoinedStr [.Constant (.str w1) j1 p5, .FormattedValue (.Name fld p6) (-1) none p7, .Constant (.str w2) j2 p8] p9] (PySem.W.ksEnv qual (defScope st) L fI (.ref cda) cc))) []) := by intro; rfl)
    (hsw : ∀ L, swapsWith (.Call (.Attribute (.Call (.Name "super" p0) [] [] p1) "__init__" p2) [.JoinedStr [.Constant (.str w1) j1 p5, .FormattedValue (.Name fld p6) (-1) none p7, .Constant (.str w2) j2 p8] p9] [] p3) none p4.line (PySem.W.ksEnv qual (defScope st) L fI (.ref cda) cc) = pure false := by intro; rfl)
    (hsw2 : ∀ L, swapsWith (.Name fld q3) (some (.Attribute (.Name "self" q1) fld q2)) q4.line (PySem.W.ksEnv qual (defScope st) L fI (.ref cda) cc) = pure false := by intro; rfl) :
    FnOk P w K mg base CX0 1 fI (PySem.W.ksFn "__init__" qual (defArgs st) (defBody st) (defScope st) .none kV doc pm an (.ref cda) ct cc) ["self", fld] (spErr C fld) := by
  refine fn_super (C := C) lk hcd S T hP hp (by rw [har]; rfl) (by rw [har]; simp) hb (fun vs H Q E h => ?_) (fun A outer s H vs Q E hr h => ?_) (pl := pl) hev (hsw := hsw)
  · obtain ⟨a, z, rfl, _⟩ := h
    rfl
  · obtain ⟨a, z, rfl, hz, ha, q⟩ := h
    refine ⟨a, [.int z], _, _, rfl, ha, pa_cons (pe_joined (PJ.cons pe_str (PJ.cons (pe_fmt (pv 1 rfl (.inl (S.par _ (by simp))) hd hcd2)) (PJ.cons pe_str PJ.nil)))) pa_nil, pss_one (ps_ost (pv 0 rfl (.inl (S.par _ (by simp)))) (pv 1 rfl (.inl (S.par _ (by simp))) hd hcd2) (hsw2 _)), ?_⟩
    obtain ⟨t1, t2, t3⟩ := err_text h1 h2 hz
    refine ⟨w1, rfl, t1, .int z, rfl, .inr ⟨z, rfl, hz, Str.ofString (toString z), rfl, t2, w2, rfl, t3, ?_⟩⟩
    refine ⟨(by show 1 ≤ 1000; decide), ha, ?_⟩
    exact ⟨.int z, rfl, .ref a, rfl, a, C, rfl, T.oex, noN, .inl ⟨ha, fun dx n ne => q dx n ne⟩⟩

/-- such a class, its __init__'s promise shown -/
structure ErrOk (P : Program) (w : World) (K : PySem.W.Frag) (mg : Str → Option Value) (base : Heap) (x fld : Str) (C : Addr) : Prop where
  g : mg x = some (.ref C)
  oex : OexC K C
  ok : ∃ (fI : Addr) (fd : FuncData), PySem.W.findIn K (.ref C) "__init__" = some (some (.ref fI)) ∧ PySem.W.typeIn K (.ref fI) = some (.type "function") ∧ Binds K fd ["self", fld] [] ∧ FnOk P w K mg base CX0 1 fI fd ["self", fld] (spErr C fld)
/-- x(e): a new exception of the class, its one field e -/
def tMkE (C : Addr) (fld : Str) (te : TE) : L2.St → Hp → XK → Prop := fun σ H Q => te σ H fun v H1 => ∃ z : Int, v = .int z ∧ z.natAbs.log2 < 1920 ∧ ∀ d, H1 d = none → Q (.ref C) (some d) (upd H1 d (.xd [(fld, .int z)]))
section
variable {X : Cx} {x fld : Str} {C : Addr}
theorem pmk_err {e : Expr} {te : TE} {p pos : Pos} (T : ErrOk X.prog X.w X.K X.mg X.base x fld C) (hr : Room 2 X.A) (hg : Gl X x) (he : PE X e te) (hdb : (x == ("__debug__" : Str)) = false := by decide)
    (hs : starEach (e :: []) X.env = (false, eval e X.env) :: starEach [] X.env := by rfl) (hpl : (backTo pos (starEach [] X.env)).any (·.1) = false := by rfl) : PMk X (.Call (.Name x p) [e] [] pos) (tMkE C fld te) := by
  obtain ⟨fI, fd, iC, tI, b, G⟩ := T.ok
  intro pins s σ H Q I h
  let Q0 : VK := fun v H1 => ∃ z : Int, v = .int z ∧ z.natAbs.log2 < 1920 ∧ ∀ d, H1 d = none → Q (.ref C) (some d) (upd H1 d (.xd [(fld, .int z)]))
  have he2 : PE X e (fun σ H R => te σ H Q0 ∧ ∀ v H1, Q0 v H1 → R v H1) := ⟨fun pins s σ H R I h => wpAny_mono (he.run pins s σ H Q0 I h.1) (fun u s' ⟨v, H', J, r, q⟩ => ⟨v, H', J, r, h.2 _ _ q⟩) fun _ _ z => z⟩
  refine pmk_oex (C := C) T.oex iC tI G hr b .nil L2.pass0 hg T.g (pa_cons he2 pa_nil hs) hdb hs hpl pins s σ H Q I ?_
  refine ⟨h, fun v H1 ⟨z, ev, hz, q⟩ => ⟨(by show 1 ≤ 1000; decide), fun a na => ⟨a, z, by rw [ev]; rfl, hz, upd_same, fun dx nd ne => ⟨rfl, dx, [(fld, .int z)], upd_same, by rw [upd_ne ne, upd_same], ?_, ?_⟩⟩⟩⟩
  · rw [← nd, upd_ne ne]
  · have n1 : H1 dx = none := by rw [← nd, upd_ne ne]
    have eq : upd (del (upd (upd (upd H1 a (exo a C none)) dx (exd dx [(fld, .int z)])) a (exo a C (some dx))) a) dx (.xd [(fld, .int z)]) = upd H1 dx (.xd [(fld, .int z)]) := by
      funext b
      by_cases hb : b = dx
      · rw [hb, upd_same, upd_same]
      · rw [upd_ne hb, upd_ne hb]
        by_cases ha : b = a
        · rw [ha, del_same, na]
        · rw [del_ne ha, upd_ne ha, upd_ne hb, upd_ne ha]
    rw [eq]
    exact q dx n1
/-- raise x(e) -/
def tRaiseE (C : Addr) (fld : Str) (W : WX) (te : TE) : TS := fun _ σ H => tMkE C fld te σ H fun cls d H' => W cls d σ H'
theorem ps_raiseE {e : Expr} {te : TE} {W : WX} {p pos pos2 : Pos} (hc : X.calm = true) (T : ErrOk X.prog X.w X.K X.mg X.base x fld C) (hr : Room 2 X.A) (tk : Takes X W) (hg : Gl X x) (he : PE X e te) (hdb : (x == ("__debug__" : Str)) = false := by decide)
    (hs : starEach (e :: []) X.env = (false, eval e X.env) :: starEach [] X.env := by rfl) (hpl : (backTo pos (starEach [] X.env)).any (·.1) = false := by rfl) :
    PS X (.Raise (some (.Call (.Name x p) [e] [] pos)) none pos2) (tRaiseE C fld W te) := ps_raise hc tk (pmk_err T hr hg he hdb hs hpl)

/-- isinstance(e, c), e the exception that the suite holds: of the class at C, its dict at dd -/
def rIsX (K : PySem.W.Frag) (a : Addr) (cls : Value) (d : Option Addr) : List V → Hp → VK → Prop := fun xs H Q => ∃ (c : V) (cv : Value) (b : Bool) (D dd : Addr) (fs : List (Str × V)), xs = [.ref a, c] ∧ cls = .ref D ∧ ExcC K D ∧ d = some dd ∧ H dd = some (.xd fs) ∧ (∀ u, RelV c u → u = cv) ∧ PySem.W.kitOne K (.ref D) cv = some b ∧ Q (.bl b) H
theorem call_isX {a : Addr} {cls : Value} {d : Option Addr} {oe : Obj} {pn : List (Addr × Obj)} (hz : Zc cls d oe) (hf : ∃ vs, oe.data = .fields vs) : CallR (X.suite a ((a, oe) :: pn)) (.builtin "isinstance") (rIsX X.K a cls d) := by
  intro pins s σ H xs us Q I r h
  obtain ⟨c, cv, b, D, dd, fs, rfl, rfl, Cc, rfl, hd, hcv, e, q⟩ := h
  cases r with
  | cons rx rr =>
    cases rr with
    | cons rt rr =>
      cases rr
      cases rx
      have ec := hcv _ rt
      subst ec
      obtain ⟨hget, _⟩ := I.pin (a, oe) (List.mem_append.mpr (.inl List.mem_cons_self))
      obtain ⟨vs, hv⟩ := hf
      have hx : ObjOk X.prog X.w H s.heap dd (.xd fs) := I.hok dd _ hd
      obtain ⟨mA, hns, hr⟩ := hx
      obtain ⟨od, ho, _⟩ := lookIn_ns hns
      have J : PySem.W.InstAt s.heap a oe D (some od) := ⟨hget, hz.1, by unfold PySem.W.notCls; rw [hv] <;> rfl, by rw [hz.2]; exact ho⟩
      have hcl : (PySem.W.clsIn X.K D).isSome = true := by
        obtain ⟨cd, hc, _⟩ := PySem.W.any_some Cc.hd
        rw [hc]
        rfl
      exact PySem.W.kia_one (PySem.W.kitx_exc hcl Cc.hg Cc.hk Cc.hs Cc.ha Cc.hn Cc.ht Cc.hm) I.kIn J e (fun z => nomatch z) fun tk => ⟨.bl b, H, I.kept (t' := tk) fun _ _ z => z, rfl, q⟩
end
end Dm

/-! D36: tuples joined where the first may be empty; the first pair of a holding that can't be. -/
namespace Dm
open PySem PySem.Spec PyProof.Rows L2 Evl
def rCatF1 (K : PySem.W.Frag) : R2 := fun x y H Q => ∃ a b xs ys, x = .ref a ∧ y = .ref b ∧ SqT K H a xs ∧ SqT K H b ys ∧ ys ≠ [] ∧ xs.length + ys.length ≤ sizeLine ∧ (xs = [] → Q (.ref b) H) ∧ (xs ≠ [] → ∀ p o, H p = none → o.dict = none → Q (.ref p) (upd H p (.frz o (.tup (xs ++ ys)))))
theorem op_catF1 {X : Cx} {K : PySem.W.Frag} (hK : X.K = K) : OpR X (binaryOp .Add) (rCatF1 K) := by
  subst hK
  intro pins s σ H x y v u Q I rx ry h
  obtain ⟨a, b, xs, ys, rfl, rfl, ha, hb, hy, hz, q1, q2⟩ := h
  cases rx
  cases ry
  obtain ⟨its, r1, p1, _⟩ := I.tuple ha
  obtain ⟨its2, r2, p2, _⟩ := I.tuple hb
  by_cases he : xs = []
  · subst he
    have e : its = [] := r1.nil_iff.mpr rfl
    subst e
    exact L2.cat_tup0 p1 p2 ⟨.ref b, H, I, rfl, q1 rfl⟩
  · refine HT.cat_tup p1 p2 (fun z => he (r1.nil_iff.mp z)) (fun z => absurd (r2.nil_iff.mp z) hy) (fun z => ?_) (by rw [← r1.length, ← r2.length]; exact hz)
    exact newTupF I (r1.append r2) (by rw [List.length_append]; exact hz) (q2 he)

/-! ### the first pair that can't be -/
abbrev Prs4 := List (List Int × Int)
def okAt (prs : Prs4) (rm : Int → Int) (held : Prs4) (k : Nat) : Bool := match held[k]? with
  | none => true
  | some t => (decide (t ∈ prs) && !decide (t.1 ∈ (held.take k).map (·.1))) && (decide ((cntM (held.take k) t.2 : Int) < rm t.2) && (decide (t.1.length = 1) || decide (t.1.dropLast ∈ held.map (·.1))))
def badM (prs : Prs4) (rm : Int → Int) (held : Prs4) : Option Nat := (List.range held.length).find? fun k => !okAt prs rm held k
theorem okAt_some {prs held : Prs4} {rm : Int → Int} {k : Nat} {t : List Int × Int} (ht : held[k]? = some t) : okAt prs rm held k = true ↔ t ∈ prs ∧ t.1 ∉ (held.take k).map (·.1) ∧ (cntM (held.take k) t.2 : Int) < rm t.2 ∧ (t.1.length = 1 ∨ t.1.dropLast ∈ held.map (·.1)) := by
  unfold okAt
  rw [ht]
  simp only [Bool.and_eq_true, Bool.or_eq_true, Bool.not_eq_true', decide_eq_true_eq, decide_eq_false_iff_not, and_assoc]
theorem badM_none {prs held : Prs4} {rm : Int → Int} (h : badM prs rm held = none) : CanBe prs rm held := by
  have all : ∀ k t, held[k]? = some t → t ∈ prs ∧ t.1 ∉ (held.take k).map (·.1) ∧ (cntM (held.take k) t.2 : Int) < rm t.2 ∧ (t.1.length = 1 ∨ t.1.dropLast ∈ held.map (·.1)) := fun k t ht => by
    have hk := (List.getElem?_eq_some_iff.mp ht).1
    have := List.find?_eq_none.mp h k (List.mem_range.mpr hk)
    exact (okAt_some ht).mp (by simpa using this)
  have pre : ∀ n, n ≤ held.length → ((held.take n).map (·.1)).Nodup ∧ ∀ m, cntM (held.take n) m = 0 ∨ (cntM (held.take n) m : Int) ≤ rm m := by
    intro n
    induction n with
    | zero => exact fun _ => ⟨List.nodup_nil, fun m => Or.inl rfl⟩
    | succ n ih =>
      intro hn
      obtain ⟨i1, i2⟩ := ih (by omega)
      obtain ⟨t, ht⟩ : ∃ t, held[n]? = some t := ⟨held[n]'(by omega), List.getElem?_eq_getElem _⟩
      obtain ⟨_, a2, a3, _⟩ := all n t ht
      rw [List.take_add_one, ht, Option.toList_some]
      refine ⟨?_, fun m => ?_⟩
      · rw [List.map_append, List.nodup_append]
        exact ⟨i1, by simp, fun a ha b hb e => a2 (by have z : b = t.1 := List.mem_singleton.mp hb; rw [← z, ← e]; exact ha)⟩
      · rw [cnt_snoc]
        by_cases e : t.2 = m
        · subst e
          rw [if_pos rfl]
          right
          omega
        · rw [if_neg e] ; exact i2 m
  obtain ⟨p1, p2⟩ := pre held.length (Nat.le_refl _)
  rw [List.take_length] at p1 p2
  refine ⟨p1, fun p hp => ?_, p2, fun p hp => ?_⟩
  · obtain ⟨k, hk⟩ := List.getElem?_of_mem hp
    exact (all k p hk).1
  · obtain ⟨k, hk⟩ := List.getElem?_of_mem hp
    exact (all k p hk).2.2.2
theorem badM_some {prs held : Prs4} {rm : Int → Int} {k : Nat} (h : badM prs rm held = some k) : ∃ t, held[k]? = some t ∧ okAt prs rm held k = false ∧ ∀ j, j < k → okAt prs rm held j = true := by
  obtain ⟨h1, as, bs, e, h2⟩ := List.find?_eq_some_iff_append.mp h
  have hk : k ∈ List.range held.length := by rw [e]; simp
  have hk2 := List.mem_range.mp hk
  refine ⟨held[k], List.getElem?_eq_getElem hk2, by simpa using h1, fun j hj => ?_⟩
  have la : as.length = k := by
    have z : (List.range held.length)[as.length]? = some k := by rw [e, List.getElem?_append_right (Nat.le_refl _), Nat.sub_self]; rfl
    have lt : as.length < held.length := by
      have := (List.getElem?_eq_some_iff.mp z).1
      rwa [List.length_range] at this
    rw [List.getElem?_range lt] at z
    exact Option.some.inj z
  have hj2 : j ∈ as := by
    have z : as[j]? = some j := by
      have y : (List.range held.length)[j]? = some j := List.getElem?_range (by omega)
      rw [e, List.getElem?_append_left (by omega)] at y
      exact y
    exact List.mem_of_getElem? z
  simpa using h2 j hj2
end Dm

/-! D37: list.count of flat items; an expression that is never reached. -/
namespace Dm
open PySem PySem.Spec PyProof.Rows L2 Evl
theorem pe_nope {X : Cx} {e : Expr} : PE X e (fun _ _ _ => False) := ⟨fun _ _ _ _ _ _ h => h.elim⟩
def rCntF (K : PySem.W.Frag) : V → List V → Hp → VK → Prop := fun x xs H Q => ∃ (p : Addr) (ys : List V) (y : V), x = .ref p ∧ xs = [y] ∧ SqL K H p ys ∧ flatV y = true ∧ ys.all flatV = true ∧ Q (.int (ys.countP (fun z => eqV z y) : Nat)) H
theorem cnt_flat {y : V} : ∀ {ys : List V} {us : List Value}, Vals ys us → ys.all flatV = true → us.countP (eqU y) = ys.countP fun z => eqV z y
  | _, _, .nil, _ => rfl
  | _, _, .cons (a := a) (b := b) r rs, h => by
    have h1 : flatV a = true := List.all_eq_true.mp h a (List.mem_cons_self ..)
    have h2 := cnt_flat (y := y) rs (List.all_eq_true.mpr fun z hz => List.all_eq_true.mp h z (List.mem_cons_of_mem _ hz))
    rw [List.countP_cons, List.countP_cons, h2, eqU_of r h1]
theorem mt_countF {X : Cx} : MtR X "list.count" (rCntF X.K) := by
  intro pins s σ H x xs v us Q I rx rxs h
  obtain ⟨p, ys, y, rfl, rfl, hs, fy, fys, q⟩ := h
  cases rx
  obtain ⟨u, rfl, ru⟩ := rxs.one
  obtain ⟨its, rv, ⟨⟨cls, dd, data, sl⟩, n, ho, hc, hdn, hd⟩, hlen⟩ := I.list hs
  simp only at hc hd
  subst hc hd
  refine call_meets PySem.F.slot_list_count ⟨_, ho, rfl⟩ PySem.F.entry_list_count (PySem.F.args_list_count_2 _ _)
    (SeqAt.list_countAt p its.toArray n dd sl u (eqU y)) ⟨ho, fun u' hu' => mem_eqAt ru fy rv fys u' (by simpa using hu'), ?_⟩
  have ec : its.toArray.toList.countP (eqU y) = ys.countP fun z => eqV z y := cnt_flat rv fys
  refine ⟨.int (ys.countP (fun z => eqV z y) : Nat), H, I.tok _, ⟨s.toks, ?_⟩, q⟩
  show Value.int ((its.toArray.toList.countP (eqU y) : Nat) : Int) s.toks = _
  rw [ec]
theorem mt_countFK {X : Cx} {K : PySem.W.Frag} (hK : X.K = K := by rfl) : MtR X "list.count" (rCntF K) := by
  subst hK
  exact mt_countF
theorem mt_indexFK {X : Cx} {K : PySem.W.Frag} (hK : X.K = K := by rfl) : MtR X "list.index" (rIndex K) := by
  subst hK
  exact mt_index
theorem call_isXK {X : Cx} {K : PySem.W.Frag} {a : Addr} {cls : Value} {d : Option Addr} {oe : Obj} {pn : List (Addr × Obj)} (hz : Zc cls d oe) (hf : ∃ vs, oe.data = .fields vs) (hK : X.K = K := by rfl) : CallR (X.suite a ((a, oe) :: pn)) (.builtin "isinstance") (rIsX K a cls d) := by
  subst hK
  exact call_isX hz hf
end Dm

/-! D38: dict(a list of pairs whose keys are nested tuples). -/
namespace Dm
open PySem PySem.Spec PyProof.Rows L2 Evl
/-- the pair (k, v) stands at x -/
def PrN (K : PySem.W.Frag) (H : Hp) (x : V) (kv : NestedKey × V) : Prop := ∃ p b : Addr, x = .ref p ∧ SqT K H p [.ref b, kv.2] ∧ NK H kv.1 b
def rDictNP (P : Program) (w : World) (K : PySem.W.Frag) : List V → Hp → VK → Prop := fun xs H Q => ∃ (a : Addr) (ws : List V) (kvs : List (NestedKey × V)), xs = [.ref a] ∧ SqL K H a ws ∧ Paired (PrN K H) ws kvs ∧
  ∀ p o, H p = none → DN P w (upd H p o) p (mergeN [] kvs) → Q (.ref p) (upd H p o)
theorem prn_of {X : Cx} {pins : List (Addr × Obj)} {σ : L2.St} {H : Hp} {s : Shared} (I : L2.Inv X pins σ H s) : ∀ {ws : List V} {kvs : List (NestedKey × V)} {us : List Value}, Paired (PrN X.K H) ws kvs → Vals ws us →
    ∃ (ents : List NEnt) (Ts : List Addr), NT H kvs ents ∧ us = Ts.map Value.ref ∧ Ts.length = ents.length ∧ ∀ (j : Nat) (e : NEnt), ents[j]? = some e → ∃ t, Ts[j]? = some t ∧ IsTup s.heap t #[.ref e.2.1, e.2.2]
  | _, _, _, .nil, .nil => ⟨[], [], .nil, rfl, rfl, fun j q e => by simp at e⟩
  | _, _, _, .cons (a := x) (b := kv) h t, .cons rx r => by
    obtain ⟨p, b, rfl, hp, hb⟩ := h
    obtain ⟨ents, Ts, i1, i2, i3, i4⟩ := prn_of I t r
    obtain ⟨its, rv, ht, _⟩ := I.tuple hp
    obtain ⟨u, y, ei, ru, ry⟩ := vals2 rv
    subst ei
    cases rx
    cases ru
    refine ⟨(kv.1, b, y) :: ents, p :: Ts, .cons ⟨rfl, hb, ry⟩ i1, by rw [i2]; rfl, by rw [List.length_cons, List.length_cons, i3], fun j q e => ?_⟩
    cases j with
    | zero =>
      have e' : (kv.1, b, y) = q := Option.some.inj e
      subst e'
      exact ⟨p, rfl, ht⟩
    | succ j =>
      obtain ⟨t, e1, e2⟩ := i4 j q (by simpa using e)
      exact ⟨t, by simpa using e1, e2⟩
theorem call_dictNP {X : Cx} {P : Program} {w : World} {K : PySem.W.Frag} (hP : X.prog = P) (hw : X.w = w) (hK : X.K = K) (hu : X.A.units + 16 < cLine) (hc : X.calm = true) : CallR X (.type "dict") (rDictNP P w K) := by
  subst hP hw hK
  intro pins s σ H xs us Q I r h
  obtain ⟨a, ws, kvs, rfl, ha, hp, q⟩ := h
  obtain ⟨u, rfl, rx⟩ := vals1 r
  cases rx
  obtain ⟨its, rv, pl, hz⟩ := I.list ha
  obtain ⟨ents, Ts, rN, rfl, hT, hts⟩ := prn_of I hp rv
  obtain ⟨o, n, ho, hcl, hdn, hdat⟩ := pl
  have lw : ents.length = ws.length := by rw [← rN.len, Paired.length hp]
  have hpl : PlainSeq "list" s.heap a (Ts.map Value.ref).toArray := ⟨o, n, ho, hcl, hdn, hdat⟩
  have hpi : PairItems s.heap (Ts.map Value.ref).toArray (fun j => Ts.getD j 0) (ents.map fun e => ((.ref e.2.1 : Value), e.2.2)) := by
    refine ⟨by simp [hT], fun j k v hj => ?_⟩
    rw [List.getElem?_map, Option.map_eq_some_iff] at hj
    obtain ⟨e, he, hkv⟩ := hj
    cases hkv
    obtain ⟨t, ht, htt⟩ := hts j e he
    dsimp only
    rw [List.getD_eq_getElem?_getD, ht]
    refine ⟨by simp [ht], ?_⟩
    obtain ⟨o', ho', hc', n', hd'⟩ := htt
    exact .inl ⟨o', ho', hc', n', hd'⟩
  refine call_dict_pairsH (knd := nestedKind X.prog X.w) (ps := ents) (PairArg.list a (Ts.map Value.ref).toArray (fun j => Ts.getD j 0) (ents.map fun e => ((.ref e.2.1 : Value), e.2.2))) (I.ok.hd hc) ?_ ⟨hpl, hpi⟩ ⟨by simp, fun i key v hr => ?_⟩ (fun h' hk x hx => ?_) (by rw [List.length_map, lw]; exact hz) fun h' tk hd' hk => ?_
  · show X.A.units + 1 + 1 + 8 < cLine
    omega
  · have hr : (ents.map fun e => ((.ref e.2.1 : Value), e.2.2))[i]? = some (key, v) := hr
    rw [List.getElem?_map, Option.map_eq_some_iff] at hr
    obtain ⟨e, he, hkv⟩ := hr
    cases hkv
    exact ⟨e.1, e.2.1, he, rfl⟩
  · exact NT.is (I.hok.kept fun b o e => hk b o (Nat.ne_of_lt (Heap.lt_size e)) (by simp) e) rN x hx
  · have rM := rN.merge .nil
    obtain ⟨ep, raw⟩ := raw_of hd'
    have hl : (storedAllH [] ents).length ≤ sizeLine := by rw [← rM.len]; exact Nat.le_trans (length_mergeN kvs []) (by rw [List.length_nil, Nat.zero_add, rN.len, lw]; exact hz)
    have nH := I.hok.fresh (Nat.le_refl s.heap.objs.size)
    refine ⟨.ref s.heap.objs.size, _, I.laid (a := s.heap.objs.size) (o := dnO X.prog X.w s.heap.objs.size (storedAllH [] ents) ep) (t' := tk) (fun b o e => hk b o (by simp) e) (Nat.le_refl _) (dnO_ok (beq_eq_false_iff_ne.mpr (Ne.symm (Nat.ne_of_lt I.big))) hl (let ⟨_, _, _, _, _, _, _, _, z⟩ := hd'; z) raw), rfl, q _ _ nH ⟨_, ep, upd_same, rM.mono (Same.ts (Same.new nH))⟩⟩
end Dm

/-! D39: pairs and ids in lists; could and the first pair that can't be, as the law reckons them. -/
namespace Dm
open PySem PySem.Spec PyProof.Rows L2 Evl
theorem inDK {X : Cx} {K : PySem.W.Frag} (h : X.K = K) (hu : X.A.units + 65 < cLine) : OpR X (compareOp .In) (rInD K) := h ▸ op_inD hu
theorem notInDK {X : Cx} {K : PySem.W.Frag} (h : X.K = K) (hu : X.A.units + 65 < cLine) : OpR X (compareOp .NotIn) (rNotInD K) := h ▸ op_notInD hu
theorem any_pr {p : List Int × Int} : ∀ {prs : Prs4}, ((prs.map prD).any fun z => PyData.eqv z (prD p)) = decide (p ∈ prs)
  | [] => rfl
  | q :: prs => by
    rw [List.map_cons, List.any_cons, any_pr, eqv_pr, Bool.eq_iff_iff, Bool.or_eq_true, decide_eq_true_iff, decide_eq_true_iff, decide_eq_true_iff, List.mem_cons]
    exact ⟨fun h => h.imp Eq.symm id, fun h => h.imp Eq.symm id⟩
theorem any_mk {n : List Int} : ∀ {l : List (List Int)}, ((l.map mkD).any fun z => PyData.eqv z (mkD n)) = decide (n ∈ l)
  | [] => rfl
  | q :: l => by
    rw [List.map_cons, List.any_cons, any_mk, eqv_mk, Bool.eq_iff_iff, Bool.or_eq_true, decide_eq_true_iff, decide_eq_true_iff, decide_eq_true_iff, List.mem_cons]
    exact ⟨fun h => h.imp Eq.symm id, fun h => h.imp Eq.symm id⟩
theorem shaped_mks {l : List (List Int)} (h1 : l.length ≤ 40000) (h2 : ∀ n ∈ l, n.length ≤ 40000) : SeqAt.shaped (.list (l.map mkD)) = true :=
  (Fint.list (n := 2) (by rw [List.length_map]; exact h1) (fun d hd => by
    obtain ⟨p, hp, rfl⟩ := List.mem_map.mp hd
    exact (fine_mk (h2 p hp)).le (by omega)) : Fint 3 (.list (l.map mkD))).shaped (by decide)
theorem had_get {nm : List Int} : ∀ had : Prs4, valV (had.map hadE) (idK nm) = (had.find? fun q => decide (q.1 = nm)).map fun q => V.int q.2
  | [] => rfl
  | p :: had => by
    rw [List.map_cons, List.find?_cons]
    by_cases e : p.1 = nm
    · rw [valV_pos (by show idK p.1 = idK nm; rw [e]), decide_eq_true e] ; rfl
    · rw [valV_neg (fun z => e (idK_inj z)), had_get had, decide_eq_false e]
theorem mergeN_new : ∀ {more kvs : List (NestedKey × V)}, ((kvs ++ more).map (·.1)).Nodup → mergeN kvs more = kvs ++ more
  | [], kvs, _ => (List.append_nil _).symm
  | p :: more, kvs, h => by
    have hn : valV kvs p.1 = none := by
      cases hv : valV kvs p.1 with
      | none => rfl
      | some v =>
        have : p.1 ∈ kvs.map (·.1) := by
          have := valV_any (kvs := kvs) (k := p.1)
          rw [hv] at this
          obtain ⟨q, hq, e⟩ := List.any_eq_true.mp this
          have e : q.1 = p.1 := by simpa using e
          exact List.mem_map.mpr ⟨q, hq, e⟩
        rw [List.map_append, List.nodup_append] at h
        exact absurd rfl (h.2.2 p.1 this p.1 (List.mem_map.mpr ⟨p, List.mem_cons_self .., rfl⟩))
    show mergeN (putK kvs p.1 p.2) more = kvs ++ p :: more
    rw [putK_new _ hn, mergeN_new (by rw [List.append_assoc]; exact h), List.append_assoc]
    rfl
/-- the law's own look at a pair -/
def lawLet (prs : Prs4) (hs : List Hlp) (held : Prs4) (k : Nat) (p : List Int × Int) : Bool :=
  !((decide ((p.1.length : Int) > 1) && !decide (p.1.dropLast ∈ held.map (·.1))) || (decide (p.1 ∈ held.map (·.1)) && decide (((held.find? fun q => decide (q.1 = p.1)).map (ixM prs)).getD 0 ≤ (k : Int)))) &&
    (decide (((ownI (ixM prs) held p.2).length : Int) < roomM hs p.2) || !decide (((ownI (ixM prs) held p.2).filter fun x => decide (x > (k : Int))) = []))
theorem find_of_mem {held : Prs4} {nm : List Int} (h : nm ∈ held.map (·.1)) : ∃ q, held.find? (fun q => decide (q.1 = nm)) = some q ∧ q ∈ held ∧ q.1 = nm := by
  obtain ⟨t, ht, et⟩ := List.mem_map.mp h
  cases e : held.find? (fun q => decide (q.1 = nm)) with
  | none => exact absurd (List.find?_eq_none.mp e t ht) (by simp [et])
  | some q => exact ⟨q, rfl, List.mem_of_find?_eq_some e, by simpa using List.find?_some e⟩
theorem find_of_not {held : Prs4} {nm : List Int} (h : nm ∉ held.map (·.1)) : held.find? (fun q => decide (q.1 = nm)) = none :=
  List.find?_eq_none.mpr fun t ht => by
    have : t.1 ≠ nm := fun e => h (List.mem_map.mpr ⟨t, ht, e⟩)
    simp [this]
theorem ix_lt4 {prs : Prs4} {p : List Int × Int} (h : p ∈ prs) : ixM prs p < (prs.length : Int) := by
  unfold ixM
  exact Int.ofNat_lt.mpr (List.idxOf_lt_length_iff.mpr h)
theorem let_law {prs held : Prs4} {hs : List Hlp} {k : Nat} {p : List Int × Int} (nd : prs.Nodup) (hp : prs[k]? = some p) (hne : p.1 ≠ []) (hn : p.2 ∈ hs.map (·.1)) : letB prs hs held p = lawLet prs hs held k p := by
  have hk := ixM_at nd hp
  have hpm := List.mem_of_getElem? hp
  have l1 : 1 ≤ p.1.length := List.length_pos_iff.mpr hne
  unfold letB lawLet
  congr 1
  · rw [Bool.not_or, Bool.not_and, Bool.not_and, Bool.not_not]
    congr 1
    · congr 1
      rw [Bool.eq_iff_iff, decide_eq_true_iff, Bool.not_eq_true', decide_eq_false_iff_not]
      omega
    · by_cases z : p.1 ∈ held.map (·.1)
      · obtain ⟨q, e1, e2, e3⟩ := find_of_mem z
        rw [decide_eq_true z]
        unfold whoM
        rw [e1, hk]
        show decide ((k : Int) < ixM prs q) = (!true || !decide (ixM prs q ≤ (k : Int)))
        rw [Bool.eq_iff_iff, decide_eq_true_iff, Bool.or_eq_true, Bool.not_eq_true', Bool.not_eq_true', decide_eq_false_iff_not]
        constructor
        · intro h; right; omega
        · rintro (h | h)
          · cases h
          · omega
      · rw [decide_eq_false z]
        unfold whoM
        rw [find_of_not z, hk]
        have := ix_lt4 hpm
        rw [hk] at this
        show decide ((k : Int) < (prs.length : Int)) = (!false || _)
        rw [decide_eq_true this] ; rfl
  · rw [bnd_eq hn, hk]
    have ho : (ownI (ixM prs) held p.2).length = cntM held p.2 := ownI_len ..
    rw [ho]
    by_cases c : (cntM held p.2 : Int) < roomM hs p.2
    · rw [if_pos c, decide_eq_true c, Bool.true_or]
      have := ix_lt4 hpm
      rw [hk] at this
      exact decide_eq_true this
    · rw [if_neg c, decide_eq_false c, Bool.false_or, Bool.eq_iff_iff, decide_eq_true_iff, Bool.not_eq_true', decide_eq_false_iff_not]
      constructor
      · intro h z
        by_cases e : ownI (ixM prs) held p.2 = []
        · rw [e] at h
          have : (k : Int) < -1 := h
          omega
        · have hm := maxI_mem e
          have : maxI (-1) (ownI (ixM prs) held p.2) ∈ (ownI (ixM prs) held p.2).filter fun x => decide (x > (k : Int)) := List.mem_filter.mpr ⟨hm, decide_eq_true h⟩
          rw [z] at this
          cases this
      · intro h
        obtain ⟨x, hx⟩ := List.exists_mem_of_ne_nil _ h
        obtain ⟨h1, h2⟩ := List.mem_filter.mp hx
        have := maxI_ge h1
        have h3 : x > (k : Int) := of_decide_eq_true h2
        omega
end Dm

/-! D40: readings for the law's own look at what could be had. -/
namespace Dm
open PySem PySem.Spec PyProof.Rows L2 Evl
section
variable {P : Program} {w : World} {K : PySem.W.Frag} {σ : L2.St} {H : Hp} {te td to ta : TE} {tl th : TO} {a b : Addr} {xs : List V} {kvs : List (NestedKey × V)}
/-- t[:-1] not in d -/
theorem ev_nnotinLast {nm : List Int} (h : Ev te σ H (.ref b)) (h1 : EvO tl σ H none) (h2 : EvO th σ H (some (-1))) (hd : Ev td σ H (.ref a)) (hb : Tp H (.ref b) (mkD nm)) (hne : nm ≠ []) (g : DN P w H a kvs) :
    Ev (tNNotIn P w (tSl (rSlF K) te tl th) td) σ H (.bl (!(valV kvs (idK nm.dropLast)).isSome)) := fun H1 e Q q => by
  obtain ⟨c, ys, ec, hc, hys⟩ := hb.tup_inv
  cases ec
  have z := hys.ints ; subst z
  have hlen : 1 ≤ nm.length := List.length_pos_iff.mpr hne
  refine sl_last (h.mono e) (fun H2 e2 => h1 H2 (e.trans e2)) (fun H2 e2 => h2 H2 (e.trans e2)) (hc.mono (Same.ts e)) (by rw [List.length_map]; exact hlen) fun H2 p e2 tp => ?_
  refine hd H2 (e.trans e2) _ fun H3 e3 => ⟨a, kvs, idK nm.dropLast, p, rfl, rfl, g.same ((e.trans e2).trans e3), nk_id (.tup (tp.mono (Same.ts e3)) ?_), q H3 (e2.trans e3)⟩
  rw [← List.map_dropLast]
  exact Tps.of_ints _
theorem et_neNilL {ns : List Int} (h : EvL te σ H (ns.map V.int)) : EvT (tTest (tOp (rNeD K) te (tLst tNil))) σ H (!decide (ns = [])) := fun H1 e Q q =>
  h H1 e _ fun c H2 nc e2 hc => (el_lst ea_nil (by decide)) H2 (e.trans e2) _ fun p H3 np e3 hp => rv_neNil (e3 _ _ hc) hp H3 (Ex.refl H3) _ fun H4 e4 => ⟨_, rfl, q H4 ((e2.trans e3).trans e4)⟩
/-- order.index((name, number)) -/
theorem ev_indexT {tb : TA} {prs : Prs4} {p : List Int × Int} {n : Addr} (ho : Ev to σ H (.ref a)) (hx : SqL K H a xs) (tx : Tps H xs (prs.map prD)) (he : EvA tb σ H [.ref n, .int p.2]) (hv : Tp H (.ref n) (mkD p.1)) (hp : p ∈ prs) (hn : prs.Nodup) (hl : prs.length ≤ 40000) (hid : ∀ q ∈ prs, q.1.length ≤ 40000) :
    Ev (tBM K "list" (rIndexD K) to (tCons (tTupF tb) tNil)) σ H (.int (ixM prs p)) := fun H1 e Q q =>
  ho H1 e _ fun H2 e2 => ⟨.inl ⟨rfl, xs, ex_l (e.trans e2) hx⟩, eF_tup (Evl.EvA.mono (e.trans e2) he) (by show 2 ≤ 100000; decide) fun H3 p3 e3 _ t3 => by
    have e' := (e.trans e2).trans e3
    exact ((ev_index (K := K) (σ := σ) (to := tC (.ref a)) (te := tC (.ref p3)) ev_c (ex_l e' hx) (tx.mono (Same.ts e')) ev_c (.tup t3 (.cons (hv.mono (Same.ts e')) (.cons (.int _) .nil))) hp hn hl hid) H3 (Ex.refl H3) Q fun H4 e4 => q H4 ((e2.trans e3).trans e4)).2⟩
/-- a list of pairs, as entries of a dict -/
theorem prn_pr : ∀ {ws : List V} {held : Prs4}, Tps H ws (held.map prD) → Paired (PrN K H) ws (held.map hadE)
  | [], [], _ => .nil
  | x :: ws, p :: held, h => by
    cases h with
    | cons h1 h2 =>
      obtain ⟨b, ys, rfl, hb, hys⟩ := h1.tup_inv
      obtain ⟨n, y, rfl, hn, hy⟩ := hys.two
      have hb : TupAt H b [n, .int p.2] := by rw [hy.int_inv] at hb; exact hb
      obtain ⟨c, zs, rfl, hc, hz⟩ := hn.tup_inv
      exact .cons ⟨b, c, rfl, hb.sq, nk_id (.tup hc hz)⟩ (prn_pr h2)
end
end Dm

/-! D41: texts of rows. -/
namespace Dm
open PySem PySem.Spec PyProof.Rows L2 Evl
theorem join4 (p w x y z : Str) : p ++ Txt.join (" " : Str) [w, x, y, z] = ((((((((Str.empty ++ p) ++ w) ++ ((" " : Str))) ++ x) ++ ((" " : Str))) ++ y) ++ ((" " : Str))) ++ z) := by
  rw [Str.empty_append]
  apply Str.ext'
  simp [Txt.join, Builtin.Str.glued, Str.cps_append, Array.append_assoc]
end Dm

/-! D42: a class of the text: its methods as they stand. -/
namespace Dm
open PySem PySem.Spec PyProof.Rows L2 Evl
structure MethT (K : PySem.W.Frag) (C : Addr) (m qual : Str) (st : Stmt) (ps : List Str) where
  f : Addr
  fd : FuncData
  F : Fun K m qual st f fd
  M : Meth K C m f
  b : Binds K fd ps []
def meth_mk {K : PySem.W.Frag} {C f : Addr} {m qual : Str} {st : Stmt} {ps : List Str} {oc : Value} {od an : Option Addr} {osl : Array (Option Value)} {kV doc pm cdv ct : Value}
    (a : PySem.W.findIn K (.ref C) m = some (some (.ref f))) (i : PySem.W.isFn K (.ref f) = true) (l : K.lookup f = some ⟨oc, od, .func (PySem.W.fnOf m qual (defArgs st) (defBody st) (defScope st) .none kV doc pm an cdv ct), osl⟩) (c : PySem.W.codeIn K cdv qual = true) (k : PySem.W.keepIn K (.ref f) = true)
    (b : ∀ (kV doc pm : Value) (an : Option Addr) (cdv ct : Value) (us : List Value), us.length = ps.length → bindArgs (PySem.W.fnOf m qual (defArgs st) (defBody st) (defScope st) .none kV doc pm an cdv ct) ⟨us, []⟩ = pure (ps.zip us)) : MethT K C m qual st ps :=
  ⟨f, PySem.W.fnOf m qual (defArgs st) (defBody st) (defScope st) .none kV doc pm an cdv ct, fun_mk l c k, ⟨a, i, k⟩, (fun_mk l c k).binds b⟩
/-- what the written part says of a class that is made -/
structure ClsT (K : PySem.W.Frag) (mg : Str → Option Value) (x : Str) (C : Addr) : Prop where
  g : mg x = some (.ref C)
  c : Cls K C
  mks : PySem.W.makesIn K C = true
  kp : PySem.W.keepIn K (.ref C) = true
end Dm

/-! D43: d.get(x) of a dict of the module, texts as keys. -/
namespace Dm
open PySem PySem.Spec PyProof.Rows L2 Evl
def KFig (K : PySem.W.Frag) (w : World) (a : Addr) : Prop := ∃ es n, K.lookup a = some ⟨.type "dict", none, .dict es n, #[]⟩ ∧ PySem.W.KeysLit w.params es.toList ∧ (a == sysModules) = false
def KVal (K : PySem.W.Frag) (a : Addr) (z : Str) (v : V) : Prop := (∃ u, PySem.W.nsIn K a z = some (some u) ∧ RelV v u) ∨ (PySem.W.nsIn K a z = some none ∧ v = .non)
def tKGet (K : PySem.W.Frag) (w : World) (td ty : TE) : TE := fun σ H Q => td σ H fun x H1 => ∃ a, x = .ref a ∧ KFig K w a ∧ ty σ H1 fun y H2 => ∃ z v, y = .str z ∧ KVal K a z v ∧ Q v H2
section
variable {X : Cx} {o e : Expr} {apos cpos : Pos} {td ty : TE}
theorem pe_kget {K : PySem.W.Frag} {w : World} (hK : X.K = K) (hw : X.w = w) (ho : PE X o td) (he : PE X e ty) (m : M1 X o "get" apos e cpos) : PE X (.Call (.Attribute o "get" apos) [e] [] cpos) (tKGet K w td ty) := by
  subst hK hw
  refine ⟨fun pins s σ H Q I h => ?_⟩
  refine wpAny_Call_method m.base m.few m.line PySem.F.plainAttrs_dict PySem.F.slot_dict_get PySem.F.type_dict_get (thn (ho.run pins s σ H _ I h) fun u s1 ⟨x, H1, I1, rx, a, ex, ⟨es, n, hl, hk, low⟩, q1⟩ => ?_)
  subst ex
  obtain rfl : u = Value.ref a := rx
  have hm := PySem.W.mapOf_K (prog := X.prog) (w := X.w) I1.kIn hl hk
  refine ⟨hm.typeIs, fun b q => ?_, ?_⟩
  · cases q
    exact ⟨_, I1.kIn _ _ hl, rfl⟩
  rw [m.trees]
  refine Calls.callWith_builtin rfl (Calls.evalArgs_plain (Calls.spliced_cons (thn (he.run pins s1 σ H1 _ I1 q1) fun iv s2 ⟨y, H2, I2, ry, z, v, ey, kv, q2⟩ => Calls.spliced_nil ?_)))
  subst ey
  obtain ⟨t, rfl⟩ := (show ∃ t, iv = Value.str z t from ry)
  have hm2 := PySem.W.mapOf_K (prog := X.prog) (w := X.w) I2.kIn hl hk
  refine call_meetsIn PySem.F.slot_dict_get hm2.typeIs PySem.F.entry_dict_get (PySem.F.args_dict_get_2 _ _) (meets_dict_get (strKind X.prog X.w) a (strKind_is X.prog X.w z t) low) ⟨_, hm2, ?_⟩
  rcases kv with ⟨u, e1, e2⟩ | ⟨e1, rfl⟩
  · have z2 := PySem.W.find_K hl e1
    rw [z2]
    exact ⟨v, H2, I2.tok _, e2, q2⟩
  · have z2 := PySem.W.find_K hl e1
    rw [z2]
    exact ⟨V.non, H2, I2.tok _, rfl, q2⟩
end
end Dm

/-! D44: list(enumerate(a list)): a list of new pairs. -/
namespace Dm
open PySem PySem.Spec PyProof.Rows L2 Evl
theorem enum_no_len : typeLookup (.type "enumerate") "__len__" = pure none := by rw [typeLookup_type, builtinLookup_eq_fast]; kernel_rfl
theorem enum_no_hint : typeLookup (.type "enumerate") "__length_hint__" = pure none := by rw [typeLookup_type, builtinLookup_eq_fast]; kernel_rfl
def EnSt (h : Heap) (e it l S : Addr) (items : Array Value) (i : Nat) : Prop :=
  h.IsListIter it l i ∧ h.IsList l items ∧ ((∃ old, IsEnum h e it i old) ∨ ∃ old T f oT, IsEnumHeld h e it i old T f ∧ h.get? T = some oT ∧ T ≠ e ∧ T ≠ it ∧ T ≠ S)
theorem EnSt.frame {h h' : Heap} {e it l S : Addr} {items : Array Value} {i : Nat} (st : EnSt h e it l S items i) (de : e ≠ S) (di : it ≠ S) (dl : l ≠ S) (k : ∀ b o, b ≠ S → h.get? b = some o → h'.get? b = some o) : EnSt h' e it l S items i := by
  obtain ⟨h1, h2, h3⟩ := st
  refine ⟨h1.at fun o x => k it o di x, h2.at fun o x => k l o dl x, ?_⟩
  rcases h3 with ⟨old, he⟩ | ⟨old, T, f, oT, he, hT, r1, r2, r3⟩
  · exact .inl ⟨old, k e _ de he⟩
  · exact .inr ⟨old, T, f, oT, k e _ de he, k T _ r3 hT, r1, r2, r3⟩
/-- the pairs made so far -/
def EnMade (h : Heap) (bd : Nat) (items : Array Value) (bs : List Addr) : Prop := bs.Nodup ∧ ∀ (j : Nat) (b : Addr), bs[j]? = some b → bd ≤ b ∧ ∃ t x, items[j]? = some x ∧ h.get? b = some (tupOb (.int (j : Nat) t) x)
section
variable {prog : Program} {w : World} {A : Around} {E : Value → Shared → Prop} {s : Shared} {e it l S : Addr} {items : Array Value}
theorem en_next {i : Nat} {Q : Option Value → Shared → Prop} (st : EnSt s.heap e it l S items i) (hei : e ≠ it) (hle : l ≠ e) (hli : l ≠ it) (hi : i < items.size) (hS : S < s.heap.objs.size)
    (hQ : ∀ h', EnSt h' e it l S items (i + 1) → h'.get? s.heap.objs.size = some (tupOb (.int (i : Nat) s.toks) items[i]) → h'.objs.size = s.heap.objs.size + 1 → (∀ b o, b ≠ e → b ≠ it → s.heap.get? b = some o → h'.get? b = some o) → Q (some (.ref s.heap.objs.size)) { s with heap := h', toks := s.toks + 1 }) :
    wpAny (model prog w) A (pyNext (.ref e)) Q E s := by
  obtain ⟨hit, hl, he⟩ := st
  have ex := Array.getElem?_eq_getElem hi
  have ec : ((i + 1 : Nat) : Int) = (i : Int) + 1 := by omega
  have nit : s.heap.objs.size ≠ it := let ⟨_, x, _⟩ := hit; Nat.ne_of_gt (Heap.lt_size x)
  rcases he with ⟨old, he⟩ | ⟨old, T, f, oT, he, hT, r1, r2, r3⟩
  · refine wpAny_pyNext_enum_item he hit hl ex hei fun h' ho hit' hT hsz hk => ?_
    exact hQ h' ⟨hit', hl.at fun o x => hk l o hle hli x, .inr ⟨_, s.heap.objs.size, false, _, (by rw [ec]; exact ho), hT, Nat.ne_of_gt (Heap.lt_size he), nit, Nat.ne_of_gt hS⟩⟩ hT hsz hk
  · refine wpAny_pyNext_enum_item_held he hT r1 r2 hit hl ex hei fun h' ho hit' hT' hsz hk => ?_
    exact hQ h' ⟨hit', hl.at fun o x => hk l o hle hli x, .inr ⟨old, T, true, oT, (by rw [ec]; exact ho), hk _ _ r1 r2 hT, r1, r2, r3⟩⟩ hT' hsz hk
theorem en_end {Q : Option Value → Shared → Prop} (hA : A.handled = none) (st : EnSt s.heap e it l S items items.size)
    (hQ : ∀ h', (∀ b o, b ≠ it → s.heap.get? b = some o → h'.get? b = some o) → Q none { s with heap := h' }) : wpAny (model prog w) A (pyNext (.ref e)) Q E s := by
  obtain ⟨hit, hl, he⟩ := st
  have hx : items[items.size]? = none := Array.getElem?_eq_none (Nat.le_refl _)
  rcases he with ⟨old, he⟩ | ⟨old, T, f, oT, he, hT, r1, r2, r3⟩
  · exact wpAny_pyNext_enum_end hA he hit hl hx fun h' hk => hQ h' fun b o hb x => hk b o hb x
  · exact wpAny_pyNext_enum_end_held hA he hit hl hx fun h' hk => hQ h' fun b o hb x => hk b o hb x
theorem en_loop {R : Result → Shared → Prop} (hA : A.handled = none) (bd : Nat) (res : Value) (hei : e ≠ it) (hle : l ≠ e) (hli : l ≠ it) (de : e ≠ S) (di : it ≠ S) (dl : l ≠ S) (hz : items.size ≤ sizeLine) :
    ∀ (k i : Nat) (s : Shared) (bs : List Addr) (c : Nat), items.size - i = k → i ≤ items.size → EnSt s.heap e it l S items i → s.heap.get? S = some { cls := .type "list", dict := none, data := .seq (bs.map Value.ref).toArray c, slots := #[] } → bs.length = i → EnMade s.heap bd items bs → bd ≤ s.heap.objs.size → e < bd → it < bd → S < bd →
    (∀ (h' : Heap) (tk : Nat) (bs' : List Addr) (c' : Nat), h'.get? S = some { cls := .type "list", dict := none, data := .seq (bs'.map Value.ref).toArray c', slots := #[] } → bs'.length = items.size → EnMade h' bd items bs' → (∀ b o, b ≠ S → b ≠ e → b ≠ it → s.heap.get? b = some o → h'.get? b = some o) → R (.ok (.ret res)) { s with heap := h', toks := tk }) →
    codeAny (model prog w) A (.builtin "list.extend.loop" ⟨[.ref S, .ref e, res], []⟩) R s := by
  intro k
  induction k with
  | zero =>
    intro i s bs c hk hi st hS hb md hbd eb ib sb hR
    have hin : i = items.size := by omega
    subst hin
    refine codeAny_builtin F.entry_extend_loop ?_
    rw [Around.under_plainId F.plain_extend_loop _]
    show wpAny _ A.in1 (pyNext (.ref e) >>= _) _ _ s
    refine wpAny_bind (en_end hA st fun h' hk' => wpAny_pure (hR h' s.toks bs c (hk' S _ (Ne.symm di) hS) hb ⟨md.1, fun j b hj => ?_⟩ fun b o h1 h2 h3 h => hk' b o h3 h))
    obtain ⟨m1, t, x, m2, m3⟩ := md.2 j b hj
    exact ⟨m1, t, x, m2, hk' b _ (Nat.ne_of_gt (Nat.lt_of_lt_of_le ib m1)) m3⟩
  | succ k ih =>
    intro i s bs c hk hi st hS hb md hbd eb ib sb hR
    have hlt : i < items.size := by omega
    refine codeAny_builtin F.entry_extend_loop ?_
    rw [Around.under_plainId F.plain_extend_loop _]
    show wpAny _ A.in1 (pyNext (.ref e) >>= _) _ _ s
    have Slt : S < s.heap.objs.size := Heap.lt_size hS
    refine wpAny_bind (en_next st hei hle hli hlt Slt fun h' st' hT hsz hk' => ?_)
    have hS' := hk' S _ (Ne.symm de) (Ne.symm di) hS
    show wpAny _ A.in1 (updateSeq S (·.push (.ref s.heap.objs.size)) >>= _) _ _ _
    refine wpAny_bind ?_
    have oth : ∀ b o, b ≠ S → h'.get? b = some o → (h'.update S (Obj.mapSeq (·.push (.ref s.heap.objs.size)))).get? b = some o := fun b o hb e => (Heap.get?_update_other _ _ (Ne.symm hb)).trans e
    have eS : ∃ c2, (h'.update S (Obj.mapSeq (·.push (.ref s.heap.objs.size)))).get? S = some { cls := .type "list", dict := none, data := .seq ((bs ++ [s.heap.objs.size]).map Value.ref).toArray c2, slots := #[] } := by
      rw [show ((bs ++ [s.heap.objs.size]).map Value.ref).toArray = (bs.map Value.ref).toArray.push (.ref s.heap.objs.size) by simp]
      exact ⟨_, Heap.get?_update_self _ hS' rfl⟩
    obtain ⟨c2, eS⟩ := eS
    refine wpAny_updateSeq hS' rfl (wpAny_pure ⟨plainId_quiet F.plain_extend_loop _, ih (i + 1) _ (bs ++ [s.heap.objs.size]) c2 (by omega) hlt (st'.frame de di dl oth) eS (by rw [List.length_append, hb, List.length_singleton]) ⟨?_, fun j b hj => ?_⟩ ?_ eb ib sb fun h'' tk bs' c' hS'' hl'' md'' hk'' => ?_⟩)
      (by rw [List.size_toArray, List.length_map]; omega) (by show ((bs.map Value.ref).toArray.push _).size ≤ sizeLine + 1; rw [Array.size_push, List.size_toArray, List.length_map]; omega)
    · refine List.nodup_append.mpr ⟨md.1, List.nodup_cons.mpr ⟨by simp, List.nodup_nil⟩, fun b hb1 b' hb2 => ?_⟩
      rw [List.mem_singleton.mp hb2]
      obtain ⟨j, hj⟩ := List.mem_iff_getElem?.mp hb1
      obtain ⟨_, t, x, _, m3⟩ := md.2 j b hj
      exact Nat.ne_of_lt (Heap.lt_size m3)
    · by_cases hj' : j < bs.length
      · rw [List.getElem?_append_left hj'] at hj
        obtain ⟨m1, t, x, m2, m3⟩ := md.2 j b hj
        exact ⟨m1, t, x, m2, oth b _ (Nat.ne_of_gt (Nat.lt_of_lt_of_le sb m1)) (hk' b _ (Nat.ne_of_gt (Nat.lt_of_lt_of_le eb m1)) (Nat.ne_of_gt (Nat.lt_of_lt_of_le ib m1)) m3)⟩
      · rw [List.getElem?_append_right (by omega)] at hj
        have hj2 : j = bs.length := by
          have := (List.getElem?_eq_some_iff.mp hj).1
          rw [List.length_singleton] at this
          omega
        subst hj2
        rw [Nat.sub_self] at hj
        cases hj
        refine ⟨hbd, s.toks, items[i], by rw [hb]; exact Array.getElem?_eq_getElem hlt, ?_⟩
        rw [hb]
        exact oth _ _ (Nat.ne_of_gt Slt) hT
    · show bd ≤ (h'.update S _).objs.size
      rw [Heap.size_update] ; omega
    · exact hR h'' tk bs' c' hS'' hl'' md'' fun b o h1 h2 h3 h => hk'' b o h1 h2 h3 (oth b o h1 (hk' b o h2 h3 h))
theorem en_extend {R : Result → Shared → Prop} (hA : A.handled = none) (bd : Nat) (res : Value) (hei : e ≠ it) (hle : l ≠ e) (hli : l ≠ it) (de : e ≠ S) (di : it ≠ S) (dl : l ≠ S) (hz : items.size ≤ sizeLine) {old : Value} (he : IsEnum s.heap e it 0 old) (hit : s.heap.IsListIter it l 0) (hl : s.heap.IsList l items) {c₀ : Nat}
    (hS : s.heap.get? S = some { cls := .type "list", data := .seq #[] c₀ }) (hbd : bd ≤ s.heap.objs.size) (eb : e < bd) (ib : it < bd) (sb : S < bd)
    (hR : ∀ (h' : Heap) (tk : Nat) (bs' : List Addr) (c' : Nat), h'.get? S = some { cls := .type "list", dict := none, data := .seq (bs'.map Value.ref).toArray c', slots := #[] } → bs'.length = items.size → EnMade h' bd items bs' → (∀ b o, b ≠ S → b ≠ e → b ≠ it → s.heap.get? b = some o → h'.get? b = some o) → R (.ok (.ret res)) { s with heap := h', toks := tk }) :
    wpAny (model prog w) A.in1 (Builtin.List.listExtendWith (.ref S) (.ref e) res)
      (fun fin s' => match fin with | .done f => R (.ok f) s' | .again c' => c'.quiet = true ∧ codeAny (model prog w) A c' R s') (fun e s' => R (.error e) s') s := by
  have hT : s.TypeIs (.ref e) "enumerate" := ⟨_, he, rfl⟩
  unfold Builtin.List.listExtendWith
  refine wpAny_bind (wpAny_typeOf hT ?_)
  have h1 : Builtin.List.listSameRef (.ref S) (.ref e) = false := by simp [Builtin.List.listSameRef, Ne.symm de]
  have h2 : (Value.type "enumerate" == Value.type "list") = false := by decide
  have h3 : (Value.type "enumerate" == Value.type "tuple") = false := by decide
  simp only [h1, h2, h3, Bool.or_false, Bool.false_eq_true, if_false]
  refine wpAny_bind (wpAny_pyIter_enum he ?_)
  refine wpAny_bind (wpAny_holding ?_)
  unfold Builtin.List.listLengthHint
  refine wpAny_bind (wpAny_specialOf hT enum_no_len ?_)
  show wpAny _ A.in1 (specialOf (Value.ref e) (Str.ofString "__length_hint__") >>= _) _ _ _
  refine wpAny_bind (wpAny_specialOf hT enum_no_hint ?_)
  refine wpAny_pure ?_
  show wpAny _ A.in1 (rule "list.extend.makes-room" >>= fun _ => Builtin.List.listTouch (.ref S) >>= fun _ =>
    again (.builtin "list.extend.loop" ⟨[.ref S, .ref e, res], []⟩)) _ _ _
  refine wpAny_bind (wpAny_rule ?_)
  refine wpAny_bind ?_
  show wpAny _ A.in1 (updateSeq S (·.push .none) >>= fun _ => updateSeq S (·.pop)) _ _ _
  refine wpAny_bind (wpAny_updateSeq hS rfl ?_)
  have hS₂ := Heap.get?_update_self (Obj.mapSeq (·.push Value.none)) hS rfl
  refine wpAny_updateSeq (hz := by seq_fits) hS₂ rfl ?_
  have hS₃ := Heap.get?_update_self (Obj.mapSeq (·.pop)) hS₂ rfl
  have oth : ∀ b o, b ≠ S → s.heap.get? b = some o → ((s.heap.update S (Obj.mapSeq (·.push Value.none))).update S (Obj.mapSeq (·.pop))).get? b = some o :=
    fun b o hb e => (Heap.get?_update_other _ _ (Ne.symm hb)).trans ((Heap.get?_update_other _ _ (Ne.symm hb)).trans e)
  have st : EnSt s.heap e it l S items 0 := ⟨hit, hl, .inl ⟨old, he⟩⟩
  refine wpAny_pure ⟨plainId_quiet F.plain_extend_loop _, en_loop hA bd res hei hle hli de di dl hz _ 0 _ [] _ rfl (Nat.zero_le _) (st.frame de di dl oth) hS₃ rfl ⟨List.nodup_nil, fun j b hj => by cases hj⟩ ?_ eb ib sb fun h' tk bs' c' q1 q2 q3 q4 => ?_⟩
  · show bd ≤ ((s.heap.update S _).update S _).objs.size
    rw [Heap.size_update, Heap.size_update] ; exact hbd
  · exact hR h' tk bs' c' q1 q2 q3 fun b o a1 a2 a3 h => q4 b o a1 a2 a3 (oth b o a1 h)
theorem en_init {R : Result → Shared → Prop} (hA : A.handled = none) (bd : Nat) (hei : e ≠ it) (hle : l ≠ e) (hli : l ≠ it) (de : e ≠ S) (di : it ≠ S) (dl : l ≠ S) (hz : items.size ≤ sizeLine) {old : Value} (he : IsEnum s.heap e it 0 old) (hit : s.heap.IsListIter it l 0) (hl : s.heap.IsList l items)
    (hS : s.heap.get? S = some { cls := .type "list", data := .seq #[] }) (hbd : bd ≤ s.heap.objs.size) (eb : e < bd) (ib : it < bd) (sb : S < bd)
    (hR : ∀ (h' : Heap) (tk : Nat) (bs' : List Addr) (c' : Nat), h'.get? S = some { cls := .type "list", dict := none, data := .seq (bs'.map Value.ref).toArray c', slots := #[] } → bs'.length = items.size → EnMade h' bd items bs' → (∀ b o, b ≠ S → b ≠ e → b ≠ it → s.heap.get? b = some o → h'.get? b = some o) → R (.ok (.ret .none)) { s with heap := h', toks := tk }) :
    wpAny (model prog w) A.in1 (Builtin.«list.__init__» ⟨[.ref S, .ref e], []⟩)
      (fun fin s' => match fin with | .done f => R (.ok f) s' | .again c' => c'.quiet = true ∧ codeAny (model prog w) A c' R s') (fun e s' => R (.error e) s') s := by
  show wpAny _ A.in1 (do let old ← Builtin.List.listItems (.ref S); Builtin.List.listUpdate (.ref S) (fun _ => #[]); letGo old.toList.reverse; Builtin.List.listExtendWith (.ref S) (.ref e) .none) _ _ s
  refine wpAny_bind ?_
  unfold Builtin.List.listItems
  refine wpAny_bind (wpAny_seqItems hS rfl (wpAny_pure ?_))
  show wpAny _ A.in1 (updateSeq S (fun _ => #[]) >>= fun _ => letGo (#[] : Array Value).toList.reverse >>= fun _ => Builtin.List.listExtendWith (.ref S) (.ref e) .none) _ _ s
  refine wpAny_bind (wpAny_updateSeq hS rfl ?_)
  have hS₂ := Heap.get?_update_self (Obj.mapSeq (fun _ => (#[] : Array Value))) hS rfl
  have oth : ∀ b o, b ≠ S → s.heap.get? b = some o → (s.heap.update S (Obj.mapSeq (fun _ => (#[] : Array Value)))).get? b = some o :=
    fun b o hb e => (Heap.get?_update_other _ _ (Ne.symm hb)).trans e
  refine wpAny_bind (wpAny_letGo ?_)
  refine en_extend hA bd .none hei hle hli de di dl hz (oth e _ de he) (hit.at fun o x => oth it o di x) (hl.at fun o x => oth l o dl x) hS₂ ?_ eb ib sb fun h' tk bs' c' q1 q2 q3 q4 => ?_
  · show bd ≤ (s.heap.update S _).objs.size
    rw [Heap.size_update] ; exact hbd
  · exact hR h' tk bs' c' q1 q2 q3 fun b o a1 a2 a3 h => q4 b o a1 a2 a3 (oth b o a1 h)
/-- list(e), e an enumerate of a list -/
theorem call_list_enum {Q : Value → Shared → Prop} (hA : A.handled = none) (hei : e ≠ it) (hle : l ≠ e) (hli : l ≠ it) (hz : items.size ≤ sizeLine) {old : Value} (he : IsEnum s.heap e it 0 old) (hit : s.heap.IsListIter it l 0) (hl : s.heap.IsList l items)
    (hQ : ∀ (h' : Heap) (tk : Nat) (bs' : List Addr) (c' : Nat), h'.get? s.heap.objs.size = some { cls := .type "list", dict := none, data := .seq (bs'.map Value.ref).toArray c', slots := #[] } → bs'.length = items.size → EnMade h' (s.heap.objs.size + 1) items bs' → (∀ b o, b ≠ s.heap.objs.size → b ≠ e → b ≠ it → s.heap.get? b = some o → h'.get? b = some o) → Q (.ref s.heap.objs.size) { s with heap := h', toks := tk }) :
    wpAny (model prog w) A (call (.type "list") [.ref e]) Q E s := by
  refine callType_codes (Q₁ := fun obj s₁ => obj = .ref s.heap.objs.size ∧ s₁ = { s with heap := s.heap.push { cls := .type "list", data := .seq #[] } }) F.called_list (F.typeCall_list_1 _) F.entry_list_init
    (code_list_new _ ⟨rfl, rfl⟩) fun obj s₁ h₁ => ?_
  obtain ⟨rfl, rfl⟩ := h₁
  have hS : (s.heap.push { cls := .type "list", data := .seq #[] }).get? s.heap.objs.size = some { cls := .type "list", data := .seq #[] } := Heap.get?_push_size _ rfl
  have k : ∀ b o, s.heap.get? b = some o → (s.heap.push { cls := .type "list", data := .seq #[] }).get? b = some o := fun b o e => Heap.get?_push_of_some _ e
  have el : e < s.heap.objs.size := Heap.lt_size he
  have il : it < s.heap.objs.size := let ⟨_, x, _⟩ := hit; Heap.lt_size x
  have ll : l < s.heap.objs.size := let ⟨_, x, _⟩ := hl; Heap.lt_size x
  refine ⟨⟨_, hS, rfl⟩, F.args_list_init_2 _ _, en_init hA (s.heap.objs.size + 1) hei hle hli (Nat.ne_of_lt el) (Nat.ne_of_lt il) (Nat.ne_of_lt ll) hz (k _ _ he) (hit.at fun o x => k it o x) (hl.at fun o x => k l o x) hS (by rw [Heap.size_push]; exact Nat.le_refl _) (Nat.lt_succ_of_lt el) (Nat.lt_succ_of_lt il) (Nat.lt_succ_self _) fun h' tk bs' c' q1 q2 q3 q4 => ?_⟩
  exact ⟨rfl, hQ h' tk bs' c' q1 q2 q3 fun b o a1 a2 a3 h => q4 b o a1 a2 a3 (k b o h)⟩
end
theorem choose_list {β : Type} : ∀ {bs : List Addr} {P : Nat → Addr → β → Prop}, (∀ j b, bs[j]? = some b → ∃ y, P j b y) → ∃ L : List (Addr × β), L.map (·.1) = bs ∧ ∀ j q, L[j]? = some q → P j q.1 q.2
  | [], P, _ => ⟨[], rfl, fun j q h => by cases h⟩
  | b :: bs, P, h => by
    obtain ⟨y, hy⟩ := h 0 b rfl
    obtain ⟨L, e, hL⟩ := choose_list (bs := bs) (P := fun j => P (j + 1)) fun j b' hj => h (j + 1) b' hj
    refine ⟨(b, y) :: L, by rw [List.map_cons, e], fun j q hj => ?_⟩
    cases j with
    | zero => cases hj; exact hy
    | succ j => exact hL j q hj
def tListEnum (K : PySem.W.Frag) (ta : TA) : TE := fun σ H Q => ta σ H fun vs H1 => ∃ a xs, vs = [.ref a] ∧ SqL K H1 a xs ∧ ∀ (L : Addr) (bs : List Addr) (H2 : Hp), Same H1 H2 → H1 L = none → bs.length = xs.length → H2 L = some (.lst (bs.map V.ref)) → (∀ (j : Nat) b x, bs[j]? = some b → xs[j]? = some x → TupAt H2 b [.int (j : Nat), x]) → Q (.ref L) H2
theorem pe_listEnum {X : Cx} {K : PySem.W.Frag} (hK : X.K = K) {e : Expr} {ta : TA} {p1 p2 pos1 pos2 : Pos} (hc : X.calm = true) (hg1 : Gl X "list") (hm1 : X.mg "list" = none) (hg : Gl X "enumerate") (hm : X.mg "enumerate" = none) (ha : PA X [e] ta) (hs : starEach [e] X.env = [(false, eval e X.env)] := by rfl)
    (na : starEach [.Call (.Name "enumerate" p2) [e] [] pos2] X.env = (false, eval (.Call (.Name "enumerate" p2) [e] [] pos2) X.env) :: starEach [] X.env := by rfl) : PE X (.Call (.Name "list" p1) [.Call (.Name "enumerate" p2) [e] [] pos2] [] pos1) (tListEnum K ta) := by
  subst hK
  refine ⟨fun pins s σ H Q I h => ?_⟩
  refine Call_ (ld_blt I hg1 hm1 boot_list (PyProof.Rows.callWith_type1 (args_cons ?_ na) na))
  refine Call_ (ld_blt I hg hm boot_enumerate (PyProof.Rows.callWith_type1 (thn (ha.run pos2 pins s σ H _ I h) fun us s1 ⟨vs, H1, I1, r1, q1⟩ => ?_) hs rfl))
  obtain ⟨a, xs, ex, hq, q⟩ := q1
  subst ex
  cases r1 with
  | cons r rr =>
    cases rr
    cases r
    obtain ⟨its, rv, p', hz⟩ := I1.list hq
    refine call_enumerate_list p'.isList fun h' he hit hsz hk => args_nil ?_
    have il : its.length = xs.length := rv.length.symm
    have al : a < s1.heap.objs.size := let ⟨_, x, _⟩ := p'.isList; Heap.lt_size x
    refine call_list_enum (l := a) (items := its.toArray) (I1.ok.hd hc) (Nat.succ_ne_self _) (Nat.ne_of_lt (Nat.lt_succ_of_lt al)) (Nat.ne_of_lt al) (by rw [List.size_toArray, il]; exact hz) he hit (p'.isList.at fun o x => hk _ _ x) fun h'' tk bs c' q1 q2 q3 q4 => ?_
    have q2 : bs.length = xs.length := by rw [q2, List.size_toArray, il]
    have kk : ∀ b u, s1.heap.get? b = some u → h''.get? b = some u := fun b u hb => by
      have bl := Heap.lt_size hb
      have b1 : b ≠ h'.objs.size := by rw [hsz]; exact Nat.ne_of_lt (Nat.lt_succ_of_lt (Nat.lt_succ_of_lt bl))
      have b2 : b ≠ s1.heap.objs.size + 1 := Nat.ne_of_lt (Nat.lt_succ_of_lt bl)
      exact q4 b u b1 b2 (Nat.ne_of_lt bl) (hk b u hb)
    have sS : s1.heap.objs.size ≤ h'.objs.size := by rw [hsz]; exact Nat.le_add_right _ _
    have nS := I1.hok.fresh sS
    have I2 : L2.Inv X pins σ (upd H1 h'.objs.size (.lst (bs.map V.ref))) { s1 with heap := h'', toks := tk } := I1.laid (a := h'.objs.size) (o := .lst (bs.map V.ref)) (t' := tk) kk sS (show ObjOk X.prog X.w _ _ _ (.lst (bs.map V.ref)) from ⟨by rw [List.length_map, q2]; exact hz, bs.map Value.ref, c', vals_maps V.ref Value.ref bs fun _ _ => rfl, q1⟩)
    obtain ⟨L, eL, hL⟩ := choose_list (bs := bs) (P := fun j b (y : Obj × List V) => h'.objs.size < b ∧ y.1.dict = none ∧ (∃ v, xs[j]? = some v ∧ y.2 = [.int (j : Nat), v]) ∧ ∀ H3, ObjOk X.prog X.w H3 h'' b (.frz y.1 (.tup y.2))) fun j b hj => by
      obtain ⟨m1, t, u, m2, m3⟩ := q3.2 j b hj
      have hjx : j < xs.length := by rw [← q2]; exact (List.getElem?_eq_some_iff.mp hj).1
      have hx := List.getElem?_eq_getElem hjx
      obtain ⟨u', hu, ru⟩ := rv.get hx
      have eu : u' = u := by
        have z : its[j]? = some u := by simpa using m2
        exact Option.some.inj (hu.symm.trans z)
      subst eu
      refine ⟨(tupOb (.int (j : Nat) t) u', [.int (j : Nat), xs[j]]), m1, rfl, ⟨_, hx, rfl⟩, fun H3 => ⟨m3, ?_, [.int (j : Nat) t, u'], .cons ⟨t, rfl⟩ (.cons ru .nil), ⟨_, m3, rfl, 0, rfl⟩⟩⟩
      rw [sizeLine_eq] ; show 2 ≤ _ ; omega
    obtain ⟨H2, I3, sm, all, _⟩ := takeF I1 L (upd H1 h'.objs.size (.lst (bs.map V.ref))) I2 (by rw [eL]; exact q3.1) fun c hc => by
      obtain ⟨j, hj⟩ := List.mem_iff_getElem?.mp hc
      obtain ⟨g1, _, _, g4⟩ := hL j c hj
      have hb : s1.heap.objs.size ≤ c.1 := Nat.le_trans sS (Nat.le_of_lt g1)
      exact ⟨hb, by rw [upd_ne (Nat.ne_of_gt g1)]; exact I1.hok.fresh hb, g4⟩
    refine ⟨.ref h'.objs.size, H2, I3, rfl, q h'.objs.size bs H2 ((Same.new nS).trans sm) nS q2 (sm _ _ upd_same) fun j b x hj hx => ?_⟩
    rw [← eL, List.getElem?_map, Option.map_eq_some_iff] at hj
    obtain ⟨c, hc, rfl⟩ := hj
    obtain ⟨_, g2, ⟨v, hv, g3⟩, _⟩ := hL j c hc
    have ev : v = x := Option.some.inj (hv.symm.trans hx)
    subst ev
    exact ⟨c.2.1, g2, by rw [all c (List.mem_of_getElem? hc), g3]⟩
end Dm

/-! D45: forests that grow at their last branch, told of cells (marks, list) and their lists. -/
namespace Dm
open PySem PySem.Spec PyProof.Rows L2 Evl
def addAt : Nat → List Int → List Th → List Th
  | 0, m, ts => ts ++ [.mk m []]
  | d + 1, m, ts => match ts.getLast? with
    | none => []
    | some (.mk m' is) => ts.dropLast ++ [.mk m' (addAt d m is)]
def wideAt : Nat → List Th → Nat
  | 0, ts => ts.length
  | d + 1, ts => match ts.getLast? with
    | none => 0
    | some (.mk _ is) => wideAt d is
def depS : Nat → List Th → Nat
  | 0, _ => 0
  | n + 1, ts => match ts.getLast? with
    | none => 0
    | some (.mk _ is) => 1 + depS n is
theorem addAt_snoc (d : Nat) (m m' : List Int) (us is : List Th) : addAt (d + 1) m (us ++ [.mk m' is]) = us ++ [.mk m' (addAt d m is)] := by
  simp only [addAt, List.getLast?_concat, List.dropLast_concat]
theorem wideAt_snoc (d : Nat) (m' : List Int) (us is : List Th) : wideAt (d + 1) (us ++ [.mk m' is]) = wideAt d is := by
  simp only [wideAt, List.getLast?_concat]
theorem depS_snoc (n : Nat) (m' : List Int) (us is : List Th) : depS (n + 1) (us ++ [.mk m' is]) = 1 + depS n is := by
  simp only [depS, List.getLast?_concat]
/-- things as cells of (marks, list of those within); l: their lists -/
inductive FA (H : Hp) : Nat → List V → List Th → List Addr → Prop
  | nil (n : Nat) : FA H n [] [] []
  | cons {n : Nat} {p e : Addr} {x : V} {m : List Int} {ws vs : List V} {is ts : List Th} {l1 l2 : List Addr} : TupAt H p [x, .ref e] → Tp H x (mkD m) → H e = some (.lst ws) → FA H n ws is l1 → FA H (n + 1) vs ts l2 → FA H (n + 1) (.ref p :: vs) (.mk m is :: ts) (e :: (l1 ++ l2))
theorem FA.length {H : Hp} {n : Nat} {vs : List V} {ts : List Th} {l : List Addr} (h : FA H n vs ts l) : vs.length = ts.length := by
  induction h with
  | nil => rfl
  | cons _ _ _ _ _ _ ih => rw [List.length_cons, List.length_cons, ih]
theorem FA.keep {H H' : Hp} {n : Nat} {vs : List V} {ts : List Th} {l : List Addr} (h : FA H n vs ts l) (t : Tst H H') : (∀ y ∈ l, ∀ o, H y = some o → H' y = some o) → FA H' n vs ts l := by
  induction h with
  | nil n => exact fun _ => .nil n
  | cons h1 h2 h3 h4 h5 i1 i2 =>
    intro k
    exact .cons (h1.mono t) (h2.mono t) (k _ (List.mem_cons_self ..) _ h3) (i1 fun y hy => k y (List.mem_cons_of_mem _ (List.mem_append_left _ hy))) (i2 fun y hy => k y (List.mem_cons_of_mem _ (List.mem_append_right _ hy)))
theorem FA.app {H : Hp} {n : Nat} {vs : List V} {ts : List Th} {l : List Addr} (h : FA H n vs ts l) : ∀ {vs2 : List V} {ts2 : List Th} {l2 : List Addr}, FA H n vs2 ts2 l2 → FA H n (vs ++ vs2) (ts ++ ts2) (l ++ l2) := by
  induction h with
  | nil n => exact fun h2 => h2
  | cons h1 h2 h3 h4 h5 i1 i2 =>
    intro vs2 ts2 l2 k
    rw [List.cons_append, List.cons_append, List.cons_append, List.append_assoc]
    exact .cons h1 h2 h3 h4 (i2 k)
theorem FA.snoc {H : Hp} : ∀ {us : List Th} {n : Nat} {vs : List V} {t : Th} {l : List Addr}, FA H n vs (us ++ [t]) l → ∃ vs1 v l1 l2, vs = vs1 ++ [v] ∧ FA H n vs1 us l1 ∧ FA H n [v] [t] l2 ∧ l = l1 ++ l2
  | [], n, vs, t, l, h => by
    have hl := h.length
    match vs, hl with
    | [v], _ => exact ⟨[], v, [], l, rfl, .nil n, h, rfl⟩
  | u :: us, n, vs, t, l, h => by
    cases h with
    | cons h1 h2 h3 h4 h5 =>
      obtain ⟨vs1, v, l1, l2, e1, k1, k2, e2⟩ := FA.snoc h5
      subst e1 e2
      refine ⟨_, v, _, l2, rfl, .cons h1 h2 h3 h4 k1, k2, ?_⟩
      rw [List.cons_append, List.append_assoc]
theorem FA.leaf {H : Hp} {n : Nat} {p e : Addr} {x : V} {m : List Int} (h1 : TupAt H p [x, .ref e]) (h2 : Tp H x (mkD m)) (h3 : H e = some (.lst [])) : FA H (n + 1) [.ref p] [.mk m []] [e] :=
  .cons h1 h2 h3 (.nil n) (.nil (n + 1))
theorem FA.one {H : Hp} {n : Nat} {v : V} {m : List Int} {is : List Th} {l : List Addr} (h : FA H n [v] [.mk m is] l) : ∃ k p e x ws l1, n = k + 1 ∧ v = .ref p ∧ TupAt H p [x, .ref e] ∧ Tp H x (mkD m) ∧ H e = some (.lst ws) ∧ FA H k ws is l1 ∧ l = e :: l1 := by
  cases h with
  | cons h1 h2 h3 h4 h5 =>
    cases h5
    exact ⟨_, _, _, _, _, _, rfl, rfl, h1, h2, h3, h4, by rw [List.append_nil]⟩
/-- the last branch, from outside -/
inductive Spine (H : Hp) : List V → List V → Prop
  | nil : Spine H [] []
  | last {us ws path : List V} {p e : Addr} {x : V} : TupAt H p [x, .ref e] → H e = some (.lst ws) → Spine H ws path → Spine H (us ++ [.ref p]) (.ref p :: path)
theorem tup_same {H : Hp} {p : Addr} {xs ys : List V} (h1 : TupAt H p xs) (h2 : TupAt H p ys) : xs = ys := by
  obtain ⟨o, _, e1⟩ := h1
  obtain ⟨o', _, e2⟩ := h2
  have := Option.some.inj (e1.symm.trans e2)
  injection this with _ z
  injection z
theorem snoc_inj {α : Type} {us us' : List α} {v v' : α} (h : us ++ [v] = us' ++ [v']) : us = us' ∧ v = v' := by
  have := List.append_inj' h rfl
  exact ⟨this.1, List.singleton_inj.mp this.2⟩
theorem FA.split {H : Hp} {n : Nat} {vs path : List V} {v : V} {ts : List Th} {l : List Addr} (h : FA H n vs ts l) (s : Spine H vs (v :: path)) : ∃ k us us' p e x ws m is l1 l2, n = k + 1 ∧ vs = us ++ [.ref p] ∧ v = .ref p ∧ ts = us' ++ [.mk m is] ∧ TupAt H p [x, .ref e] ∧ Tp H x (mkD m) ∧ H e = some (.lst ws) ∧ FA H (k + 1) us us' l1 ∧ FA H k ws is l2 ∧ l = l1 ++ e :: l2 ∧ Spine H ws path := by
  have hl := h.length
  generalize hp : v :: path = q at s
  cases s with
  | nil => cases hp
  | @last us ws path' p e x h1 h2 h3 =>
    cases hp
    rcases List.eq_nil_or_concat ts with rfl | ⟨us', t, rfl⟩
    · rw [List.length_append] at hl ; simp at hl
    rw [List.concat_eq_append] at h
    obtain ⟨vs1, v', l1, l2, e1, k1, k2, rfl⟩ := h.snoc
    obtain ⟨rfl, rfl⟩ := snoc_inj e1
    obtain ⟨m, is⟩ := t
    obtain ⟨k, p', e', x', ws', l3, rfl, ep, g1, g2, g3, g4, rfl⟩ := k2.one
    cases ep
    have z := tup_same h1 g1
    cases z
    have z := h2.symm.trans g3
    cases z
    exact ⟨k, us, us', p, e, x, ws, m, is, l1, l3, rfl, rfl, rfl, List.concat_eq_append, h1, g2, h2, k1, g4, rfl, h3⟩
theorem Spine.len {H : Hp} : ∀ {n : Nat} {vs path : List V} {ts : List Th} {l : List Addr}, FA H n vs ts l → Spine H vs path → path.length = depS n ts
  | n, vs, [], ts, l, h, s => by
    generalize hp : ([] : List V) = q at s
    cases s with
    | nil =>
      have : ts = [] := List.length_eq_zero_iff.mp h.length.symm
      subst this
      cases n with
      | zero => rfl
      | succ n => rfl
    | last => cases hp
  | n, vs, v :: path, ts, l, h, s => by
    obtain ⟨k, us, us', p, e, x, ws, m, is, l1, l2, rfl, rfl, rfl, rfl, h1, h2, h3, h4, h5, rfl, h6⟩ := h.split s
    rw [depS_snoc, List.length_cons, Spine.len h5 h6, Nat.add_comm]
/-- a leaf at the end of a list on the last branch -/
theorem FA.grow {H : Hp} : ∀ (d : Nat) {n : Nat} {vs path : List V} {ts : List Th} {l : List Addr}, FA H n vs ts l → l.Nodup → Spine H vs path → d + 1 ≤ path.length → d + 2 ≤ n →
    ∃ p x g ws, path[d]? = some (.ref p) ∧ TupAt H p [x, .ref g] ∧ H g = some (.lst ws) ∧ g ∈ l ∧ ws.length = wideAt (d + 1) ts ∧
      ∀ (H' : Hp) (p' e' : Addr) (x' : V) (m : List Int), (∀ y o, y ∈ l → y ≠ g → H y = some o → H' y = some o) → Tst H H' → H' g = some (.lst (ws ++ [.ref p'])) → TupAt H' p' [x', .ref e'] → Tp H' x' (mkD m) → H' e' = some (.lst []) → e' ∉ l →
        ∃ l', FA H' n vs (addAt (d + 1) m ts) l' ∧ l'.Nodup ∧ (∀ y, y ∈ l' ↔ y ∈ l ∨ y = e') ∧ Spine H' vs (path.take (d + 1) ++ [.ref p'])
  | d, n, vs, [], ts, l, h, nd, s, hd, hn => by simp at hd
  | 0, n, vs, v :: path, ts, l, h, nd, s, hd, hn => by
    obtain ⟨k, us, us', p, e, x, ws, m0, is, l1, l2, rfl, rfl, rfl, rfl, h1, h2, h3, h4, h5, rfl, h6⟩ := h.split s
    obtain ⟨nd1, nd2, nd3⟩ := List.nodup_append.mp nd
    obtain ⟨nd4, nd5⟩ := List.nodup_cons.mp nd2
    refine ⟨p, x, e, ws, rfl, h1, h3, by simp, by rw [wideAt_snoc, h5.length]; rfl, fun H' p' e' x' m f t hg hp' hx' he' ne => ?_⟩
    obtain ⟨j, rfl⟩ : ∃ j, k = j + 1 := ⟨k - 1, by omega⟩
    have a1 : FA H' (j + 2) us us' l1 := h4.keep t fun y hy o ho => f y o (List.mem_append_left _ hy) (fun z => nd3 y hy e (List.mem_cons_self ..) z) ho
    have a2 : FA H' (j + 1) ws is l2 := h5.keep t fun y hy o ho => f y o (by simp [hy]) (fun z => nd4 (z ▸ hy)) ho
    have a3 := a2.app (FA.leaf (n := j) hp' hx' he')
    refine ⟨l1 ++ e :: (l2 ++ [e']), ?_, ?_, fun y => ?_, ?_⟩
    · rw [addAt_snoc]
      refine a1.app ?_
      have := FA.cons (h1.mono t) (h2.mono t) hg a3 (.nil (j + 2))
      rw [List.append_nil] at this
      exact this
    · have ne' : e' ∉ l1 ∧ e' ≠ e ∧ e' ∉ l2 := ⟨fun z => ne (by simp [z]), fun z => ne (by simp [z]), fun z => ne (by simp [z])⟩
      refine List.nodup_append.mpr ⟨nd1, List.nodup_cons.mpr ⟨?_, List.nodup_append.mpr ⟨nd5, by simp, ?_⟩⟩, ?_⟩
      · intro z
        rcases List.mem_append.mp z with z | z
        · exact nd4 z
        · exact ne'.2.1 (List.mem_singleton.mp z).symm
      · intro a ha b hb z
        rw [List.mem_singleton.mp hb] at z
        exact ne'.2.2 (z ▸ ha)
      · intro a ha b hb z
        rcases List.mem_cons.mp hb with hb | hb
        · exact nd3 a ha b (by simp [hb]) z
        rcases List.mem_append.mp hb with hb | hb
        · exact nd3 a ha b (by simp [hb]) z
        · rw [List.mem_singleton.mp hb] at z
          exact ne'.1 (z ▸ ha)
    · simp only [List.mem_append, List.mem_cons, List.not_mem_nil, or_false]
      constructor
      · rintro (z | z | z | z) <;> simp [z]
      · rintro ((z | z | z) | z) <;> simp [z]
    · exact .last (h1.mono t) hg (.last hp' he' .nil)
  | d + 1, n, vs, v :: path, ts, l, h, nd, s, hd, hn => by
    obtain ⟨k, us, us', p, e, x, ws, m0, is, l1, l2, rfl, rfl, rfl, rfl, h1, h2, h3, h4, h5, rfl, h6⟩ := h.split s
    obtain ⟨nd1, nd2, nd3⟩ := List.nodup_append.mp nd
    obtain ⟨nd4, nd5⟩ := List.nodup_cons.mp nd2
    obtain ⟨q, x1, g, ws1, b1, b2, b3, b4, b5, b6⟩ := FA.grow d h5 nd5 h6 (by rw [List.length_cons] at hd; omega) (by omega)
    refine ⟨q, x1, g, ws1, by rw [List.getElem?_cons_succ]; exact b1, b2, b3, by simp [b4], by rw [wideAt_snoc]; exact b5, fun H' p' e' x' m f t hg hp' hx' he' ne => ?_⟩
    have ne' : e' ∉ l1 ∧ e' ≠ e ∧ e' ∉ l2 := ⟨fun z => ne (by simp [z]), fun z => ne (by simp [z]), fun z => ne (by simp [z])⟩
    obtain ⟨l', c1, c2, c3, c4⟩ := b6 H' p' e' x' m (fun y o hy hn' ho => f y o (by simp [hy]) hn' ho) t hg hp' hx' he' ne'.2.2
    have a1 : FA H' (k + 1) us us' l1 := h4.keep t fun y hy o ho => f y o (List.mem_append_left _ hy) (fun z => nd3 y hy g (by simp [b4]) z) ho
    have a2 : H' e = some (.lst ws) := f e _ (by simp) (fun z => nd4 (z ▸ b4)) h3
    refine ⟨l1 ++ e :: l', ?_, ?_, fun y => ?_, ?_⟩
    · rw [addAt_snoc]
      refine a1.app ?_
      have := FA.cons (h1.mono t) (h2.mono t) a2 c1 (.nil (k + 1))
      rw [List.append_nil] at this
      exact this
    · refine List.nodup_append.mpr ⟨nd1, List.nodup_cons.mpr ⟨fun z => ?_, c2⟩, ?_⟩
      · rcases (c3 e).mp z with z | z
        · exact nd4 z
        · exact ne'.2.1 z.symm
      · intro a ha b hb z
        rcases List.mem_cons.mp hb with hb | hb
        · exact nd3 a ha b (by simp [hb]) z
        rcases (c3 b).mp hb with hb | hb
        · exact nd3 a ha b (by simp [hb]) z
        · exact ne'.1 (hb ▸ z ▸ ha)
    · simp only [List.mem_append, List.mem_cons, c3]
      constructor
      · rintro (z | z | z | z) <;> simp [z]
      · rintro ((z | z | z) | z) <;> simp [z]
    · rw [List.take_succ_cons, List.cons_append]
      exact .last (h1.mono t) a2 c4
theorem addAt_ok : ∀ {d n : Nat} {m : List Int} {ts : List Th}, okMarks m → (∀ t ∈ ts, Th.ok n t) → d ≤ n → (d = 0 ∨ wideAt d ts < 3) → d ≤ depS (n + 1) ts → ∀ t ∈ addAt d m ts, Th.ok n t
  | 0, n, m, ts, om, ok, hd, hw, hs, t, ht => by
    rcases List.mem_append.mp ht with ht | ht
    · exact ok t ht
    · rw [List.mem_singleton.mp ht]
      cases n with
      | zero => exact ⟨om, rfl⟩
      | succ n => exact ⟨om, by simp, by simp⟩
  | d + 1, n, m, ts, om, ok, hd, hw, hs, t, ht => by
    rcases List.eq_nil_or_concat ts with rfl | ⟨us, t0, rfl⟩
    · simp [addAt] at ht
    rw [List.concat_eq_append] at *
    obtain ⟨m0, is⟩ := t0
    rw [addAt_snoc] at ht
    rw [wideAt_snoc] at hw
    rw [depS_snoc] at hs
    rcases List.mem_append.mp ht with ht | ht
    · exact ok t (List.mem_append_left _ ht)
    rw [List.mem_singleton.mp ht]
    obtain ⟨n', rfl⟩ : ∃ n', n = n' + 1 := ⟨n - 1, by omega⟩
    have o := ok (.mk m0 is) (by simp)
    have hw' : wideAt d is < 3 := hw.resolve_left (by omega)
    refine ⟨o.1, ?_, addAt_ok om o.2.2 (by omega) (by
      by_cases z : d = 0
      · exact .inl z
      · exact .inr hw') (by omega)⟩
    cases d with
    | zero =>
      show (is ++ [Th.mk m []]).length ≤ 3
      rw [List.length_append] ; exact hw'
    | succ d =>
      rcases List.eq_nil_or_concat is with rfl | ⟨vs, t1, rfl⟩
      · simp [addAt]
      rw [List.concat_eq_append] at *
      obtain ⟨m1, js⟩ := t1
      rw [addAt_snoc, List.length_append]
      have := o.2.1
      rw [List.length_append] at this
      exact this
theorem addAt_len (d : Nat) (m : List Int) (ts : List Th) : (addAt d m ts).length ≤ ts.length + 1 := by
  cases d with
  | zero => show (ts ++ [Th.mk m []]).length ≤ _; rw [List.length_append]; exact Nat.le_refl _
  | succ d =>
    rcases List.eq_nil_or_concat ts with rfl | ⟨us, t, rfl⟩
    · simp [addAt]
    · rw [List.concat_eq_append] at *
      obtain ⟨m', is⟩ := t
      rw [addAt_snoc, List.length_append, List.length_append]
      simp
theorem FA.there {H : Hp} {n : Nat} {vs : List V} {ts : List Th} {l : List Addr} (h : FA H n vs ts l) : ∀ {y : Addr}, y ∈ l → ∃ o, H y = some o := by
  induction h with
  | nil => exact fun z => nomatch z
  | cons h1 h2 h3 h4 h5 i1 i2 =>
    intro y hy
    rcases List.mem_cons.mp hy with rfl | hy
    · exact ⟨_, h3⟩
    rcases List.mem_append.mp hy with hy | hy
    · exact i1 hy
    · exact i2 hy
theorem FA.spine {H H' : Hp} : ∀ {path : List V} {n : Nat} {vs : List V} {ts : List Th} {l : List Addr}, FA H n vs ts l → Spine H vs path → Tst H H' → (∀ y ∈ l, ∀ o, H y = some o → H' y = some o) → Spine H' vs path
  | [], n, vs, ts, l, h, s, t, f => by
    generalize hp : ([] : List V) = q at s
    cases s with
    | nil => exact .nil
    | last => cases hp
  | v :: path, n, vs, ts, l, h, s, t, f => by
    obtain ⟨k, us, us', p, e, x, ws, m, is, l1, l2, rfl, rfl, rfl, rfl, h1, h2, h3, h4, h5, rfl, h6⟩ := h.split s
    exact .last (h1.mono t) (f e (by simp) _ h3) (FA.spine h5 h6 t fun y hy o ho => f y (by simp [hy]) o ho)
theorem FA.lists {H : Hp} {n : Nat} {vs : List V} {ts : List Th} {l : List Addr} (h : FA H n vs ts l) : ∀ {y : Addr}, y ∈ l → ∃ ws, H y = some (.lst ws) := by
  induction h with
  | nil => exact fun z => nomatch z
  | cons h1 h2 h3 h4 h5 i1 i2 =>
    intro y hy
    rcases List.mem_cons.mp hy with rfl | hy
    · exact ⟨_, h3⟩
    rcases List.mem_append.mp hy with hy | hy
    · exact i1 hy
    · exact i2 hy
end Dm

/-! D46: a text, so many times. -/
namespace Dm
open PySem PySem.Spec PyProof.Rows L2 Evl
def strRep (z : Str) (n : Int) : Str := if n < 1 then Str.empty else if (n == 1 || z.length == 0) = true then z else ⟨(List.replicate n.toNat z.cps).foldl (· ++ ·) #[]⟩
theorem foldl_size : ∀ (n : Nat) (a acc : Array Nat), ((List.replicate n a).foldl (· ++ ·) acc).size = acc.size + n * a.size
  | 0, a, acc => by simp
  | n + 1, a, acc => by
    rw [List.replicate_succ, List.foldl_cons, foldl_size n a, Array.size_append, Nat.add_mul]
    omega
theorem strRep_len {z : Str} {n : Int} (h : 0 ≤ n) : (strRep z n).length ≤ n.toNat * z.length := by
  unfold strRep
  split
  · exact Nat.zero_le _
  · rename_i h1
    split
    · have : 1 ≤ n.toNat := by omega
      exact Nat.le_mul_of_pos_left _ this
    · show ((List.replicate n.toNat z.cps).foldl (· ++ ·) #[]).size ≤ _
      rw [foldl_size]
      show 0 + n.toNat * z.cps.size ≤ n.toNat * z.cps.size
      omega
def rTimes : R2 := fun x y H Q => ∃ (z : Str) (n : Int), x = .str z ∧ y = .int n ∧ 0 ≤ n ∧ n ≤ 1000 ∧ z.length ≤ 1000 ∧ Q (.str (strRep z n)) H
theorem op_times {X : Cx} : OpR X (binaryOp .Mult) rTimes := by
  intro pins s σ H x y v u Q I rx ry h
  obtain ⟨z, n, rfl, rfl, n0, n1, lz, q⟩ := h
  obtain ⟨t, rfl⟩ := rx
  obtain ⟨t', rfl⟩ := ry
  have lzn : z.length * n.toNat ≤ 1000 * 1000 := Nat.mul_le_mul lz (by omega)
  have hl : Builtin.Str.tooLong (z.length * n.toNat) = false := by
    unfold Builtin.Str.tooLong
    rw [sizeLine_eq]
    exact decide_eq_false (by omega)
  refine P.mul_str (by rw [decide_eq_false (by omega), decide_eq_false (by omega)]; rfl) (fun h1 _ h2 => ?_) (fun _ _ => hl) ?_
  · have : (1000 : Int) ≤ (2 ^ 63 - 1) / n := by
      rw [Int.le_ediv_iff_mul_le (by omega)]
      have : (1000 : Int) * n ≤ 1000 * 1000 := by omega
      omega
    omega
  · unfold strRep at q
    split
    · rename_i h1
      rw [if_pos h1] at q
      exact ⟨by decide, .str Str.empty, H, I.tok _, ⟨_, rfl⟩, q⟩
    · rename_i h1
      rw [if_neg h1] at q
      split
      · rename_i h2
        rw [if_pos h2] at q
        exact ⟨.str z, H, I, ⟨_, rfl⟩, q⟩
      · rename_i h2
        rw [if_neg h2] at q
        refine ⟨?_, .str ⟨(List.replicate n.toNat z.cps).foldl (· ++ ·) #[]⟩, H, I.tok _, ⟨_, rfl⟩, q⟩
        show ((List.replicate n.toNat z.cps).foldl (· ++ ·) #[]).size ≤ sizeLine
        rw [foldl_size, sizeLine_eq]
        have e : z.cps.size * n.toNat ≤ 1000 * 1000 := lzn
        rw [Nat.mul_comm] at e
        show 0 + n.toNat * z.cps.size ≤ _
        omega
end Dm

namespace Dm
open PySem PySem.Spec PyProof.Rows L2 Evl
/-! ### a def of the text, how it is called -/
structure DefT (K : PySem.W.Frag) (mg : Str → Option Value) (x : Str) (st : Stmt) (ps : List Str) where
  f : Addr
  fd : FuncData
  F : Fun K x x st f fd
  m : mg x = some (.ref f)
  b : Binds K fd ps []
def def_mk {K : PySem.W.Frag} {h : Heap} {mg : Str → Option Value} {x : Str} {st : Stmt} {ps : List Str} (X : K.In h) (G : h.Ns mainGlobals mg) {f : Addr} {oc : Value} {od an : Option Addr} {osl : Array (Option Value)} {kV doc pm cdv ct : Value}
    (a : PySem.W.nsIn K mainGlobals x = some (some (.ref f))) (l : K.lookup f = some ⟨oc, od, .func (PySem.W.fnOf x x (defArgs st) (defBody st) (defScope st) .none kV doc pm an cdv ct), osl⟩) (c : PySem.W.codeIn K cdv x = true) (k : PySem.W.keepIn K (.ref f) = true)
    (b : ∀ (kV doc pm : Value) (an : Option Addr) (cdv ct : Value) (us : List Value), us.length = ps.length → bindArgs (PySem.W.fnOf x x (defArgs st) (defBody st) (defScope st) .none kV doc pm an cdv ct) ⟨us, []⟩ = pure (ps.zip us)) : DefT K mg x st ps :=
  ⟨f, PySem.W.fnOf x x (defArgs st) (defBody st) (defScope st) .none kV doc pm an cdv ct, fun_mk l c k, PySem.W.mg_of X G a, (fun_mk l c k).binds b⟩

def topS (i : Nat) : Stmt := PySem.Challenge.pw_drivermatch_k14_texts_refused.main.body.getD i (.Pass ⟨0, 0, 0, 0⟩)
abbrev s_is_number : Stmt := topS 20
theorem sc_is_number : FnScope ["value", "low", "high"] ["value", "low", "high"] (defScope s_is_number) := ⟨rfl, rfl, rfl, by decide +kernel, rfl, by decide +kernel, by decide +kernel⟩
abbrev s_is_three : Stmt := topS 21
theorem sc_is_three : FnScope ["value", "low", "mark"] ["value", "low"] (defScope s_is_three) := ⟨rfl, rfl, rfl, by decide +kernel, rfl, by decide +kernel, by decide +kernel⟩
abbrev s_is_marks : Stmt := topS 22
theorem sc_is_marks : FnScope ["value"] ["value"] (defScope s_is_marks) := ⟨rfl, rfl, rfl, by decide +kernel, rfl, by decide +kernel, by decide +kernel⟩
abbrev s_is_wanted : Stmt := topS 23
theorem sc_is_wanted : FnScope ["value"] ["value"] (defScope s_is_wanted) := ⟨rfl, rfl, rfl, by decide +kernel, rfl, by decide +kernel, by decide +kernel⟩
abbrev s_is_shell : Stmt := topS 24
theorem sc_is_shell : FnScope ["value", "marks", "inner"] ["value"] (defScope s_is_shell) := ⟨rfl, rfl, rfl, by decide +kernel, rfl, by decide +kernel, by decide +kernel⟩
abbrev s_is_claim : Stmt := topS 25
theorem sc_is_claim : FnScope ["value", "wanted", "worth"] ["value"] (defScope s_is_claim) := ⟨rfl, rfl, rfl, by decide +kernel, rfl, by decide +kernel, by decide +kernel⟩
abbrev s_check_thing : Stmt := topS 26
theorem sc_check_thing : FnScope ["thing", "at", "ahead", "inner", "part", "deep"] ["thing"] (defScope s_check_thing) := ⟨rfl, rfl, rfl, by decide +kernel, rfl, by decide +kernel, by decide +kernel⟩
abbrev s_check_claims : Stmt := topS 27
theorem sc_check_claims : FnScope ["claims", "at", "claim"] ["claims"] (defScope s_check_claims) := ⟨rfl, rfl, rfl, by decide +kernel, rfl, by decide +kernel, by decide +kernel⟩
abbrev s_check_room : Stmt := topS 28
theorem sc_check_room : FnScope ["room"] ["room"] (defScope s_check_room) := ⟨rfl, rfl, rfl, by decide +kernel, rfl, by decide +kernel, by decide +kernel⟩
abbrev s_check_numbers : Stmt := topS 29
theorem sc_check_numbers : FnScope ["numbers", "least", "number"] ["numbers"] (defScope s_check_numbers) := ⟨rfl, rfl, rfl, by decide +kernel, rfl, by decide +kernel, by decide +kernel⟩
abbrev s_check_counted : Stmt := topS 30
theorem sc_check_counted : FnScope ["numbers", "at", "number"] ["numbers"] (defScope s_check_counted) := ⟨rfl, rfl, rfl, by decide +kernel, rfl, by decide +kernel, by decide +kernel⟩
abbrev s_check_things : Stmt := topS 31
theorem sc_check_things : FnScope ["things", "_", "thing", "number"] ["things"] (defScope s_check_things) := ⟨rfl, rfl, rfl, by decide +kernel, rfl, by decide +kernel, by decide +kernel⟩
abbrev s_check_helpers : Stmt := topS 32
theorem sc_check_helpers : FnScope ["helpers", "_", "claims", "room", "helper"] ["helpers"] (defScope s_check_helpers) := ⟨rfl, rfl, rfl, by decide +kernel, rfl, by decide +kernel, by decide +kernel⟩
abbrev s_written : Stmt := topS 35
theorem sc_written : FnScope ["things", "helpers", "rows", "_", "thing", "claims", "room", "helper", "number"] ["things", "helpers"] (defScope s_written) := ⟨rfl, rfl, rfl, by decide +kernel, rfl, by decide +kernel, by decide +kernel⟩
abbrev s_thing_rows : Stmt := topS 36
theorem sc_thing_rows : FnScope ["thing", "deep", "rows", "part", "marks", "inner", "a", "b", "c"] ["thing", "deep"] (defScope s_thing_rows) := ⟨rfl, rfl, rfl, by decide +kernel, rfl, by decide +kernel, by decide +kernel⟩
abbrev s_helper_rows : Stmt := topS 37
theorem sc_helper_rows : FnScope ["claims", "room", "rows", "wanted", "worth", "a", "b", "c"] ["claims", "room"] (defScope s_helper_rows) := ⟨rfl, rfl, rfl, by decide +kernel, rfl, by decide +kernel, by decide +kernel⟩
abbrev s_read : Stmt := topS 38
theorem sc_read : FnScope ["text", "reader", "rows", "things", "helpers", "line", "row", "number", "tree", "room", "claims"] ["text"] (defScope s_read) := ⟨rfl, rfl, rfl, by decide +kernel, rfl, by decide +kernel, by decide +kernel⟩
abbrev s_closed : Stmt := topS 39
theorem sc_closed : FnScope ["tree", "marks", "inner", "part"] ["tree"] (defScope s_closed) := ⟨rfl, rfl, rfl, by decide +kernel, rfl, by decide +kernel, by decide +kernel⟩
abbrev s__law_mix : Stmt := topS 42
theorem sc__law_mix : FnScope ["_law_script", "_law_seed", "_law_mixed", "_law_cell"] ["_law_script", "_law_seed"] (defScope s__law_mix) := ⟨rfl, rfl, rfl, by decide +kernel, rfl, by decide +kernel, by decide +kernel⟩
abbrev s__law_next : Stmt := topS 43
theorem sc__law_next : FnScope ["_law_h", "_law_many", "_law_at", "_law_cell"] ["_law_h", "_law_many"] (defScope s__law_next) := ⟨rfl, rfl, rfl, by decide +kernel, rfl, by decide +kernel, by decide +kernel⟩
abbrev s__law_alike : Stmt := topS 44
theorem sc__law_alike : FnScope ["_law_found", "_law_due_here", "_law_k"] ["_law_found", "_law_due_here"] (defScope s__law_alike) := ⟨rfl, rfl, rfl, by decide +kernel, rfl, by decide +kernel, by decide +kernel⟩
abbrev s__law_marks : Stmt := topS 45
theorem sc__law_marks : FnScope ["_law_h", "_law_k"] ["_law_h"] (defScope s__law_marks) := ⟨rfl, rfl, rfl, by decide +kernel, rfl, by decide +kernel, by decide +kernel⟩
abbrev s__law_thing : Stmt := topS 46
theorem sc__law_thing : FnScope ["_law_h", "_law_deep", "_law_many", "_law_k"] ["_law_h", "_law_deep"] (defScope s__law_thing) := ⟨rfl, rfl, rfl, by decide +kernel, rfl, by decide +kernel, by decide +kernel⟩
abbrev s__law_claims : Stmt := topS 47
theorem sc__law_claims : FnScope ["_law_h", "_law_found", "_law_k", "_law_marks_here", "_law_wanted", "_law_mark"] ["_law_h"] (defScope s__law_claims) := ⟨rfl, rfl, rfl, by decide +kernel, rfl, by decide +kernel, by decide +kernel⟩
abbrev s__law_kind : Stmt := topS 48
theorem sc__law_kind : FnScope ["_law_work", "e", "_law_kinds", "_law_word", "_law_k"] ["_law_work"] (defScope s__law_kind) := ⟨rfl, rfl, rfl, by decide +kernel, rfl, by decide +kernel, by decide +kernel⟩
abbrev s__law_numbers : Stmt := topS 49
theorem sc__law_numbers : FnScope ["_law_words", "_law_found", "_law_word"] ["_law_words"] (defScope s__law_numbers) := ⟨rfl, rfl, rfl, by decide +kernel, rfl, by decide +kernel, by decide +kernel⟩
abbrev s__law_due : Stmt := topS 50
theorem sc__law_due : FnScope ["_law_text", "_law_rows", "_law_k", "_law_found", "_law_paths", "_law_tops", "_law_helpers", "_law_words", "_law_numbers_here", "_law_bad", "_law_siblings", "_law_one"] ["_law_text"] (defScope s__law_due) := ⟨rfl, rfl, rfl, by decide +kernel, rfl, by decide +kernel, by decide +kernel⟩
abbrev s__law_kept : Stmt := topS 51
theorem sc__law_kept : FnScope ["_law_one", "_law_inner"] ["_law_one"] (defScope s__law_kept) := ⟨rfl, rfl, rfl, by decide +kernel, rfl, by decide +kernel, by decide +kernel⟩
abbrev s__law_spoilt : Stmt := topS 52
theorem sc__law_spoilt : FnScope ["_law_h", "_law_text", "_law_turn", "_law_at", "_law_signs", "_law_sign", "_law_rows", "_law_k", "_law_words", "_law_j", "_law_odd"] ["_law_h", "_law_text"] (defScope s__law_spoilt) := ⟨rfl, rfl, rfl, by decide +kernel, rfl, by decide +kernel, by decide +kernel⟩
abbrev s_law : Stmt := topS 53
theorem sc_law : FnScope ["_law_script", "_law_h", "_law_some", "_law_turn", "_law_things", "_law_text", "_law_change", "_law_one", "_law_due_here", "_law_k"] ["_law_script"] (defScope s_law) := ⟨rfl, rfl, rfl, by decide +kernel, rfl, by decide +kernel, by decide +kernel⟩
abbrev s_Reader___init__ : Stmt := clsDef (topS 40) 0
theorem sc_Reader___init__ : FnScope ["self"] ["self"] (defScope s_Reader___init__) := ⟨rfl, rfl, rfl, by decide +kernel, rfl, by decide +kernel, by decide +kernel⟩
abbrev s_Reader_take_row : Stmt := clsDef (topS 40) 1
theorem sc_Reader_take_row : FnScope ["self", "row", "words", "numbers", "word"] ["self", "row"] (defScope s_Reader_take_row) := ⟨rfl, rfl, rfl, by decide +kernel, rfl, by decide +kernel, by decide +kernel⟩
abbrev s_Reader_take_thing : Stmt := clsDef (topS 40) 2
theorem sc_Reader_take_thing : FnScope ["self", "deep", "marks", "among", "tree", "_"] ["self", "deep", "marks"] (defScope s_Reader_take_thing) := ⟨rfl, rfl, rfl, by decide +kernel, rfl, by decide +kernel, by decide +kernel⟩
abbrev s_Reader_take_helper : Stmt := clsDef (topS 40) 3
theorem sc_Reader_take_helper : FnScope ["self", "room"] ["self", "room"] (defScope s_Reader_take_helper) := ⟨rfl, rfl, rfl, by decide +kernel, rfl, by decide +kernel, by decide +kernel⟩
abbrev s_Reader_take_claim : Stmt := clsDef (topS 40) 4
theorem sc_Reader_take_claim : FnScope ["self", "claim", "_", "claims"] ["self", "claim"] (defScope s_Reader_take_claim) := ⟨rfl, rfl, rfl, by decide +kernel, rfl, by decide +kernel, by decide +kernel⟩
abbrev s_BadText : Stmt := clsDef (topS 10) 0
structure Txt (K : PySem.W.Frag) (mg : Str → Option Value) where
  is_number : DefT K mg "is_number" s_is_number ["value", "low", "high"]
  is_three : DefT K mg "is_three" s_is_three ["value", "low"]
  is_marks : DefT K mg "is_marks" s_is_marks ["value"]
  is_wanted : DefT K mg "is_wanted" s_is_wanted ["value"]
  is_shell : DefT K mg "is_shell" s_is_shell ["value"]
  is_claim : DefT K mg "is_claim" s_is_claim ["value"]
  check_thing : DefT K mg "check_thing" s_check_thing ["thing"]
  check_claims : DefT K mg "check_claims" s_check_claims ["claims"]
  check_room : DefT K mg "check_room" s_check_room ["room"]
  check_numbers : DefT K mg "check_numbers" s_check_numbers ["numbers"]
  check_counted : DefT K mg "check_counted" s_check_counted ["numbers"]
  check_things : DefT K mg "check_things" s_check_things ["things"]
  check_helpers : DefT K mg "check_helpers" s_check_helpers ["helpers"]
  written : DefT K mg "written" s_written ["things", "helpers"]
  thing_rows : DefT K mg "thing_rows" s_thing_rows ["thing", "deep"]
  helper_rows : DefT K mg "helper_rows" s_helper_rows ["claims", "room"]
  read : DefT K mg "read" s_read ["text"]
  closed : DefT K mg "closed" s_closed ["tree"]
  _law_mix : DefT K mg "_law_mix" s__law_mix ["_law_script", "_law_seed"]
  _law_next : DefT K mg "_law_next" s__law_next ["_law_h", "_law_many"]
  _law_alike : DefT K mg "_law_alike" s__law_alike ["_law_found", "_law_due_here"]
  _law_marks : DefT K mg "_law_marks" s__law_marks ["_law_h"]
  _law_thing : DefT K mg "_law_thing" s__law_thing ["_law_h", "_law_deep"]
  _law_claims : DefT K mg "_law_claims" s__law_claims ["_law_h"]
  _law_kind : DefT K mg "_law_kind" s__law_kind ["_law_work"]
  _law_numbers : DefT K mg "_law_numbers" s__law_numbers ["_law_words"]
  _law_due : DefT K mg "_law_due" s__law_due ["_law_text"]
  _law_kept : DefT K mg "_law_kept" s__law_kept ["_law_one"]
  _law_spoilt : DefT K mg "_law_spoilt" s__law_spoilt ["_law_h", "_law_text"]
  law : DefT K mg "law" s_law ["_law_script"]
  lc_law : Addr
  lp_law : Addr
  lk_law : law.fd.code = .ref lc_law
  fileN : Str
  C_MatchError : Addr
  g_MatchError : mg "MatchError" = some (.ref C_MatchError)
  k_MatchError : PySem.W.keepIn K (.ref C_MatchError) = true
  C_BadThing : Addr
  g_BadThing : mg "BadThing" = some (.ref C_BadThing)
  k_BadThing : PySem.W.keepIn K (.ref C_BadThing) = true
  C_BadClaims : Addr
  g_BadClaims : mg "BadClaims" = some (.ref C_BadClaims)
  k_BadClaims : PySem.W.keepIn K (.ref C_BadClaims) = true
  C_BadHeld : Addr
  g_BadHeld : mg "BadHeld" = some (.ref C_BadHeld)
  k_BadHeld : PySem.W.keepIn K (.ref C_BadHeld) = true
  C_BadText : Addr
  g_BadText : mg "BadText" = some (.ref C_BadText)
  k_BadText : PySem.W.keepIn K (.ref C_BadText) = true
  C_BadRoom : Addr
  g_BadRoom : mg "BadRoom" = some (.ref C_BadRoom)
  k_BadRoom : PySem.W.keepIn K (.ref C_BadRoom) = true
  C_BadNumbers : Addr
  g_BadNumbers : mg "BadNumbers" = some (.ref C_BadNumbers)
  k_BadNumbers : PySem.W.keepIn K (.ref C_BadNumbers) = true
  C_NoThing : Addr
  g_NoThing : mg "NoThing" = some (.ref C_NoThing)
  k_NoThing : PySem.W.keepIn K (.ref C_NoThing) = true
  C_NoHelper : Addr
  g_NoHelper : mg "NoHelper" = some (.ref C_NoHelper)
  k_NoHelper : PySem.W.keepIn K (.ref C_NoHelper) = true
  C_TooMany : Addr
  g_TooMany : mg "TooMany" = some (.ref C_TooMany)
  k_TooMany : PySem.W.keepIn K (.ref C_TooMany) = true
  e_BadText : ErrT fileN K mg "BadText" "BadText.__init__" s_BadText "line" C_BadText
  x_BadText : PySem.W.exmOne K (.ref C_BadText) (.ref C_MatchError) = some true
  i_BadText_BadThing : PySem.W.kitOne K (.ref C_BadText) (.ref C_BadThing) = some false
  i_BadText_BadClaims : PySem.W.kitOne K (.ref C_BadText) (.ref C_BadClaims) = some false
  i_BadText_BadHeld : PySem.W.kitOne K (.ref C_BadText) (.ref C_BadHeld) = some false
  i_BadText_BadText : PySem.W.kitOne K (.ref C_BadText) (.ref C_BadText) = some true
  i_BadText_BadRoom : PySem.W.kitOne K (.ref C_BadText) (.ref C_BadRoom) = some false
  i_BadText_BadNumbers : PySem.W.kitOne K (.ref C_BadText) (.ref C_BadNumbers) = some false
  i_BadText_NoThing : PySem.W.kitOne K (.ref C_BadText) (.ref C_NoThing) = some false
  i_BadText_NoHelper : PySem.W.kitOne K (.ref C_BadText) (.ref C_NoHelper) = some false
  i_BadText_TooMany : PySem.W.kitOne K (.ref C_BadText) (.ref C_TooMany) = some false
  i_BadText_ValueError : PySem.W.kitOne K (.ref C_BadText) (.type "ValueError") = some true
  C_Reader : Addr
  k_Reader : ClsT K mg "Reader" C_Reader
  n_Reader_trees : NoAttr K C_Reader "trees"
  n_Reader_path : NoAttr K C_Reader "path"
  n_Reader_staff : NoAttr K C_Reader "staff"
  Reader___init__ : MethT K C_Reader "__init__" "Reader.__init__" s_Reader___init__ ["self"]
  Reader_take_row : MethT K C_Reader "take_row" "Reader.take_row" s_Reader_take_row ["self", "row"]
  Reader_take_thing : MethT K C_Reader "take_thing" "Reader.take_thing" s_Reader_take_thing ["self", "deep", "marks"]
  Reader_take_helper : MethT K C_Reader "take_helper" "Reader.take_helper" s_Reader_take_helper ["self", "room"]
  Reader_take_claim : MethT K C_Reader "take_claim" "Reader.take_claim" s_Reader_take_claim ["self", "claim"]
  t_ANY : Tok
  c_ANY : mg "ANY" = some (.int (-1) t_ANY)
  t_MOST_CLAIMS : Tok
  c_MOST_CLAIMS : mg "MOST_CLAIMS" = some (.int (6) t_MOST_CLAIMS)
  t_MOST_DEEP : Tok
  c_MOST_DEEP : mg "MOST_DEEP" = some (.int (2) t_MOST_DEEP)
  t_MOST_MARK : Tok
  c_MOST_MARK : mg "MOST_MARK" = some (.int (9) t_MOST_MARK)
  t_MOST_NUMBER : Tok
  c_MOST_NUMBER : mg "MOST_NUMBER" = some (.int (999) t_MOST_NUMBER)
  t_MOST_ROOM : Tok
  c_MOST_ROOM : mg "MOST_ROOM" = some (.int (4) t_MOST_ROOM)
  t_MOST_WITHIN : Tok
  c_MOST_WITHIN : mg "MOST_WITHIN" = some (.int (3) t_MOST_WITHIN)
  t_MOST_WORTH : Tok
  c_MOST_WORTH : mg "MOST_WORTH" = some (.int (9) t_MOST_WORTH)
  D_FIGURES : Addr
  d_FIGURES : mg "FIGURES" = some (.ref D_FIGURES)
  z_ValueError : mg "ValueError" = none
  z_all : mg "all" = none
  z_bool : mg "bool" = none
  z_enumerate : mg "enumerate" = none
  z_int : mg "int" = none
  z_isinstance : mg "isinstance" = none
  z_len : mg "len" = none
  z_list : mg "list" = none
  z_max : mg "max" = none
  z_min : mg "min" = none
  z_range : mg "range" = none
  z_reversed : mg "reversed" = none
  z_str : mg "str" = none
  z_super : mg "super" = none
  z_tuple : mg "tuple" = none


end Dm
namespace Dm
open PySem PySem.Spec PyProof.Rows L2 Evl
section
variable {P : Program} {w : World} {K : PySem.W.Frag} {mg : Str → Option Value} {base : Heap}
/-! ### is_number, is_three .. -/
def spIsNumber : Sp := PV fun vs H v => ∃ x d lo hi, vs = [x, .int lo, .int hi] ∧ Tp H x d ∧ v = .bl (isNum lo hi d)
theorem ok_is_number (T : Txt K mg) : FnOk P w K mg base CX0 1 T.is_number.f T.is_number.fd ["value", "low", "high"] spIsNumber := by
  refine T.is_number.F.ok sc_is_number (fun vs H Q E h => ?_) (fun cdv A outer s H vs Q E hr h => ?_)
  · obtain ⟨v, ⟨x, d, lo, hi, rfl, _⟩, _⟩ := h ; rfl
  obtain ⟨v, ⟨x, d, lo, hi, rfl, hd, rfl⟩, q⟩ := h
  refine ⟨_, (pss_one (ps_ret (pe_and (pe_callB (isiK (K := K) rfl) (by rfl) T.z_isinstance (by decide +kernel) (pa_cons (pv 0) (pa_cons (pe_bltn (v := .ty "int") rfl T.z_int (by decide +kernel) rfl) pa_nil))) (pe_and (pe_not (pe_callB (isiK (K := K) rfl) (by rfl) T.z_isinstance (by decide +kernel) (pa_cons (pv 0) (pa_cons (pe_bltn (v := .ty "bool") rfl T.z_bool (by decide +kernel) rfl) pa_nil)))) (pe_one (pe_chain op_le op_le (pv 1) (pv 0) (pv 2))))))), ?_⟩
  refine s_ret ?_ q
  refine ev_is (v := .bl (dInt d && ((!dBool d) && isNum lo hi d))) (ev_andV (ev_isiD (ev_var rfl) hd kit_int) fun h1 => ev_andV (ev_notV (ev_isiD (ev_var rfl) hd kit_bool)) fun h2 => ?_) (by cases d <;> rfl)
  cases hd with
  | int i => exact ev_chainLe (ev_var rfl) (ev_var rfl) (ev_var rfl)
  | bl k => cases h2
  | _ => cases h1
def not3 : PyData → Bool
  | .tuple ds => decide ((ds.length : Int) = 3)
  | _ => true
def spIsThree : Sp := PV fun vs H v => ∃ x d lo, vs = [x, .int lo] ∧ Tp H x d ∧ v = .bl (isThree lo d)
theorem ok_is_three (T : Txt K mg) : FnOk P w K mg base CX0 2 T.is_three.f T.is_three.fd ["value", "low"] spIsThree := by
  refine T.is_three.F.ok sc_is_three (fun vs H Q E h => ?_) (fun cdv A outer s H vs Q E hr h => ?_)
  · obtain ⟨v, ⟨x, d, lo, rfl, _⟩, _⟩ := h ; rfl
  obtain ⟨v, ⟨x, d, lo, rfl, hd, rfl⟩, q⟩ := h
  refine ⟨_, (pss_cons (ps_if (PW.pt (pw_or (pt_not (pt_val (pe_callB (isiK (K := K) rfl) (by rfl) T.z_isinstance (by decide +kernel) (pa_cons (pv 0) (pa_cons (pe_bltn (v := .ty "tuple") rfl T.z_tuple (by decide +kernel) rfl) pa_nil))))) (pw_or1 (pt_cmpR op_ne (pe_callB (lenK (K := K) rfl) (by rfl) T.z_len PySem.boot_len (pa_cons (pv 0) pa_nil)) pe_int (nomark _))))) (pss_one (ps_ret pe_bl)) pss_nil)
  (pss_one (ps_ret (pe_callB (allK (K := K) rfl rfl) (by rfl) T.z_all (by decide +kernel) (pa_cons (pe_lc (own := [("mark", 2)]) rfl sc_is_three.nd (pi_tupK (K := K) rfl (pv 0)) (blkOk_by (own := [("mark", 2)]) (N := ["value", "low", "mark"]) (sc := defScope s_is_three) (by decide +kernel)) (fun _ _ _ _ _ => by exact (pg_name (i := 2) sc_is_three.nd rfl (by first | exact Or.inl rfl | exact Or.inr rfl))) (fun _ _ _ _ _ => pts_nil) (fun _ _ _ _ _ => (pe_call (ok_is_number T) (hr.mono (by decide)) rfl T.is_number.m T.is_number.F.kp T.is_number.b .nil pass0 (pa_cons (pv 2) (pa_cons (pv 1) (pa_cons (pe_glob (v := .int (9)) rfl T.c_MOST_MARK ⟨_, rfl⟩) pa_nil)))))) pa_nil))))), ?_⟩
  have tup : ∀ {ds : List PyData}, d = .tuple ds → ∃ a xs, x = .ref a ∧ TupAt H a xs ∧ Tps H xs ds := fun {ds} e => by rw [e] at hd ; exact hd.tup_inv
  refine q_when (b := !dTup d || !not3 d) (et_or (et_not (et_B (ev_isiD (ev_var rfl) hd kit_tup))) ?_) (fun hb H1 e1 => ?_) (fun hb H1 e1 => ?_)
  · intro hz
    cases hd with
    | tup h t =>
      refine et_test (ev_op (ev_lenT (ev_var rfl) h) ev_c ?_)
      rw [t.length]
      exact rv_neI
    | _ => cases hz
  · refine s_ret ev_c fun H2 e2 => ?_
    have ev : isThree lo d = false := by
      cases d with
      | tuple ds =>
        have h3 : (!decide ((ds.length : Int) = 3)) = true := by
            have z : (!true || !decide ((ds.length : Int) = 3)) = true := hb
            exact z
        show ((ds.length == 3) && _) = false
        have : (ds.length == 3) = false := by
          rw [beq_eq_false_iff_ne]
          intro z ; rw [z] at h3 ; exact absurd h3 (by decide)
        rw [this] ; rfl
      | _ => rfl
    rw [← ev]
    exact q H2 (e1.trans e2)
  · cases d with
    | tuple ds =>
      obtain ⟨a, xs, rfl, ht, hs⟩ := tup rfl
      have h3 : ds.length = 3 := by
        have z : (!true || !decide ((ds.length : Int) = 3)) = false := hb
        have z' : decide ((ds.length : Int) = 3) = true := by simpa using z
        have := of_decide_eq_true z' ; omega
      have hx : xs.length = 3 := by rw [hs.length, h3]
      refine s_ret ?_ fun H2 e2 => q H2 (e1.trans e2)
      have key : given xs.length (fun _ => true) (fun i => .bl (isNum lo 9 (ds.getD i .none))) = (ds.map (isNum lo 9)).map V.bl := by
        rw [hs.length, List.map_map]
        refine given_all ds _ _ fun i b hb => ?_
        rw [List.getD_eq_getElem?_getD, hb] ; rfl
      refine ev_is (ev_all (bs := ds.map (isNum lo 9)) ?_) ?_
      · rw [← key]
        refine el_lcT (a := a) (xs := xs) _ _ (ev_var rfl) (ht.mono (Same.ts e1)) (by omega) (fun x => rfl) (fun i x H2 e2 hi => et_yes) (fun i x H2 e2 hi _ => ?_)
        obtain ⟨d, hd1, hd2⟩ := hs.get hi
        refine ev_pv (ea_cons (ev_var rfl) (ea_cons (ev_var rfl) (ea_cons ev_c ea_nil))) fun H3 e3 => ⟨x, d, lo, 9, rfl, hd2.mono (Same.ts (e1.trans (e2.trans e3))), ?_⟩
        rw [List.getD_eq_getElem?_getD, hd1] ; rfl
      · show V.bl ((ds.map (isNum lo 9)).all id) = V.bl ((ds.length == 3) && ds.all (isNum lo 9))
        rw [h3, List.all_map] ; rfl
    | _ => exact absurd hb Bool.noConfusion
def spIsMarks : Sp := PV fun vs H v => ∃ x d, vs = [x] ∧ Tp H x d ∧ v = .bl (isThree 0 d)
theorem ok_is_marks (T : Txt K mg) : FnOk P w K mg base CX0 3 T.is_marks.f T.is_marks.fd ["value"] spIsMarks := by
  refine T.is_marks.F.ok sc_is_marks (fun vs H Q E h => ?_) (fun cdv A outer s H vs Q E hr h => ?_)
  · obtain ⟨v, ⟨x, d, rfl, _⟩, _⟩ := h ; rfl
  obtain ⟨v, ⟨x, d, rfl, hd, rfl⟩, q⟩ := h
  refine ⟨_, (pss_one (ps_ret (pe_call (ok_is_three T) (hr.mono (by decide)) rfl T.is_three.m T.is_three.F.kp T.is_three.b .nil pass0 (pa_cons (pv 0) (pa_cons pe_int pa_nil))))), ?_⟩
  exact s_ret (ev_pv (ea_cons (ev_var rfl) (ea_cons ev_c ea_nil)) fun H3 e3 => ⟨x, d, 0, rfl, hd.mono (Same.ts e3), rfl⟩) q
def spIsWanted : Sp := PV fun vs H v => ∃ x d, vs = [x] ∧ Tp H x d ∧ v = .bl (isThree (-1) d)
theorem ok_is_wanted (T : Txt K mg) : FnOk P w K mg base CX0 3 T.is_wanted.f T.is_wanted.fd ["value"] spIsWanted := by
  refine T.is_wanted.F.ok sc_is_wanted (fun vs H Q E h => ?_) (fun cdv A outer s H vs Q E hr h => ?_)
  · obtain ⟨v, ⟨x, d, rfl, _⟩, _⟩ := h ; rfl
  obtain ⟨v, ⟨x, d, rfl, hd, rfl⟩, q⟩ := h
  refine ⟨_, (pss_one (ps_ret (pe_call (ok_is_three T) (hr.mono (by decide)) rfl T.is_three.m T.is_three.F.kp T.is_three.b .nil pass0 (pa_cons (pv 0) (pa_cons (pe_glob (v := .int (-1)) rfl T.c_ANY ⟨_, rfl⟩) pa_nil))))), ?_⟩
  exact s_ret (ev_pv (ea_cons (ev_var rfl) (ea_cons ev_c ea_nil)) fun H3 e3 => ⟨x, d, -1, rfl, hd.mono (Same.ts e3), rfl⟩) q


end
end Dm
namespace Dm
open PySem PySem.Spec PyProof.Rows L2 Evl
section
variable {P : Program} {w : World} {K : PySem.W.Frag} {mg : Str → Option Value} {base : Heap}
def not2 : PyData → Bool
  | .tuple ds => decide ((ds.length : Int) = 2)
  | _ => true
def spIsClaim : Sp := PV fun vs H v => ∃ x d, vs = [x] ∧ Tp H x d ∧ v = .bl (isClaimD d)
theorem ok_is_claim (T : Txt K mg) : FnOk P w K mg base CX0 4 T.is_claim.f T.is_claim.fd ["value"] spIsClaim := by
  refine T.is_claim.F.ok sc_is_claim (fun vs H Q E h => ?_) (fun cdv A outer s H vs Q E hr h => ?_)
  · obtain ⟨v, ⟨x, d, rfl, _⟩, _⟩ := h ; rfl
  obtain ⟨v, ⟨x, d, rfl, hd, rfl⟩, q⟩ := h
  refine ⟨_, (pss_cons (ps_if (PW.pt (pw_or (pt_not (pt_val (pe_callB (isiK (K := K) rfl) (by rfl) T.z_isinstance (by decide +kernel) (pa_cons (pv 0) (pa_cons (pe_bltn (v := .ty "tuple") rfl T.z_tuple (by decide +kernel) rfl) pa_nil))))) (pw_or1 (pt_cmpR op_ne (pe_callB (lenK (K := K) rfl) (by rfl) T.z_len PySem.boot_len (pa_cons (pv 0) pa_nil)) pe_int (nomark _))))) (pss_one (ps_ret pe_bl)) pss_nil)
  (pss_cons (ps_asg (pv 0) (pg_tupK (K := K) (n := 2) rfl rfl (pgs_cons (pg_name (i := 1) sc_is_claim.nd rfl (by first | exact Or.inl rfl | exact Or.inr rfl)) (pgs_cons (pg_name (i := 2) sc_is_claim.nd rfl (by first | exact Or.inl rfl | exact Or.inr rfl)) pgs_nil))))
  (pss_one (ps_ret (pe_and (pe_call (ok_is_wanted T) (hr.mono (by decide)) rfl T.is_wanted.m T.is_wanted.F.kp T.is_wanted.b .nil pass0 (pa_cons (pv 1) pa_nil)) (pe_one (pe_call (ok_is_number T) (hr.mono (by decide)) rfl T.is_number.m T.is_number.F.kp T.is_number.b .nil pass0 (pa_cons (pv 2) (pa_cons pe_int (pa_cons (pe_glob (v := .int (9)) rfl T.c_MOST_WORTH ⟨_, rfl⟩) pa_nil)))))))))), ?_⟩
  refine q_when (b := !dTup d || !not2 d) (et_or (et_not (et_B (ev_isiD (ev_var rfl) hd kit_tup))) ?_) (fun hb H1 e1 => ?_) (fun hb H1 e1 => ?_)
  · intro hz
    cases hd with
    | tup h t =>
      refine et_test (ev_op (ev_lenT (ev_var rfl) h) ev_c ?_)
      rw [t.length]
      exact rv_neI
    | _ => cases hz
  · refine s_ret ev_c fun H2 e2 => ?_
    have ev : isClaimD d = false := by
      cases d with
      | tuple ds =>
        have h3 : (!decide ((ds.length : Int) = 2)) = true := by
            have z : (!true || !decide ((ds.length : Int) = 2)) = true := hb
            exact z
        match ds, h3 with
        | [], _ => rfl
        | [_], _ => rfl
        | [_, _], h3 => exact absurd h3 (by simp)
        | _ :: _ :: _ :: _, _ => rfl
      | _ => rfl
    rw [← ev]
    exact q H2 (e1.trans e2)
  · cases d with
    | tuple ds =>
      have z : (!true || !decide ((ds.length : Int) = 2)) = false := hb
      have h2 : ds.length = 2 := by
        have z' : decide ((ds.length : Int) = 2) = true := by simpa using z
        have := of_decide_eq_true z' ; omega
      obtain ⟨dw, dn, rfl⟩ : ∃ dw dn, ds = [dw, dn] := by
        match ds, h2 with
        | [p, q], _ => exact ⟨p, q, rfl⟩
      obtain ⟨a, xs, rfl, ht, hs⟩ := hd.tup_inv
      obtain ⟨p, n, rfl, hp, hn⟩ := hs.two
      refine q_un2 (ev_var rfl) (ht.mono (Same.ts e1)) fun H2 e2 => ?_
      have E2 := e1.trans e2
      refine s_ret (ev_andV (ev_pv (ea_cons (ev_var rfl) ea_nil) fun H3 e3 => ⟨p, dw, rfl, hp.mono (Same.ts (E2.trans e3)), rfl⟩) fun _ => ev_pv (ea_cons (ev_var rfl) (ea_cons ev_c (ea_cons ev_c ea_nil))) fun H3 e3 => ⟨n, dn, 0, 9, rfl, hn.mono (Same.ts (E2.trans e3)), rfl⟩) fun H3 e3 => q H3 (E2.trans e3)
    | _ => exact absurd hb Bool.noConfusion
/-! ### check_claims where nothing is refused -/
def spCheckClaims : Sp := PV fun vs H v => ∃ x ds, vs = [x] ∧ Tp H x (.tuple ds) ∧ ds.length ≤ 6 ∧ (∀ d ∈ ds, isClaimD d = true) ∧ v = .non
theorem ok_check_claims (T : Txt K mg) : FnOk P w K mg base CX0 5 T.check_claims.f T.check_claims.fd ["claims"] spCheckClaims := by
  refine T.check_claims.F.ok sc_check_claims (fun vs H Q E h => ?_) (fun cdv A outer s H vs Q E hr h => ?_)
  · obtain ⟨v, ⟨x, d, rfl, _⟩, _⟩ := h ; rfl
  obtain ⟨v, ⟨x, ds, rfl, hd, h6, hok, rfl⟩, q⟩ := h
  obtain ⟨a, xs, rfl, ht, hs⟩ := hd.tup_inv
  refine ⟨_, (pss_one (ps_for PassesOwn.never rfl (pi_enumT rfl T.z_enumerate (pa_cons (pv 0) pa_nil)) (pg_tupK (K := K) (n := 2) rfl rfl (pgs_cons (pg_name (i := 1) sc_check_claims.nd rfl (by first | exact Or.inl rfl | exact Or.inr rfl)) (pgs_cons (pg_name (i := 2) sc_check_claims.nd rfl (by first | exact Or.inl rfl | exact Or.inr rfl)) pgs_nil)))
  (pss_one (ps_if (PW.pt (pw_or (pt_cmpR op_ge (pv 1) (pe_glob (v := .int (6)) rfl T.c_MOST_CLAIMS ⟨_, rfl⟩) (nomark _)) (pw_or1 (pt_not (pt_val (pe_call (ok_is_claim T) (hr.mono (by decide)) rfl T.is_claim.m T.is_claim.F.kp T.is_claim.b .nil pass0 (pa_cons (pv 2) pa_nil))))))) (pss_one ps_never) pss_nil)))), ?_⟩
  refine ⟨.ref a, rfl, a, xs, rfl, ht.sq, for_enumT (K := K) (xs := xs) (fun i σ H' => (∃ y z, σ = [some (.ref a), y, z]) ∧ Same H H') ⟨⟨none, none, rfl⟩, Same.refl H⟩ (fun i σ H' _ p => (ht.mono (Same.ts p.2)).sq) (fun i x T' σ H' hx p hT => ?_) (fun σ H' p => q H' p.2)⟩
  obtain ⟨⟨y, z, rfl⟩, e⟩ := p
  obtain ⟨d, hd1, hd2⟩ := hs.get hx
  have e' : Same H (upd H' T' (.tup [.int (i : Nat), x])) := e.trans (Same.new hT)
  refine g_un2 (SqT.of upd_same) ?_
  have hi : (i : Int) < 6 := by
    have := (List.getElem?_eq_some_iff.mp hd1).1
    omega
  refine s_when (b := decide ((6 : Int) ≤ i) || !isClaimD d) (et_or (et_test (ev_op (ev_var rfl) ev_c rv_I0)) fun _ => et_not (et_B (ev_pv (ea_cons (ev_var rfl) ea_nil) fun H3 e3 => ⟨x, d, rfl, hd2.mono (Same.ts (e'.trans e3)), rfl⟩))) (fun hb => ?_) (fun _ H1 e1 => ⟨⟨_, _, rfl⟩, e'.trans e1⟩)
  rw [decide_eq_false (by omega), hok d (List.mem_of_getElem? hd1)] at hb
  cases hb


end
end Dm
namespace Dm
open PySem PySem.Spec PyProof.Rows L2 Evl
section
variable {P : Program} {w : World} {K : PySem.W.Frag} {mg : Str → Option Value} {base : Heap}
/-! ### the draws -/
theorem ok__law_next (T : Txt K mg) : FnOk P w K mg base CX0 1 T._law_next.f T._law_next.fd ["_law_h", "_law_many"] spNext := by
  refine T._law_next.F.ok sc__law_next (fun vs H Q E h => ?_) (fun cdv A outer s H vs Q E hr h => ?_)
  · obtain ⟨a, c, k, rfl, _⟩ := h ; rfl
  obtain ⟨h, c, k, rfl, dr, hk, hk2, q⟩ := h
  have hne := dr.ne
  have noT := fun p hp => dr.noT (p := p) hp
  obtain ⟨m, a0, cs, e1, e2, hm0, hm1, ha0, hlen⟩ := dr
  refine ⟨_, (pss_cons (ps_set (i := 2) sc__law_next.nd rfl (by first | exact Or.inl rfl | exact Or.inr rfl) (pe_op op_mod (pe_ix (ixK (K := K) rfl) (pv 0) pe_int (fun _ _ => rfl)) (pe_callB (call_max2 rfl) (by rfl) T.z_max (by decide +kernel) (pa_cons pe_int (pa_cons (pe_callB (lenK (K := K) rfl) (by rfl) T.z_len PySem.boot_len (pa_cons (pe_ix (ixK (K := K) rfl) (pv 0) pe_int (fun _ _ => rfl)) pa_nil)) pa_nil)))))
  (pss_cons (ps_set (i := 3) sc__law_next.nd rfl (by first | exact Or.inl rfl | exact Or.inr rfl) (pe_ifExp (pt_cmpR (neDK (K := K) rfl hr.units) (pe_ix (ixK (K := K) rfl) (pv 0) pe_int (fun _ _ => rfl)) (pe_lst pa_nil) (nomark _)) (pe_ix (ixK (K := K) rfl) (pe_ix (ixK (K := K) rfl) (pv 0) pe_int (fun _ _ => rfl)) (pv 2) (fun _ _ => rfl)) pe_int))
  (pss_cons (ps_if (pt_cmpR op_ge (pv 3) (pe_op op_pow pe_int pe_int) (nomark _)) (pss_cons (ps_asg (pe_op op_fdivN (pv 3) (pv 1)) (pg_sub (pe_ix (ixK (K := K) rfl) (pv 0) pe_int (fun _ _ => rfl)) (pv 2) set_list))
  (pss_one (ps_ret (pe_op op_mod (pv 3) (pv 1))))) pss_nil)
  (pss_cons (ps_asg (pe_op op_mod (pe_op op_add (pe_op op_add (pe_op op_mul (pe_ix (ixK (K := K) rfl) (pv 0) pe_int (fun _ _ => rfl)) pe_int) (pe_op op_mul (pv 3) pe_int)) pe_int) pe_int) (pg_sub (pv 0) pe_int set_list))
  (pss_cons (ps_asg (pe_op op_add (pe_ix (ixK (K := K) rfl) (pv 0) pe_int (fun _ _ => rfl)) pe_int) (pg_sub (pv 0) pe_int set_list))
  (pss_one (ps_ret (pe_op op_mod (pe_op op_fdivN (pe_ix (ixK (K := K) rfl) (pv 0) pe_int (fun _ _ => rfl)) pe_int) (pv 1))))))))), ?_⟩
  have hL : (cs.map V.int).length = cs.length := List.length_map _
  -- the place
  generalize hM : (if (((cs.map V.int).length : Nat) : Int) > 1 then (((cs.map V.int).length : Nat) : Int) else 1) = M
  have hMp : 0 < M := by rw [← hM] ; split <;> omega
  refine q_asg (v := .int (a0 % M)) ?_ fun H1 x1 => ?_
  · refine ev_op (ev_ixL (ev_var rfl) ev_c (SqL.of e1) rfl) ?_ (rv_I hMp)
    rw [← hM]
    exact ev_cb (ea_cons ev_c (ea_cons (ev_len (ev_ixL (ev_var rfl) ev_c (SqL.of e1) rfl) (SqL.of e2)) ea_nil)) fun H1 _ Q q => ⟨1, _, rfl, q H1 (Ex.refl H1)⟩
  have hA0 : 0 ≤ a0 % M := Int.emod_nonneg _ (by omega)
  have hA1 : a0 % M < M := Int.emod_lt_of_pos _ hMp
  generalize a0 % M = A0 at hA0 hA1 ⊢
  -- the cell
  obtain ⟨n, rfl⟩ : ∃ n : Nat, A0 = (n : Int) := ⟨A0.toNat, by omega⟩
  have hn : cs ≠ [] → n < cs.length := fun hc => by
    have : 0 < cs.length := List.length_pos_iff.mpr hc
    rw [hL] at hM
    by_cases h1 : ((cs.length : Nat) : Int) > 1
    · rw [if_pos h1] at hM ; omega
    · rw [if_neg h1] at hM ; omega
  refine q_asg (v := .int (cs.getD n 0)) ?_ fun H2 x2 => ?_
  · refine ev_if (b := !decide (cs = [])) (et_test (ev_opL (ev_ixL (ev_var rfl) ev_c (SqL.of (x1 _ _ e1)) rfl) (el_lst ea_nil (by decide)) fun p H2 hp e => rv_neNil (e _ _ (x1 _ _ e2)) hp)) (fun hb => ?_) (fun hb => ?_)
    · have hc : cs ≠ [] := fun z => by rw [z] at hb ; exact absurd hb (by decide)
      have g : (cs.map V.int)[n]? = some (.int (cs.getD n 0)) := by
        rw [List.getElem?_map, List.getD_eq_getElem?_getD, List.getElem?_eq_getElem (hn hc)] ; rfl
      exact ev_ixL (ev_ixL (ev_var rfl) ev_c (SqL.of (x1 _ _ e1)) rfl) (ev_var rfl) (SqL.of (x1 _ _ e2)) (atI_nat g)
    · have hc : cs = [] := by simpa using hb
      subst hc
      exact ev_c
  have E2 : Same H H2 := x1.trans x2
  generalize hcell : cs.getD n 0 = cell
  -- a great cell is drawn from itself
  refine q_when (b := decide ((10 : Int) ^ (18 : Int).toNat ≤ cell)) (et_test (ev_op (ev_var rfl) (ev_op ev_c ev_c (rv_I ⟨by decide, by decide, by decide⟩)) rv_I0)) (fun hb H3 x3 => ?_) (fun hb H3 x3 => ?_)
  · have hbig : (10 : Int) ^ 18 ≤ cell := of_decide_eq_true hb
    have hc : cs ≠ [] := fun z => by rw [z] at hcell ; have : (0 : Int) = cell := hcell ; omega
    have E3 := E2.trans x3
    refine q_setL (l := c) (xs := cs.map V.int) (j := n) (v := .int (cell.fdiv k)) (E3 _ _ e2) (ev_op (ev_var rfl) (ev_var rfl) (rv_I ⟨by omega, by omega⟩)) (ev_ixL (ev_var rfl) ev_c (SqL.of (E3 _ _ e1)) rfl) (ev_var rfl) (by rw [hL]; exact hn hc) fun H4 x4 => ?_
    have E4 := E3.trans x4
    refine s_ret (v := .int (cell % k)) (ev_op (ev_var rfl) (ev_var rfl) (rv_I hk)) fun H5 x5 => ?_
    have d5 : Dr H5 h c := Dr.mono x5 ⟨m, a0, cs.set n (cell.fdiv k), by rw [upd_ne hne]; exact E4 _ _ e1, by rw [upd_same, List.map_set], hm0, hm1, ha0, by rw [List.length_set]; exact hlen⟩
    exact q H5 _ d5 (((Mv.of E4).upd' (by simp) (noT c (.inr rfl))).trans (Mv.of x5)) (Int.emod_nonneg _ (by omega)) (Int.emod_lt_of_pos _ hk)
  · have E3 := E2.trans x3
    -- mixed on
    refine q_setL (l := h) (j := 0) (v := .int ((m * 48271 + cell * 69621 + 11) % 2147483647)) (E3 _ _ e1) (ev_op (ev_op (ev_op (ev_op (ev_ixL (ev_var rfl) ev_c (SqL.of (E3 _ _ e1)) rfl) ev_c (rv_I (.inl ⟨by omega, by omega⟩))) (ev_op (ev_var rfl) ev_c (rv_I (.inr ⟨by decide, by decide⟩))) rv_I0) ev_c rv_I0) ev_c (rv_I (by decide))) (ev_var rfl) ev_c (by simp) fun H4 x4 => ?_
    have E4 := E3.trans x4
    generalize hm' : (m * 48271 + cell * 69621 + 11) % 2147483647 = m'
    have hm'0 : 0 ≤ m' := by omega
    have hm'1 : m' < 2147483647 := by omega
    have f1 : (upd H4 h (.lst [.int m', .ref c, .int a0])) h = some (.lst [.int m', .ref c, .int a0]) := upd_same
    show tSeq _ _ _ _ (upd H4 h (.lst [.int m', .ref c, .int a0]))
    generalize hG : upd H4 h (.lst [.int m', .ref c, .int a0]) = G at f1
    refine q_setL (l := h) (j := 2) (v := .int (a0 + 1)) f1 (ev_op (ev_ixL (ev_var rfl) ev_c (SqL.of f1) rfl) ev_c rv_I0) (ev_var rfl) ev_c (by simp) fun H5 x5 => ?_
    have f2 : (upd H5 h (.lst [.int m', .ref c, .int (a0 + 1)])) h = some (.lst [.int m', .ref c, .int (a0 + 1)]) := upd_same
    refine s_ret (v := .int ((m'.fdiv 7) % k)) (ev_op (ev_op (ev_ixL (ev_var rfl) ev_c (SqL.of f2) rfl) ev_c (rv_I ⟨by decide, by decide⟩)) (ev_var rfl) (rv_I hk)) fun H6 x6 => ?_
    have f3 : G c = some (.lst (cs.map V.int)) := by rw [← hG, upd_ne hne.symm] ; exact E4 _ _ e2
    have d6 : Dr H6 h c := Dr.mono x6 ⟨m', a0 + 1, cs, upd_same, by rw [upd_ne hne.symm]; exact x5 _ _ f3, hm'0, hm'1, by omega, hlen⟩
    have v1 : Mv [h, c] H G := by rw [← hG] ; exact (Mv.of E4).upd' (by simp) (noT h (.inl rfl))
    exact q H6 _ d6 (((v1.trans (Mv.of x5)).upd' (by simp) (noT h (.inl rfl))).trans (Mv.of x6)) (Int.emod_nonneg _ (by omega)) (Int.emod_lt_of_pos _ hk)
theorem ok__law_mix (T : Txt K mg) : FnOk P w K mg base CX0 1 T._law_mix.f T._law_mix.fd ["_law_script", "_law_seed"] (spMix K) := by
  refine T._law_mix.F.ok sc__law_mix (fun vs H Q E h => ?_) (fun cdv A outer s H vs Q E hr h => ?_)
  · obtain ⟨a, ns, sd, rfl, _⟩ := h ; rfl
  obtain ⟨a, ns, sd, rfl, hS, hl, h0, h1, q⟩ := h
  refine ⟨_, (pss_cons (ps_set (i := 2) sc__law_mix.nd rfl (by first | exact Or.inl rfl | exact Or.inr rfl) (pv 1))
  (pss_cons (ps_for PassesOwn.never rfl (pi_listK (K := K) rfl (pv 0)) (pg_name (i := 3) sc__law_mix.nd rfl (by first | exact Or.inl rfl | exact Or.inr rfl))
  (pss_one (ps_set (i := 2) sc__law_mix.nd rfl (by first | exact Or.inl rfl | exact Or.inr rfl) (pe_op op_mod (pe_op op_add (pe_op op_add (pe_op op_mul (pv 2) pe_int) (pe_op op_mod (pv 3) pe_int)) pe_int) pe_int))))
  (pss_one (ps_ret (pe_lst (pa_cons (pv 2) (pa_cons (pe_callTy (listK (K := K) rfl) (by rfl) T.z_list (by decide +kernel) (pa_cons (pv 0) pa_nil)) (pa_cons pe_int pa_nil)))))))), ?_⟩
  refine q_asg (ev_var rfl) fun H1 x1 => ?_
  refine q_forLn (a := a) (xs := ns.map V.int) (ev_var rfl) (ex_l x1 hS) (fun i σ H' => ∃ (m : Int) (y : Option V), σ = [some (.ref a), some (.int sd), some (.int m), y] ∧ Same H H' ∧ 0 ≤ m ∧ m < 2147483647) (fun H2 x2 => ⟨sd, none, rfl, x1.trans x2, h0, h1⟩)
    (fun i σ H' _ p => by obtain ⟨m, y, _, e, _⟩ := p ; exact ex_l e hS) (fun i x σ H' hx p => ?_) (fun σ H' p => ?_)
  · obtain ⟨m, y, rfl, e, m0, m1⟩ := p
    rw [List.getElem?_map, Option.map_eq_some_iff] at hx
    obtain ⟨n, hn, rfl⟩ := hx
    refine s_asg (v := .int ((m * 48271 + n % 2147483629 + 1) % 2147483647)) (ev_op (ev_op (ev_op (ev_op (ev_var rfl) ev_c (rv_I (.inl ⟨by omega, by omega⟩))) (ev_op (ev_var rfl) ev_c (rv_I (by decide))) rv_I0) ev_c rv_I0) ev_c (rv_I (by decide))) fun H2 x2 => ?_
    exact ⟨_, _, rfl, e.trans x2, by omega, by omega⟩
  · obtain ⟨m, y, rfl, e, m0, m1⟩ := p
    refine ⟨_, rfl, _, rfl, a, ns.map V.int, rfl, .inl (ex_l e hS), fun c hc => ⟨by show 3 ≤ sizeLine; decide, fun h hh => ?_⟩⟩
    have ec : Same H' (upd H' c (.lst (ns.map V.int))) := Same.new hc
    have eh := Same.new (o := .lst [.int m, .ref c, .int 0]) hh
    have hcc : (upd (upd H' c (.lst (ns.map V.int))) h (.lst [.int m, .ref c, .int 0])) c = some (.lst (ns.map V.int)) := eh _ _ upd_same
    exact q _ h c ⟨m, 0, ns, upd_same, hcc, m0, m1, Int.le_refl _, hl⟩ ((e.trans ec).trans eh) ((e.trans ec).free hh) (e.free hc)
theorem alike_step (T : Txt K mg) {n : Nat} (ih : FnOk P w K mg base CX0 n T._law_alike.f T._law_alike.fd ["_law_found", "_law_due_here"] (spAlike K n)) :
    FnOk P w K mg base CX0 (n + 1) T._law_alike.f T._law_alike.fd ["_law_found", "_law_due_here"] (spAlike K (n + 1)) := by
  refine T._law_alike.F.ok sc__law_alike (fun vs H Q E h => ?_) (fun cdv A outer s H vs Q E hr h => ?_)
  · obtain ⟨v, ⟨x, y, d, rfl, _⟩, _⟩ := h ; rfl
  obtain ⟨v, ⟨x, y, d, rfl, hx, hy, hf, rfl⟩, q⟩ := h
  refine ⟨_, (pss_cons (ps_if (pt_val (pe_callB (isiTK (K := K) rfl) (by rfl) T.z_isinstance (by decide +kernel) (pa_cons (pv 1) (pa_cons (pe_tup (pa_cons (pe_bltn (v := .ty "tuple") rfl T.z_tuple (by decide +kernel) rfl) (pa_cons (pe_bltn (v := .ty "list") rfl T.z_list (by decide +kernel) rfl) pa_nil))) pa_nil)))) (pss_cons (ps_if (PW.pt (pw_or (pt_not (pt_val (pe_callB (isiTK (K := K) rfl) (by rfl) T.z_isinstance (by decide +kernel) (pa_cons (pv 0) (pa_cons (pe_tup (pa_cons (pe_bltn (v := .ty "tuple") rfl T.z_tuple (by decide +kernel) rfl) (pa_cons (pe_bltn (v := .ty "list") rfl T.z_list (by decide +kernel) rfl) pa_nil))) pa_nil))))) (pw_or1 (pt_cmpR op_ne (pe_callB (isiK (K := K) rfl) (by rfl) T.z_isinstance (by decide +kernel) (pa_cons (pv 0) (pa_cons (pe_bltn (v := .ty "list") rfl T.z_list (by decide +kernel) rfl) pa_nil))) (pe_callB (isiK (K := K) rfl) (by rfl) T.z_isinstance (by decide +kernel) (pa_cons (pv 1) (pa_cons (pe_bltn (v := .ty "list") rfl T.z_list (by decide +kernel) rfl) pa_nil))) (nomark _))))) (pss_one (ps_ret pe_bl)) pss_nil)
  (pss_cons (ps_if (pt_cmpR op_ne (pe_callB (lenK (K := K) rfl) (by rfl) T.z_len PySem.boot_len (pa_cons (pv 0) pa_nil)) (pe_callB (lenK (K := K) rfl) (by rfl) T.z_len PySem.boot_len (pa_cons (pv 1) pa_nil)) (nomark _)) (pss_one (ps_ret pe_bl)) pss_nil)
  (pss_one (ps_ret (pe_cmpR (eqDK (K := K) rfl hr.units) (pe_lc (own := [("_law_k", 2)]) rfl sc__law_alike.nd (pi_range1 rfl T.z_range (pa_cons (pe_callB (lenK (K := K) rfl) (by rfl) T.z_len PySem.boot_len (pa_cons (pv 1) pa_nil)) pa_nil)) (blkOk_by (own := [("_law_k", 2)]) (N := ["_law_found", "_law_due_here", "_law_k"]) (sc := defScope s__law_alike) (by decide +kernel)) (fun _ _ _ _ _ => by exact (pg_name (i := 2) sc__law_alike.nd rfl (by first | exact Or.inl rfl | exact Or.inr rfl))) (fun _ _ _ _ _ => (pts_one (pt_not (pt_val (pe_call ih hr rfl T._law_alike.m T._law_alike.F.kp T._law_alike.b .nil pass0 (pa_cons (pe_ix (ixK (K := K) rfl) (pv 0) (pv 2) (fun _ _ => rfl)) (pa_cons (pe_ix (ixK (K := K) rfl) (pv 1) (pv 2) (fun _ _ => rfl)) pa_nil))))))) (fun _ _ _ _ _ => (pv 2))) (pe_lst pa_nil) (nomark _)))))) pss_nil)
  (pss_cons (ps_if (pt_cmp (pc_isN (pv 1))) (pss_one (ps_ret (pe_cmp (pc_isN (pv 0))))) pss_nil)
  (pss_cons (ps_if (pt_val (pe_callB (isiK (K := K) rfl) (by rfl) T.z_isinstance (by decide +kernel) (pa_cons (pv 1) (pa_cons (pe_bltn (v := .ty "str") rfl T.z_str (by decide +kernel) rfl) pa_nil)))) (pss_one (ps_ret (pe_and (pe_callB (isiK (K := K) rfl) (by rfl) T.z_isinstance (by decide +kernel) (pa_cons (pv 0) (pa_cons (pe_bltn (v := .ty "str") rfl T.z_str (by decide +kernel) rfl) pa_nil))) (pe_one (pe_cmpR op_eq (pv 0) (pv 1) (nomark _)))))) pss_nil)
  (pss_cons (ps_if (PW.pt (pw_or (pt_val (pe_callB (isiK (K := K) rfl) (by rfl) T.z_isinstance (by decide +kernel) (pa_cons (pv 1) (pa_cons (pe_bltn (v := .ty "bool") rfl T.z_bool (by decide +kernel) rfl) pa_nil)))) (pw_or1 (pt_val (pe_callB (isiK (K := K) rfl) (by rfl) T.z_isinstance (by decide +kernel) (pa_cons (pv 0) (pa_cons (pe_bltn (v := .ty "bool") rfl T.z_bool (by decide +kernel) rfl) pa_nil))))))) (pss_one (ps_ret (pe_and (pe_callB (isiK (K := K) rfl) (by rfl) T.z_isinstance (by decide +kernel) (pa_cons (pv 1) (pa_cons (pe_bltn (v := .ty "bool") rfl T.z_bool (by decide +kernel) rfl) pa_nil))) (pe_and (pe_callB (isiK (K := K) rfl) (by rfl) T.z_isinstance (by decide +kernel) (pa_cons (pv 0) (pa_cons (pe_bltn (v := .ty "bool") rfl T.z_bool (by decide +kernel) rfl) pa_nil))) (pe_one (pe_cmpR op_eq (pv 0) (pv 1) (nomark _))))))) pss_nil)
  (pss_one (ps_ret (pe_and (pe_callB (isiK (K := K) rfl) (by rfl) T.z_isinstance (by decide +kernel) (pa_cons (pv 0) (pa_cons (pe_bltn (v := .ty "int") rfl T.z_int (by decide +kernel) rfl) pa_nil))) (pe_one (pe_cmpR op_eq (pv 0) (pv 1) (nomark _)))))))))), ?_⟩
  refine q_when (et_B (ev_isiSeq (ev_var rfl) hy)) (fun hb H1 x1 => ?_) (fun hb H1 x1 => ?_)
  · -- a list, a tuple
    have hx1 := Dp.mono' x1 hx
    have hy1 := Dp.mono' x1 hy
    obtain ⟨ds, hd, hl, hsub⟩ : ∃ ds, (d = .list ds ∨ d = .tuple ds) ∧ ds.length ≤ 40000 ∧ ∃ k, n = k + 1 ∧ ∀ e ∈ ds, Fine k e := by
      cases hf with
      | list h1 h2 => exact ⟨_, .inl rfl, h1, _, rfl, h2⟩
      | tuple h1 h2 => exact ⟨_, .inr rfl, h1, _, rfl, h2⟩
      | _ => exact absurd hb Bool.noConfusion
    obtain ⟨k, rfl, hsub⟩ := hsub
    have sx : ∀ {H'}, Same H H' → Dp K H' x (.list ds) ∨ Dp K H' x (.tuple ds) := fun e => by
      rcases hd with rfl | rfl
      · exact .inl (Dp.mono' e hx)
      · exact .inr (Dp.mono' e hx)
    have sy : ∀ {H'}, Same H H' → Dp K H' y (.list ds) ∨ Dp K H' y (.tuple ds) := fun e => by
      rcases hd with rfl | rfl
      · exact .inl (Dp.mono' e hy)
      · exact .inr (Dp.mono' e hy)
    refine q_when (b := !dSeq d || !decide (dLst d = dLst d)) (et_or (et_not (et_B (ev_isiSeq (ev_var rfl) hx1))) fun _ => et_test (ev_op (ev_isiD' (ev_var rfl) hx1 kit_lst) (ev_isiD' (ev_var rfl) hy1 kit_lst) fun H2 _ Q k => g_neB (k H2 (Ex.refl H2)))) (fun hc => ?_) (fun _ H2 x2 => ?_)
    · rw [hb, decide_eq_true rfl] at hc
      cases hc
    have E2 : Same H H2 := x1.trans x2
    refine q_when (b := !decide ((ds.length : Int) = (ds.length : Int))) (et_test (ev_op (ev_lenD (ev_var rfl) (sx E2)) (ev_lenD (ev_var rfl) (sy E2)) rv_neI)) (fun hc => ?_) (fun _ H3 x3 => ?_)
    · rw [decide_eq_true rfl] at hc
      cases hc
    have E3 : Same H H3 := E2.trans x3
    refine s_ret ?_ fun H4 x4 => q H4 (E3.trans x4)
    have e0 : given (ds.length : Int).toNat (fun _ => false) (fun i => .int (i : Nat)) = [] := by
      unfold given
      rw [List.filter_eq_nil_iff.mpr (fun _ _ => Bool.false_ne_true)] ; rfl
    refine ev_opLL (xs := []) (ys := []) ?_ (el_lst ea_nil (by decide)) fun p r H4 hp hr _ => rv_eqNil hp hr
    refine el_is ?_ e0
    refine el_lcR1 (fun _ => false) (fun i => .int (i : Nat)) (ea_cons (ev_lenD (ev_var rfl) (sy E3)) ea_nil) ⟨by omega, by omega⟩ (fun _ => rfl) (fun i H4 x4 hi => ?_) fun i H4 x4 hi hz => nomatch hz
    have E4 : Same H H4 := E3.trans x4
    have hi' : i < ds.length := by omega
    obtain ⟨v1, hv1, ev1⟩ := ev_ixD (K := K) (ta := tVar 0) (tb := tVar 2) (σ := (wipe [some x, some y, none] [2]).set 2 (some (.int (i : Int)))) (n := i) (ev_var rfl) (ev_var rfl) (sx E4) (List.getElem?_eq_getElem hi')
    obtain ⟨v2, hv2, ev2⟩ := ev_ixD (K := K) (ta := tVar 1) (tb := tVar 2) (σ := (wipe [some x, some y, none] [2]).set 2 (some (.int (i : Int)))) (n := i) (ev_var rfl) (ev_var rfl) (sy E4) (List.getElem?_eq_getElem hi')
    have go : EvT (tNot (tB (tCall (spAlike K (k + 1)) [] E0 (tCons (tOp (rIx K) (tVar 0) (tVar 2)) (tCons (tOp (rIx K) (tVar 1) (tVar 2)) tNil))))) ((wipe [some x, some y, none] [2]).set 2 (some (.int (i : Int)))) H4 (!true) :=
      et_not (et_B (ev_pv (ea_cons ev1 (ea_cons ev2 ea_nil)) fun H5 x5 => ⟨v1, v2, _, rfl, Dp.mono' x5 hv1, Dp.mono' x5 hv2, hsub _ (List.getElem_mem hi'), rfl⟩))
    exact go
  · -- none, a text, a bool, an int
    have hx1 := Dp.mono' x1 hx
    have hy1 := Dp.mono' x1 hy
    cases d with
    | none =>
      cases hx ; cases hy
      refine q_when (b := true) (et_B (ev_is (ev_isN (ev_var rfl)) (by rw [decide_eq_true rfl]))) (fun _ H2 x2 => ?_) (fun z => nomatch z)
      exact s_ret (ev_is (ev_isN (ev_var rfl)) (by rw [decide_eq_true rfl])) fun H3 x3 => q H3 ((x1.trans x2).trans x3)
    | str t =>
      cases hx ; cases hy
      refine q_when (b := false) (et_B (ev_is (ev_isN (ev_var rfl)) (by rw [decide_eq_false (by intro z; cases z)]))) (fun z => nomatch z) (fun _ H2 x2 => ?_)
      refine q_when (et_B (ev_isiD' (K := K) (ev_var rfl) (.str t) kit_str)) (fun _ H3 x3 => ?_) (fun z => nomatch z)
      refine s_ret (ev_is (ev_andV (ev_isiD' (K := K) (ev_var rfl) (.str t) kit_str) fun _ => ev_op (ev_var rfl) (ev_var rfl) (rv_eq rfl)) ?_) fun H4 x4 => q H4 (((x1.trans x2).trans x3).trans x4)
      rw [decide_eq_true rfl] ; rfl
    | bool t =>
      cases hx ; cases hy
      refine q_when (b := false) (et_B (ev_is (ev_isN (ev_var rfl)) (by rw [decide_eq_false (by intro z; cases z)]))) (fun z => nomatch z) (fun _ H2 x2 => ?_)
      refine q_when (et_B (ev_isiD' (K := K) (ev_var rfl) (.bl t) kit_str)) (fun z => nomatch z) (fun _ H3 x3 => ?_)
      refine q_when (b := true) (et_or (b := true) (et_B (ev_isiD' (K := K) (ev_var rfl) (.bl t) kit_bool)) fun z => nomatch z) (fun _ H4 x4 => ?_) (fun z => nomatch z)
      refine s_ret (ev_is (ev_andV (ev_isiD' (K := K) (ev_var rfl) (.bl t) kit_bool) fun _ => ev_andV (ev_isiD' (K := K) (ev_var rfl) (.bl t) kit_bool) fun _ => ev_op (ev_var rfl) (ev_var rfl) (rv_eq rfl)) ?_) fun H5 x5 => q H5 ((((x1.trans x2).trans x3).trans x4).trans x5)
      rw [decide_eq_true rfl] ; rfl
    | int t =>
      cases hx ; cases hy
      refine q_when (b := false) (et_B (ev_is (ev_isN (ev_var rfl)) (by rw [decide_eq_false (by intro z; cases z)]))) (fun z => nomatch z) (fun _ H2 x2 => ?_)
      refine q_when (et_B (ev_isiD' (K := K) (ev_var rfl) (.int t) kit_str)) (fun z => nomatch z) (fun _ H3 x3 => ?_)
      refine q_when (b := false) (et_or (et_B (ev_isiD' (K := K) (ev_var rfl) (.int t) kit_bool)) fun _ => et_B (ev_isiD' (K := K) (ev_var rfl) (.int t) kit_bool)) (fun z => nomatch z) (fun _ H4 x4 => ?_)
      refine s_ret (ev_is (ev_andV (ev_isiD' (K := K) (ev_var rfl) (.int t) kit_int) fun _ => ev_op (ev_var rfl) (ev_var rfl) (rv_eq rfl)) ?_) fun H5 x5 => q H5 ((((x1.trans x2).trans x3).trans x4).trans x5)
      rw [decide_eq_true rfl] ; rfl
    | _ => exact absurd hb Bool.noConfusion
theorem ok__law_alike (T : Txt K mg) : ∀ n, FnOk P w K mg base CX0 n T._law_alike.f T._law_alike.fd ["_law_found", "_law_due_here"] (spAlike K n)
  | 0 => ⟨fun vs H Q E h => h.elim, fun A outer s H args us vs Q E _ _ _ _ h => h.elim⟩
  | n + 1 => alike_step T (ok__law_alike T n)
theorem ok__law_marks (T : Txt K mg) : FnOk P w K mg base CX0 2 T._law_marks.f T._law_marks.fd ["_law_h"] spMarks := by
  refine T._law_marks.F.ok sc__law_marks (fun vs H Q E h => ?_) (fun cdv A outer s H vs Q E hr h => ?_)
  · obtain ⟨h, c, rfl, _⟩ := h ; rfl
  obtain ⟨h, c, rfl, dr, q⟩ := h
  refine ⟨_, (pss_one (ps_ret (pe_callTy (tupleK (K := K) rfl) (by rfl) T.z_tuple (by decide +kernel) (pa_cons (pe_lc (own := [("_law_k", 1)]) rfl sc__law_marks.nd (pi_range1 rfl T.z_range (pa_cons pe_int pa_nil)) (blkOk_by (own := [("_law_k", 1)]) (N := ["_law_h", "_law_k"]) (sc := defScope s__law_marks) (by decide +kernel)) (fun _ _ _ _ _ => by exact (pg_name (i := 1) sc__law_marks.nd rfl (by first | exact Or.inl rfl | exact Or.inr rfl))) (fun _ _ _ _ _ => pts_nil) (fun _ _ _ _ _ => (pe_call (ok__law_next T) (hr.mono (by decide)) rfl T._law_next.m T._law_next.F.kp T._law_next.b .nil pass0 (pa_cons (pv 0) (pa_cons (pe_ix (ixK (K := K) rfl) (pe_lst (pa_cons pe_int (pa_cons pe_int (pa_cons pe_int pa_nil)))) (pe_call (ok__law_next T) (hr.mono (by decide)) rfl T._law_next.m T._law_next.F.kp T._law_next.b .nil pass0 (pa_cons (pv 0) (pa_cons pe_int pa_nil))) (fun _ _ => rfl)) pa_nil))))) pa_nil)))), ?_⟩
  refine ⟨3, rfl, by decide, by decide, fun L hL => ?_⟩
  have nL := dr.new hL
  refine lc_range (lo := 0) (n := 3) (fun i H' => Dr H' h c ∧ Mv [h, c] H H' ∧ ∃ ms : List Int, H' L = some (.lst (ms.map V.int)) ∧ ms.length = i ∧ ∀ x ∈ ms, 0 ≤ x ∧ x ≤ 9) ⟨dr.upd nL, Mv.of (Same.new hL), [], upd_same, rfl, by simp⟩ (fun i H' hi p => ?_) (fun H' p => ?_)
  · obtain ⟨d1, m1, ms, e1, e2, e3⟩ := p
    refine ⟨rfl, ⟨.ref h, rfl, ?_⟩⟩
    refine rd_menu (xs := [2, 3, 10]) (h := h) (c := c) (ea_cons ev_c (ea_cons ev_c (ea_cons ev_c ea_nil))) rfl d1 rfl (by decide) (by decide) fun H2 v d2 m2 hv => ?_
    refine g_nil ?_
    have hv' : v = 2 ∨ v = 3 ∨ v = 10 := by simpa using hv
    refine nx d2 (by omega) (by omega) fun H3 r d3 m3 r0 r1 => ?_
    have m13 := (m1.trans m2).trans m3
    refine ⟨ms.map V.int, (m2.trans m3).at nL e1, by rw [List.length_map] ; exact sz_lt (by omega), d3.upd nL, m13.upd hL, ms ++ [r], by rw [upd_same, List.map_append] ; rfl, by rw [List.length_append, e2] ; rfl, fun x hx => ?_⟩
    rcases List.mem_append.mp hx with hx | hx
    · exact e3 x hx
    · rw [List.mem_singleton.mp hx] ; omega
  · obtain ⟨d1, m1, ms, e1, e2, e3⟩ := p
    refine ⟨L, ms.map V.int, rfl, .inl ⟨SqL.of e1, fun p o hp ho => ?_⟩⟩
    have mv : Mv [h, c] H (upd H' p (.frz o (.tup (ms.map V.int)))) := m1.trans (Mv.of (Same.new hp))
    exact q _ _ ms (d1.upd (d1.new hp)) mv (.tup (TupAt.new ho) (Tps.of_ints ms)) ⟨e2, e3⟩


end
end Dm
namespace Dm
open PySem PySem.Spec PyProof.Rows L2 Evl
section
variable {P : Program} {w : World} {K : PySem.W.Frag} {mg : Str → Option Value} {base : Heap}
theorem ok__law_claims (T : Txt K mg) : FnOk P w K mg base CX0 3 T._law_claims.f T._law_claims.fd ["_law_h"] spClaims := by
  refine T._law_claims.F.ok sc__law_claims (fun vs H Q E h => ?_) (fun cdv A outer s H vs Q E hr h => ?_)
  · obtain ⟨h, c, rfl, _⟩ := h ; rfl
  obtain ⟨h, c, rfl, dr, q⟩ := h
  refine ⟨_, (pss_cons (ps_set (i := 1) sc__law_claims.nd rfl (by first | exact Or.inl rfl | exact Or.inr rfl) (pe_lst pa_nil))
  (pss_cons (ps_for PassesOwn.never rfl (pi_range1 rfl T.z_range (pa_cons (pe_call (ok__law_next T) (hr.mono (by decide)) rfl T._law_next.m T._law_next.F.kp T._law_next.b .nil pass0 (pa_cons (pv 0) (pa_cons (pe_ix (ixK (K := K) rfl) (pe_lst (pa_cons pe_int (pa_cons pe_int pa_nil))) (pe_call (ok__law_next T) (hr.mono (by decide)) rfl T._law_next.m T._law_next.F.kp T._law_next.b .nil pass0 (pa_cons (pv 0) (pa_cons pe_int pa_nil))) (fun _ _ => rfl)) pa_nil))) pa_nil)) (pg_name (i := 2) sc__law_claims.nd rfl (by first | exact Or.inl rfl | exact Or.inr rfl))
  (pss_cons (ps_set (i := 3) sc__law_claims.nd rfl (by first | exact Or.inl rfl | exact Or.inr rfl) (pe_call (ok__law_marks T) (hr.mono (by decide)) rfl T._law_marks.m T._law_marks.F.kp T._law_marks.b .nil pass0 (pa_cons (pv 0) pa_nil)))
  (pss_cons (ps_set (i := 4) sc__law_claims.nd rfl (by first | exact Or.inl rfl | exact Or.inr rfl) (pe_callTy (tupleK (K := K) rfl) (by rfl) T.z_tuple (by decide +kernel) (pa_cons (pe_lc (own := [("_law_mark", 5)]) rfl sc__law_claims.nd (pi_tupK (K := K) rfl (pv 3)) (blkOk_by (own := [("_law_mark", 5)]) (N := ["_law_h", "_law_found", "_law_k", "_law_marks_here", "_law_wanted", "_law_mark"]) (sc := defScope s__law_claims) (by decide +kernel)) (fun _ _ _ _ _ => by exact (pg_name (i := 5) sc__law_claims.nd rfl (by first | exact Or.inl rfl | exact Or.inr rfl))) (fun _ _ _ _ _ => pts_nil) (fun _ _ _ _ _ => (pe_ifExp (pt_cmpR op_eq (pe_call (ok__law_next T) (hr.mono (by decide)) rfl T._law_next.m T._law_next.F.kp T._law_next.b .nil pass0 (pa_cons (pv 0) (pa_cons pe_int pa_nil))) pe_int (nomark _)) (pv 5) (pe_un un_neg pe_int)))) pa_nil)))
  (pss_one (ps_expr (pe_bm PySem.F.plainAttrs_list PySem.F.slot_list_append PySem.F.type_list_append mt_append (pv 1) (pa_cons (pe_tupF (pa_cons (pv 4) (pa_cons (pe_call (ok__law_next T) (hr.mono (by decide)) rfl T._law_next.m T._law_next.F.kp T._law_next.b .nil pass0 (pa_cons (pv 0) (pa_cons (pe_ix (ixK (K := K) rfl) (pe_lst (pa_cons pe_int (pa_cons pe_int pa_nil))) (pe_call (ok__law_next T) (hr.mono (by decide)) rfl T._law_next.m T._law_next.F.kp T._law_next.b .nil pass0 (pa_cons (pv 0) (pa_cons pe_int pa_nil))) (fun _ _ => rfl)) pa_nil))) pa_nil))) pa_nil)))))))
  (pss_one (ps_ret (pe_callTy (tupleK (K := K) rfl) (by rfl) T.z_tuple (by decide +kernel) (pa_cons (pv 1) pa_nil)))))), ?_⟩
  refine q_asgL (el_lst ea_nil (by decide)) fun L H1 hL x1 h1 => ?_
  have nL : L ∉ [h, c] := dr.new hL
  have dr1 := dr.mono x1
  -- how many
  refine ⟨.ref h, rfl, ?_⟩
  refine rd_menu (xs := [3, 7]) (h := h) (c := c) (ea_cons ev_c (ea_cons ev_c ea_nil)) rfl dr1 rfl (by decide) (by decide) fun H2 v d2 m2 hv => ?_
  refine g_nil ?_
  have hv' : v = 3 ∨ v = 7 := by simpa using hv
  refine nx d2 (by omega) (by omega) fun H3 n d3 m3 n0 n1 => ?_
  refine g_nil ⟨n, rfl, by omega, by omega, ?_⟩
  have m13 : Mv [h, c] H H3 := ((Mv.of x1).trans m2).trans m3
  have hL3 : H3 L = some (.lst []) := (m2.trans m3).at nL h1
  refine for_range (lo := 0) (n := n.toNat) (fun i σ H' => ∃ (vs : List V) (cs : List (List Int × Int)) (y2 y3 y4 y5 : Option V), σ = [some (.ref h), some (.ref L), y2, y3, y4, y5] ∧ Dr H' h c ∧ Mv [h, c] H H' ∧ H' L = some (.lst vs) ∧ Tps H' vs (cs.map clD) ∧ cs.length = i ∧ ∀ c ∈ cs, okClaim c)
    ⟨[], [], _, _, _, _, rfl, d3, m13, hL3, .nil, rfl, by simp⟩ (fun i σ H' hi p => ?_) (fun σ H' p => ?_)
  · obtain ⟨vs, cs, y2, y3, y4, y5, rfl, d4, m4, e4, t4, l4, ok4⟩ := p
    -- marks
    refine ⟨.ref h, rfl, h, c, rfl, d4, fun H5 mk m d5 m5 t5 ok5 => ?_⟩
    have e5 : H5 L = some (.lst vs) := m5.at nL e4
    obtain ⟨am, xm, rfl, hm, hms⟩ := t5.tup_inv
    have z := hms.ints ; subst z
    -- wanted
    refine ⟨.ref am, rfl, am, rfl, ⟨_, hm.sq⟩, fun W hW => ?_⟩
    have nW : W ∉ [h, c] := d5.new hW
    have nWL : L ≠ W := ne_of_none e5 hW
    refine lc_tup (xs := m.map V.int) (fun j H' => Dr H' h c ∧ Mv [h, c] H5 H' ∧ ∃ ws : List Int, H' W = some (.lst (ws.map V.int)) ∧ ws.length = j ∧ ∀ x ∈ ws, -1 ≤ x ∧ x ≤ 9) ⟨d5.upd nW, Mv.of (Same.new hW), [], upd_same, rfl, by simp⟩ (fun j H' _ p => (hm.mono p.2.1.ts).sq) (fun j x H' hx p => ?_) (fun H6 p => ?_)
    · obtain ⟨d6, m6, ws, e6, l6, ok6⟩ := p
      rw [List.getElem?_map, Option.map_eq_some_iff] at hx
      obtain ⟨k, hk, rfl⟩ := hx
      have hk' := ok5.2 k (List.mem_of_getElem? hk)
      have hj : j < 3 := by have := (List.getElem?_eq_some_iff.mp hk).1 ; have := ok5.1 ; omega
      refine ⟨rfl, ⟨.ref h, rfl, ?_⟩⟩
      refine g_cons ?_
      refine g_c ?_
      refine g_nil ?_
      refine nx d6 (by decide) (by decide) fun H7 r d7 m7 r0 r1 => ?_
      refine g_c ?_
      refine g_eqI ?_
      refine ⟨_, rfl, ?_⟩
      have e7 := m7.at nW e6
      have go : ∀ y : Int, -1 ≤ y ∧ y ≤ 9 → ∃ acc, H7 W = some (.lst acc) ∧ acc.length < sizeLine ∧ (fun j H' => Dr H' h c ∧ Mv [h, c] H5 H' ∧ ∃ ws : List Int, H' W = some (.lst (ws.map V.int)) ∧ ws.length = j ∧ ∀ x ∈ ws, -1 ≤ x ∧ x ≤ 9) (j + 1) (upd H7 W (.lst (acc ++ [.int y]))) := fun y hy =>
        ⟨ws.map V.int, e7, by rw [List.length_map] ; exact sz_lt (by omega), d7.upd nW, (m6.trans m7).upd hW, ws ++ [y], by rw [upd_same, List.map_append] ; rfl, by rw [List.length_append, l6] ; rfl, fun x hx => by
          rcases List.mem_append.mp hx with hx | hx
          · exact ok6 x hx
          · rw [List.mem_singleton.mp hx] ; exact hy⟩
      refine ite2 (fun _ => ?_) (fun _ => ?_)
      · exact ⟨_, rfl, go k (by omega)⟩
      · exact ⟨1, rfl, go (-1) (by omega)⟩
    · obtain ⟨d6, m6, ws, e6, l6, ok6⟩ := p
      rw [List.length_map] at l6
      refine ⟨W, ws.map V.int, rfl, .inl ⟨SqL.of e6, fun w o hw ho => ?_⟩⟩
      have e6L : H6 L = some (.lst vs) := m6.at nL e5
      have d8 := d6.upd (o := .frz o (.tup (ws.map V.int))) (d6.new hw)
      have m8 : Mv [h, c] H' (upd H6 w (.frz o (.tup (ws.map V.int)))) := (m5.trans m6).trans (Mv.of (Same.new hw))
      have t8 : TupAt (upd H6 w (.frz o (.tup (ws.map V.int)))) w (ws.map V.int) := TupAt.new ho
      have e8 : (upd H6 w (.frz o (.tup (ws.map V.int)))) L = some (.lst vs) := (Same.new hw) _ _ e6L
      generalize (upd H6 w (.frz o (.tup (ws.map V.int)))) = H8 at d8 m8 t8 e8 ⊢
      -- found.append((wanted, ..))
      refine ⟨.ref L, rfl, .inl ⟨rfl, _, SqL.of e8⟩, ⟨.ref w, rfl, ⟨.ref h, rfl, ?_⟩⟩⟩
      refine rd_menu (xs := [2, 10]) (h := h) (c := c) (ea_cons ev_c (ea_cons ev_c ea_nil)) rfl d8 rfl (by decide) (by decide) fun H9 v d9 m9 hv => ?_
      refine g_nil ?_
      have hv' : v = 2 ∨ v = 10 := by simpa using hv
      refine nx d9 (by omega) (by omega) fun HA r dA mA r0 r1 => ?_
      refine g_nil ⟨by show 2 ≤ sizeLine; decide, fun b ob hb hob => ?_⟩
      have mAb : Mv [h, c] H8 (upd HA b (.frz ob (.tup [.ref w, .int r]))) := (m9.trans mA).trans (Mv.of (Same.new hb))
      have tb : TupAt (upd HA b (.frz ob (.tup [.ref w, .int r]))) b [.ref w, .int r] := TupAt.new hob
      have dB := dA.upd (o := .frz ob (.tup [.ref w, .int r])) (dA.new hb)
      have eB := mAb.at nL e8
      have tw := t8.mono mAb.ts
      generalize (upd HA b (.frz ob (.tup [.ref w, .int r]))) = HB at mAb tb dB eB tw ⊢
      have mB : Mv [h, c] H' HB := m8.trans mAb
      refine ⟨L, vs, .ref b, rfl, rfl, eB, sz_lt (by have := t4.length ; rw [List.length_map, l4] at this ; omega), ?_⟩
      have noTL : ∀ u xs, HB L ≠ some (.frz u (.tup xs)) := fun u xs z => by rw [eB] at z ; cases z
      have mC : Mv [L] HB (upd HB L (.lst (vs ++ [.ref b]))) := (Mv.refl [L] HB).upd' (by simp) noTL
      have tc : Tp HB (.ref b) (clD (ws, r)) := .tup tb (.cons (.tup tw (Tps.of_ints ws)) (.cons (.int r) .nil))
      refine ⟨vs ++ [.ref b], cs ++ [(ws, r)], _, _, _, _, rfl, dB.upd nL, (m4.trans mB).upd hL, upd_same, ?_, by rw [List.length_append, l4] ; rfl, fun d hd => ?_⟩
      · rw [List.map_append]
        exact (t4.mono (mB.ts.trans mC.ts)).append (.cons (tc.mono mC.ts) .nil)
      · rcases List.mem_append.mp hd with hd | hd
        · exact ok4 d hd
        · rw [List.mem_singleton.mp hd]
          exact ⟨by show ws.length = 3 ; rw [l6, ok5.1], ok6, r0, by show r ≤ 9 ; omega⟩
  · obtain ⟨vs, cs, y2, y3, y4, y5, rfl, d4, m4, e4, t4, l4, ok4⟩ := p
    refine ⟨.ref L, rfl, L, vs, rfl, .inl ⟨SqL.of e4, fun p o hp ho => ?_⟩⟩
    have mp : Mv [h, c] H' (upd H' p (.frz o (.tup vs))) := Mv.of (Same.new hp)
    exact q _ _ cs (d4.upd (d4.new hp)) (m4.trans mp) (.tup (TupAt.new ho) (t4.mono mp.ts)) ⟨by rw [l4] ; omega, ok4⟩


end
end Dm
namespace Dm
open PySem PySem.Spec PyProof.Rows L2 Evl
section
variable {P : Program} {w : World} {K : PySem.W.Frag} {mg : Str → Option Value} {base : Heap}
/-! ### the checks, where nothing is refused -/
def spIsShell : Sp := PV fun vs H v => ∃ x m is, vs = [x] ∧ Tp H x (.tuple [mkD m, .tuple is]) ∧ okMarks m ∧ is.length ≤ 3 ∧ v = .bl true
theorem ok_is_shell (T : Txt K mg) : FnOk P w K mg base CX0 4 T.is_shell.f T.is_shell.fd ["value"] spIsShell := by
  refine T.is_shell.F.ok sc_is_shell (fun vs H Q E h => ?_) (fun cdv A outer s H vs Q E hr h => ?_)
  · obtain ⟨v, ⟨x, m, is, rfl, _⟩, _⟩ := h ; rfl
  obtain ⟨v, ⟨x, m, is, rfl, hd, okm, h3, rfl⟩, q⟩ := h
  refine ⟨_, (pss_cons (ps_if (PW.pt (pw_or (pt_not (pt_val (pe_callB (isiK (K := K) rfl) (by rfl) T.z_isinstance (by decide +kernel) (pa_cons (pv 0) (pa_cons (pe_bltn (v := .ty "tuple") rfl T.z_tuple (by decide +kernel) rfl) pa_nil))))) (pw_or1 (pt_cmpR op_ne (pe_callB (lenK (K := K) rfl) (by rfl) T.z_len PySem.boot_len (pa_cons (pv 0) pa_nil)) pe_int (nomark _))))) (pss_one (ps_ret pe_bl)) pss_nil)
  (pss_cons (ps_asg (pv 0) (pg_tupK (K := K) (n := 2) rfl rfl (pgs_cons (pg_name (i := 1) sc_is_shell.nd rfl (by first | exact Or.inl rfl | exact Or.inr rfl)) (pgs_cons (pg_name (i := 2) sc_is_shell.nd rfl (by first | exact Or.inl rfl | exact Or.inr rfl)) pgs_nil))))
  (pss_one (ps_ret (pe_and (pe_call (ok_is_marks T) (hr.mono (by decide)) rfl T.is_marks.m T.is_marks.F.kp T.is_marks.b .nil pass0 (pa_cons (pv 1) pa_nil)) (pe_and (pe_callB (isiK (K := K) rfl) (by rfl) T.z_isinstance (by decide +kernel) (pa_cons (pv 2) (pa_cons (pe_bltn (v := .ty "tuple") rfl T.z_tuple (by decide +kernel) rfl) pa_nil))) (pe_one (pe_cmpR op_le (pe_callB (lenK (K := K) rfl) (by rfl) T.z_len PySem.boot_len (pa_cons (pv 2) pa_nil)) (pe_glob (v := .int (3)) rfl T.c_MOST_WITHIN ⟨_, rfl⟩) (nomark _))))))))), ?_⟩
  obtain ⟨a, xs, rfl, ht, hs⟩ := hd.tup_inv
  refine q_when (b := !true || !true) (et_or (et_not (et_B (ev_isiD (ev_var rfl) hd kit_tup))) fun _ => ?_) (fun hb => nomatch hb) (fun hb H1 e1 => ?_)
  · refine et_test (ev_op (ev_lenT (ev_var rfl) ht) ev_c ?_)
    rw [hs.length]
    exact rv_neI
  · obtain ⟨p, n, rfl, hp, hn⟩ := hs.two
    refine q_un2 (ev_var rfl) (ht.mono (Same.ts e1)) fun H2 e2 => ?_
    have E2 := e1.trans e2
    obtain ⟨b, ys, rfl, hb, hys⟩ := hn.tup_inv
    refine s_ret (ev_is (ev_andV (ev_pv (ea_cons (ev_var rfl) ea_nil) fun H3 e3 => ⟨p, mkD m, rfl, hp.mono (Same.ts (E2.trans e3)), rfl⟩) fun _ => ev_andV (ev_isiD (ev_var rfl) (hn.mono (Same.ts E2)) kit_tup) fun _ => ev_op (ev_lenT (ev_var rfl) (hb.mono (Same.ts E2))) ev_c rv_I0) ?_) fun H3 e3 => q H3 (E2.trans e3)
    rw [okm.three, hys.length]
    show V.bl (true && (true && decide ((is.length : Int) ≤ 3))) = .bl true
    rw [decide_eq_true (by omega)] ; rfl
def spCheckRoom : Sp := PV fun vs H v => ∃ r : Int, vs = [.int r] ∧ 0 ≤ r ∧ r ≤ 4 ∧ v = .non
theorem ok_check_room (T : Txt K mg) : FnOk P w K mg base CX0 2 T.check_room.f T.check_room.fd ["room"] spCheckRoom := by
  refine T.check_room.F.ok sc_check_room (fun vs H Q E h => ?_) (fun cdv A outer s H vs Q E hr h => ?_)
  · obtain ⟨v, ⟨r, rfl, _⟩, _⟩ := h ; rfl
  obtain ⟨v, ⟨r, rfl, h0, h4, rfl⟩, q⟩ := h
  refine ⟨_, (pss_one (ps_if (pt_not (pt_val (pe_call (ok_is_number T) (hr.mono (by decide)) rfl T.is_number.m T.is_number.F.kp T.is_number.b .nil pass0 (pa_cons (pv 0) (pa_cons pe_int (pa_cons (pe_glob (v := .int (4)) rfl T.c_MOST_ROOM ⟨_, rfl⟩) pa_nil)))))) (pss_one ps_never) pss_nil)), ?_⟩
  refine s_when (b := !isNum 0 4 (.int r)) (et_not (et_B (ev_pv (ea_cons (ev_var rfl) (ea_cons ev_c (ea_cons ev_c ea_nil))) fun H3 e3 => ⟨.int r, .int r, 0, 4, rfl, .int r, rfl⟩))) (fun hb => ?_) (fun _ H1 e1 => q H1 e1)
  have : isNum 0 4 (.int r) = true := by
    show (decide (0 ≤ r) && decide (r ≤ 4)) = true
    rw [decide_eq_true h0, decide_eq_true h4] ; rfl
  rw [this] at hb ; cases hb
def spCheckNumbers (K : PySem.W.Frag) : Sp := PV fun vs H v => ∃ (a : Addr) (ns : List Int), vs = [.ref a] ∧ SqL K H a (ns.map V.int) ∧ ns.Pairwise (· < ·) ∧ (∀ n ∈ ns, 0 ≤ n ∧ n ≤ 999) ∧ v = .non
theorem ok_check_numbers (T : Txt K mg) : FnOk P w K mg base CX0 2 T.check_numbers.f T.check_numbers.fd ["numbers"] (spCheckNumbers K) := by
  refine T.check_numbers.F.ok sc_check_numbers (fun vs H Q E h => ?_) (fun cdv A outer s H vs Q E hr h => ?_)
  · obtain ⟨v, ⟨a, ns, rfl, _⟩, _⟩ := h ; rfl
  obtain ⟨v, ⟨a, ns, rfl, ha, hp, hn, rfl⟩, q⟩ := h
  refine ⟨_, (pss_cons (ps_set (i := 1) sc_check_numbers.nd rfl (by first | exact Or.inl rfl | exact Or.inr rfl) pe_int)
  (pss_one (ps_for PassesOwn.never rfl (pi_listK (K := K) rfl (pv 0)) (pg_name (i := 2) sc_check_numbers.nd rfl (by first | exact Or.inl rfl | exact Or.inr rfl))
  (pss_cons (ps_if (pt_not (pt_val (pe_call (ok_is_number T) (hr.mono (by decide)) rfl T.is_number.m T.is_number.F.kp T.is_number.b .nil pass0 (pa_cons (pv 2) (pa_cons (pv 1) (pa_cons (pe_glob (v := .int (999)) rfl T.c_MOST_NUMBER ⟨_, rfl⟩) pa_nil)))))) (pss_one ps_never) pss_nil)
  (pss_one (ps_set (i := 1) sc_check_numbers.nd rfl (by first | exact Or.inl rfl | exact Or.inr rfl) (pe_op op_add (pv 2) pe_int))))))), ?_⟩
  refine q_asg ev_c fun H1 e1 => ?_
  refine s_forL (K := K) (a := a) (xs := ns.map V.int) (ev_var rfl) (ex_l e1 ha) (fun i σ H' => (∃ (least : Int) (y : Option V), σ = [some (.ref a), some (.int least), y] ∧ 0 ≤ least ∧ ∀ j n, ns[j]? = some n → i ≤ j → least ≤ n) ∧ Same H H') (fun H2 e2 => ⟨⟨0, _, rfl, Int.le_refl _, fun j n hj _ => (hn n (List.mem_of_getElem? hj)).1⟩, e1.trans e2⟩) (fun i σ H' _ p => ex_l p.2 ha) (fun i x σ H' hx p => ?_) (fun σ H' p => q H' p.2)
  obtain ⟨⟨least, y, rfl, l0, hl⟩, e⟩ := p
  rw [List.getElem?_map, Option.map_eq_some_iff] at hx
  obtain ⟨n, hn', rfl⟩ := hx
  have hb := hn n (List.mem_of_getElem? hn')
  have hln := hl i n hn' (Nat.le_refl _)
  refine q_when (b := !isNum least 999 (.int n)) (et_not (et_B (ev_pv (ea_cons (ev_var rfl) (ea_cons (ev_var rfl) (ea_cons ev_c ea_nil))) fun H3 e3 => ⟨.int n, .int n, least, 999, rfl, .int n, rfl⟩))) (fun hb' => ?_) (fun _ H2 e2 => ?_)
  · have : isNum least 999 (.int n) = true := by
      show (decide (least ≤ n) && decide (n ≤ 999)) = true
      rw [decide_eq_true hln, decide_eq_true hb.2] ; rfl
    rw [this] at hb' ; cases hb'
  · refine s_asg (ev_op (ev_var rfl) ev_c rv_I0) fun H3 e3 => ⟨⟨n + 1, _, rfl, by omega, fun j m hj hij => ?_⟩, (e.trans e2).trans e3⟩
    obtain ⟨h1, h2⟩ := List.getElem?_eq_some_iff.mp hn'
    obtain ⟨h3, h4⟩ := List.getElem?_eq_some_iff.mp hj
    have := List.pairwise_iff_getElem.mp hp i j h1 h3 (by omega)
    omega
/-! ### check_thing -/
def stD (p : Th × Nat) : PyData := .tuple [p.1.d, .int (p.2 : Int)]
def stSz (st : List (Th × Nat)) : Nat := (st.map fun p => Th.sz (2 - p.2) p.1).sum
def spCheckThing : Sp := PV fun vs H v => ∃ x t, vs = [x] ∧ Tp H x t.d ∧ Th.ok 2 t ∧ v = .non
theorem ok_check_thing (T : Txt K mg) : FnOk P w K mg base CX0 5 T.check_thing.f T.check_thing.fd ["thing"] spCheckThing := by
  refine T.check_thing.F.ok sc_check_thing (fun vs H Q E h => ?_) (fun cdv A outer s H vs Q E hr h => ?_)
  · obtain ⟨v, ⟨x, t, rfl, _⟩, _⟩ := h ; rfl
  obtain ⟨v, ⟨x, t, rfl, hd, hok, rfl⟩, q⟩ := h
  refine ⟨_, (pss_cons (ps_set (i := 1) sc_check_thing.nd rfl (by first | exact Or.inl rfl | exact Or.inr rfl) pe_int)
  (pss_cons (ps_set (i := 2) sc_check_thing.nd rfl (by first | exact Or.inl rfl | exact Or.inr rfl) (pe_lst (pa_cons (pe_tupF (pa_cons (pv 0) (pa_cons pe_int pa_nil))) pa_nil)))
  (pss_one (ps_while PassesOwn.never (pt_truth (pv 2) (by intro _; rfl)) (pss_cons (ps_asg (pe_bm0 PySem.F.plainAttrs_list PySem.F.slot_list_pop PySem.F.type_list_pop mt_pop (pv 2)) (pg_tupK (K := K) (n := 2) rfl rfl (pgs_cons (pg_name (i := 4) sc_check_thing.nd rfl (by first | exact Or.inl rfl | exact Or.inr rfl)) (pgs_cons (pg_name (i := 5) sc_check_thing.nd rfl (by first | exact Or.inl rfl | exact Or.inr rfl)) pgs_nil))))
  (pss_cons (ps_if (PW.pt (pw_or (pt_cmpR op_gt (pv 5) (pe_glob (v := .int (2)) rfl T.c_MOST_DEEP ⟨_, rfl⟩) (nomark _)) (pw_or1 (pt_not (pt_val (pe_call (ok_is_shell T) (hr.mono (by decide)) rfl T.is_shell.m T.is_shell.F.kp T.is_shell.b .nil pass0 (pa_cons (pv 4) pa_nil))))))) (pss_one ps_never) pss_nil)
  (pss_cons (ps_for PassesOwn.never rfl (pi_revAK (K := K) rfl rfl T.z_reversed (pe_ix (ixK (K := K) rfl) (pv 4) pe_int (fun _ _ => rfl))) (pg_name (i := 3) sc_check_thing.nd rfl (by first | exact Or.inl rfl | exact Or.inr rfl))
  (pss_one (ps_expr (pe_bm PySem.F.plainAttrs_list PySem.F.slot_list_append PySem.F.type_list_append mt_append (pv 2) (pa_cons (pe_tupF (pa_cons (pv 3) (pa_cons (pe_op op_add (pv 5) pe_int) pa_nil))) pa_nil)))))
  (pss_one (ps_aug (i := 1) sc_check_thing.nd rfl (by first | exact Or.inl rfl | exact Or.inr rfl) pe_int ip_add))))))))), ?_⟩
  refine q_asg ev_c fun H1 e1 => ?_
  -- ahead = [(thing, 0)]
  refine ⟨x, rfl, by show 2 ≤ sizeLine; decide, fun p o hp ho => ⟨by show 1 ≤ sizeLine; decide, fun L hL => ?_⟩⟩
  have n1 : Same H (upd H1 p (.frz o (.tup [x, .int 0]))) := e1.trans (Same.new hp)
  have nL : H L = none := fresh_back n1 hL
  have t1 : TupAt (upd H1 p (.frz o (.tup [x, .int 0]))) p [x, .int 0] := TupAt.new ho
  generalize (upd H1 p (.frz o (.tup [x, .int 0]))) = H2 at n1 t1 hL ⊢
  have tt : Tp H2 (.ref p) (stD (t, 0)) := .tup t1 (.cons (hd.mono (Same.ts n1)) (.cons (.int 0) .nil))
  refine g_name ?_
  dsimp only
  refine s_while (fun m σ H' => ∃ (vs : List V) (st : List (Th × Nat)) (a1 : Int) (y3 y4 y5 : Option V), σ = [some x, some (.int a1), some (.ref L), y3, y4, y5] ∧ Same H H' ∧ H' L = some (.lst vs) ∧ Tps H' vs (st.map stD) ∧ (∀ p ∈ st, p.2 ≤ 2 ∧ Th.ok (2 - p.2) p.1) ∧ st.length + 4 * stSz st ≤ 1000 ∧ m = stSz st) (stSz [(t, 0)])
    ⟨[.ref p], [(t, 0)], 0, _, _, _, rfl, fun b u hb => by rw [upd_ne (ne_of_none hb nL)]; exact n1 b u hb, upd_same, .cons (tt.mono (Same.ts (Same.new hL))) .nil, fun q hq => by rw [List.mem_singleton.mp hq]; exact ⟨Nat.zero_le _, hok⟩, by have := Th.sz_le hok; show 1 + 4 * (Th.sz 2 t + 0) ≤ 1000; omega, rfl⟩ (fun m σ H' ih => ?_)
  obtain ⟨vs, st, a1, y3, y4, y5, rfl, es, el, ts, oks, hz, rfl⟩ := ih
  refine ⟨!vs.isEmpty, fun H3 e3 Q k => ⟨.ref L, rfl, _, .inl ⟨vs, SqL.of (e3 _ _ el), rfl⟩, k H3 (Ex.refl _)⟩, fun hb H3 e3 => ?_, fun _ H3 e3 => q H3 (es.trans e3)⟩
  have ls : vs.length = st.length := by rw [ts.length, List.length_map]
  rcases List.eq_nil_or_concat st with rfl | ⟨st0, ⟨u, k⟩, rfl⟩
  · cases vs with
    | nil => cases hb
    | cons v vs => cases ls
  rw [List.concat_eq_append] at ts oks hz ⊢
  rw [List.map_append] at ts
  obtain ⟨vs0, vl, rfl, ts0, tl⟩ := ts.split
  obtain ⟨vu, rfl, tu⟩ := tl.one
  obtain ⟨⟨hk, oku⟩⟩ : Nonempty (k ≤ 2 ∧ Th.ok (2 - k) u) := ⟨oks (u, k) (by simp)⟩
  refine ⟨fun σ2 H4 => ∃ m', m' < stSz (st0 ++ [(u, k)]) ∧ ∃ (vs : List V) (st : List (Th × Nat)) (a1 : Int) (y3 y4 y5 : Option V), σ2 = [some x, some (.int a1), some (.ref L), y3, y4, y5] ∧ Same H H4 ∧ H4 L = some (.lst vs) ∧ Tps H4 vs (st.map stD) ∧ (∀ p ∈ st, p.2 ≤ 2 ∧ Th.ok (2 - p.2) p.1) ∧ st.length + 4 * stSz st ≤ 1000 ∧ m' = stSz st, fun σ2 H4 h => h, ?_⟩
  -- part, deep = ahead.pop()
  have el3 := e3 _ _ el
  refine ⟨.ref L, rfl, .inl ⟨rfl, _, SqL.of el3⟩, L, _, vu, rfl, rfl, el3, by simp, ?_⟩
  rw [List.dropLast_concat]
  have tu3 := tu.mono (Same.ts e3)
  obtain ⟨au, xu, rfl, hau, hxu⟩ := tu3.tup_inv
  obtain ⟨vt, vk, rfl, htu, hvk⟩ := hxu.two
  have z := hvk.int_inv ; subst z
  have m4 : Mv [L] H3 (upd H3 L (.lst vs0)) := (Mv.refl [L] H3).upd' (by simp) (fun u xs z => by rw [el3] at z; cases z)
  have s4 : Same H (upd H3 L (.lst vs0)) := fun b w hb => by rw [upd_ne (ne_of_none hb nL)]; exact (es.trans e3) b w hb
  have el4 : (upd H3 L (.lst vs0)) L = some (.lst vs0) := upd_same
  have ts4 := (ts0.mono (Same.ts e3)).mono m4.ts
  have hau4 := hau.mono m4.ts
  have htu4 := htu.mono m4.ts
  generalize (upd H3 L (.lst vs0)) = H4 at m4 s4 el4 ts4 hau4 htu4 ⊢
  refine g_un2 hau4.sq ?_
  obtain ⟨mu, is⟩ := u
  rw [Th.d_mk] at htu4
  have few := oku.few
  refine q_when (b := false || !true) (et_or (et_test (ev_is (ev_op (ev_var rfl) ev_c rv_I0) (by rw [decide_eq_false (by omega)]))) fun _ => et_not (et_B (ev_pv (ea_cons (ev_var rfl) ea_nil) fun H5 e5 => ⟨vt, mu, is.map Th.d, rfl, htu4.mono (Same.ts e5), oku.marks, by rw [List.length_map]; exact few, rfl⟩))) (fun z => nomatch z) (fun _ H5 e5 => ?_)
  -- for inner in reversed(part[1])
  obtain ⟨at', xt, rfl, hat, hxt⟩ := htu4.tup_inv
  obtain ⟨vm, vi, rfl, hvm, hvi⟩ := hxt.two
  obtain ⟨ai, xi, rfl, hai, hxi⟩ := hvi.tup_inv
  have li : xi.length = is.length := by rw [hxi.length, List.length_map]
  refine ⟨.ref at', rfl, .inr (.inl ⟨at', [vm, .ref ai], 1, .ref ai, rfl, rfl, (hat.mono (Same.ts e5)).sq, rfl, ai, xi, rfl, .inr ⟨(hai.mono (Same.ts e5)).sq, ?_⟩⟩)⟩
  refine RT.for_ItvT (K := K) (xs := xi) (fun i σ H' => ∃ (vs : List V) (y3 : Option V), σ = [some x, some (.int a1), some (.ref L), y3, some (.ref at'), some (.int (k : Int))] ∧ Same H H' ∧ H' L = some (.lst vs) ∧ Tps H' vs ((st0 ++ (is.reverse.take i).map fun t => (t, k + 1)).map stD) ∧ Tst H4 H') ⟨vs0, _, rfl, s4.trans e5, e5 _ _ el4, by simpa using ts4.mono (Same.ts e5), Same.ts e5⟩ (fun i σ H' p => ?_) (fun i y σ H' hi hy p => ?_) (fun σ H' p => ?_)
  · obtain ⟨_, _, _, _, _, _, t4⟩ := p
    exact (hai.mono t4).sq
  · obtain ⟨vs, y3, rfl, s6, el6, ts6, t4⟩ := p
    obtain ⟨d, hd1, hd2⟩ := (hxi.mono t4).get hy
    rw [List.getElem?_map, Option.map_eq_some_iff] at hd1
    obtain ⟨t', ht', rfl⟩ := hd1
    have lv := ts6.length
    rw [List.length_map, List.length_append, List.length_map, List.length_take] at lv
    have hz0 : st0.length ≤ 1000 := by rw [List.length_append] at hz; omega
    refine ⟨.ref L, rfl, .inl ⟨rfl, _, SqL.of el6⟩, y, rfl, .int (k : Int), rfl, ⟨(k : Int), 1, rfl, rfl, by show 2 ≤ sizeLine; decide, fun c ob hc hob => ?_⟩⟩
    have s7 : Same H' (upd H' c (.frz ob (.tup [y, .int ((k : Int) + 1)]))) := Same.new hc
    have t7 : TupAt (upd H' c (.frz ob (.tup [y, .int ((k : Int) + 1)]))) c [y, .int ((k : Int) + 1)] := TupAt.new hob
    generalize (upd H' c (.frz ob (.tup [y, .int ((k : Int) + 1)]))) = H7 at s7 t7 ⊢
    have el7 := s7 _ _ el6
    refine ⟨L, vs, .ref c, rfl, rfl, el7, sz_lt (by omega), ?_⟩
    have m8 : Mv [L] H7 (upd H7 L (.lst (vs ++ [.ref c]))) := (Mv.refl [L] H7).upd' (by simp) (fun u xs z => by rw [el7] at z; cases z)
    have tc : Tp H7 (.ref c) (stD (t', k + 1)) := .tup t7 (.cons (hd2.mono (Same.ts s7)) (.cons (.int _) .nil))
    refine ⟨vs ++ [.ref c], _, rfl, fun b w hb => by rw [upd_ne (ne_of_none hb nL)]; exact (s6.trans s7) b w hb, upd_same, ?_, (t4.trans (Same.ts s7)).trans m8.ts⟩
    have er : is.reverse[i]? = some t' := by rw [List.getElem?_reverse (by omega), ← ht', li]
    have em : (st0 ++ (is.reverse.take (i + 1)).map fun t => (t, k + 1)).map stD = (st0 ++ (is.reverse.take i).map fun t => (t, k + 1)).map stD ++ [stD (t', k + 1)] := by
      rw [List.take_add_one, er]
      simp only [Option.toList_some, List.map_append, List.map_cons, List.map_nil, List.append_assoc]
    rw [em]
    exact ((ts6.mono (Same.ts s7)).mono m8.ts).append (.cons (tc.mono m8.ts) .nil)
  · obtain ⟨vs, y3, rfl, s6, el6, ts6, t4⟩ := p
    have ht : is.reverse.take xi.length = is.reverse := by rw [List.take_of_length_le]; rw [List.length_reverse, li]; exact Nat.le_refl _
    rw [ht] at ts6
    have hsz : stSz (st0 ++ is.reverse.map fun t => (t, k + 1)) + 1 = stSz (st0 ++ [(Th.mk mu is, k)]) := by
      unfold stSz
      rw [List.map_append, List.map_append, List.sum_append, List.sum_append, List.map_map]
      have e1 : (is.reverse.map ((fun p : Th × Nat => Th.sz (2 - p.2) p.1) ∘ fun t => (t, k + 1))).sum = (is.map (Th.sz (2 - (k + 1)))).sum := by
        rw [List.map_reverse, List.sum_reverse] ; rfl
      rw [e1]
      have e2 : Th.sz (2 - k) (Th.mk mu is) = 1 + (is.map (Th.sz (2 - (k + 1)))).sum := by
        cases hk2 : 2 - k with
        | zero =>
          rw [hk2] at oku
          rw [oku.2] ; rfl
        | succ n =>
          have : 2 - (k + 1) = n := by omega
          rw [this] ; rfl
      show _ + 1 = _ + (Th.sz (2 - k) (Th.mk mu is) + 0)
      omega
    refine s_aug rfl ev_c fun H9 e9 => ⟨_, by omega, vs, _, _, _, _, _, rfl, s6.trans e9, e9 _ _ el6, ts6.mono (Same.ts e9), fun p hp => ?_, ?_, rfl⟩
    · rcases List.mem_append.mp hp with hp | hp
      · exact oks p (List.mem_append_left _ hp)
      · obtain ⟨t', ht', rfl⟩ := List.mem_map.mp hp
        have ht'' : t' ∈ is := List.mem_reverse.mp ht'
        cases hk2 : 2 - k with
        | zero =>
          rw [hk2] at oku
          rw [oku.2] at ht'' ; cases ht''
        | succ n =>
          rw [hk2] at oku
          have : 2 - (k + 1) = n := by omega
          exact ⟨by show k + 1 ≤ 2; omega, by show Th.ok (2 - (k + 1)) t'; rw [this]; exact oku.2.2 t' ht''⟩
    · rw [List.length_append, List.length_map, List.length_reverse]
      rw [List.length_append, List.length_singleton] at hz
      omega


end
end Dm
namespace Dm
open PySem PySem.Spec PyProof.Rows L2 Evl
section
variable {P : Program} {w : World} {K : PySem.W.Frag} {mg : Str → Option Value} {base : Heap}
/-! ### check_things, check_helpers -/
def spCheckThings (K : PySem.W.Frag) : Sp := PV fun vs H v => ∃ (a : Addr) (xs : List V) (ts : List (Int × Th)), vs = [.ref a] ∧ SqL K H a xs ∧ Tps H xs (ts.map tgD) ∧ OkThings ts ∧ v = .non
theorem ok_check_things (T : Txt K mg) : FnOk P w K mg base CX0 6 T.check_things.f T.check_things.fd ["things"] (spCheckThings K) := by
  refine T.check_things.F.ok sc_check_things (fun vs H Q E h => ?_) (fun cdv A outer s H vs Q E hr h => ?_)
  · obtain ⟨v, ⟨a, xs, ts, rfl, _⟩, _⟩ := h ; rfl
  obtain ⟨v, ⟨a, xs, ts, rfl, ha, hs, ok, rfl⟩, q⟩ := h
  refine ⟨_, (pss_cons (ps_expr (pe_call (ok_check_numbers T) (hr.mono (by decide)) rfl T.check_numbers.m T.check_numbers.F.kp T.check_numbers.b .nil pass0 (pa_cons (pe_lc (own := [("number", 3), ("_", 1)]) rfl sc_check_things.nd (pi_listK (K := K) rfl (pv 0)) (blkOk_by (own := [("number", 3), ("_", 1)]) (N := ["things", "_", "thing", "number"]) (sc := defScope s_check_things) (by decide +kernel)) (fun _ _ _ _ _ => by exact (pg_tupK (K := K) (n := 2) rfl rfl (pgs_cons (pg_name (i := 3) sc_check_things.nd rfl (by first | exact Or.inl rfl | exact Or.inr rfl)) (pgs_cons (pg_name (i := 1) sc_check_things.nd rfl (by first | exact Or.inl rfl | exact Or.inr rfl)) pgs_nil)))) (fun _ _ _ _ _ => pts_nil) (fun _ _ _ _ _ => (pv 3))) pa_nil)))
  (pss_one (ps_for PassesOwn.never rfl (pi_listK (K := K) rfl (pv 0)) (pg_tupK (K := K) (n := 2) rfl rfl (pgs_cons (pg_name (i := 1) sc_check_things.nd rfl (by first | exact Or.inl rfl | exact Or.inr rfl)) (pgs_cons (pg_name (i := 2) sc_check_things.nd rfl (by first | exact Or.inl rfl | exact Or.inr rfl)) pgs_nil)))
  (pss_one (ps_expr (pe_call (ok_check_thing T) (hr.mono (by decide)) rfl T.check_thing.m T.check_thing.F.kp T.check_thing.b .nil pass0 (pa_cons (pv 2) pa_nil))))))), ?_⟩
  have hl : xs.length = ts.length := by rw [hs.length, List.length_map]
  have l16 : ts.length ≤ 16 := by have := ok.nums.len; rwa [List.length_map] at this
  have item : ∀ {H1 : Hp} (i : Nat) (x : V), Same H H1 → xs[i]? = some x → ∃ (t : Int × Th) (b : Addr) (y : V), ts[i]? = some t ∧ x = .ref b ∧ TupAt H1 b [.int t.1, y] ∧ Tp H1 y t.2.d := fun {H1} i x e hx => by
    obtain ⟨d, h1, h2⟩ := (hs.mono (Same.ts e)).get hx
    rw [List.getElem?_map, Option.map_eq_some_iff] at h1
    obtain ⟨t, ht, rfl⟩ := h1
    obtain ⟨b, ys, rfl, hb, hys⟩ := h2.tup_inv
    obtain ⟨n, y, rfl, hn, hy⟩ := hys.two
    rw [hn.int_inv] at hb
    exact ⟨t, b, y, ht, rfl, hb, hy⟩
  refine ⟨.ref a, rfl, a, rfl, ⟨xs, ha⟩, fun L hL => ?_⟩
  refine lc_list (xs := xs) (fun i H' => Same H H' ∧ H' L = some (.lst (((ts.map (·.1)).take i).map V.int))) ⟨Same.new hL, by rw [List.take_zero]; exact upd_same⟩ (fun i H' _ p => ex_l p.1 ha) (fun i x H' hx p => ?_) (fun H1 p => ?_)
  · obtain ⟨e1, e2⟩ := p
    obtain ⟨t, b, y, ht, rfl, hb, _⟩ := item i x e1 hx
    refine g_un2 hb.sq ⟨rfl, ?_⟩
    refine ⟨.int t.1, rfl, _, e2, sz_lt (by rw [List.length_map, List.length_take, List.length_map]; omega), fun b u hb => by rw [upd_ne (ne_of_none hb hL)]; exact e1 b u hb, ?_⟩
    rw [upd_same, List.take_add_one, List.getElem?_map, ht] ; simp
  · obtain ⟨e1, e2⟩ := p
    rw [hl, List.take_of_length_le (by rw [List.length_map]; exact Nat.le_refl _)] at e2
    refine ⟨.non, ⟨L, ts.map (·.1), rfl, SqL.of e2, ok.nums.rise, fun n hn => by have := ok.nums.rng n hn; omega, rfl⟩, fun H2 e3 => ?_⟩
    have E2 : Same H H2 := e1.trans e3
    refine s_forL (K := K) (a := a) (xs := xs) (ev_var rfl) (ex_l E2 ha) (fun i σ H' => (∃ y1 y2 y3 : Option V, σ = [some (.ref a), y1, y2, y3]) ∧ Same H H') (fun H3 e4 => ⟨⟨_, _, _, rfl⟩, E2.trans e4⟩) (fun i σ H' _ p => ex_l p.2 ha) (fun i x σ H' hx p => ?_) (fun σ H' p => q H' p.2)
    obtain ⟨⟨y1, y2, y3, rfl⟩, e⟩ := p
    obtain ⟨t, b, y, ht, rfl, hb, hy⟩ := item i x e hx
    refine g_un2 hb.sq ?_
    refine s_drop (ev_pv (ea_cons (ev_var rfl) ea_nil) fun H5 e5 => ⟨y, t.2, rfl, hy.mono (Same.ts e5), ok.ok t (List.mem_of_getElem? ht), rfl⟩) fun H5 e5 => ⟨⟨_, _, _, rfl⟩, e.trans e5⟩
def spCheckHelpers (K : PySem.W.Frag) : Sp := PV fun vs H v => ∃ (a : Addr) (xs : List V) (hs : List Hlp), vs = [.ref a] ∧ SqL K H a xs ∧ Tps H xs (hs.map hpD) ∧ OkHelpers hs ∧ v = .non
theorem hp_item {H1 : Hp} {xs : List V} {hs : List Hlp} (h : Tps H1 xs (hs.map hpD)) {i : Nat} {x : V} (hx : xs[i]? = some x) : ∃ (t : Hlp) (b : Addr) (y : V), hs[i]? = some t ∧ x = .ref b ∧ TupAt H1 b [.int t.1, y, .int t.2.2] ∧ Tp H1 y (clsD t.2.1) := by
  obtain ⟨d, h1, h2⟩ := h.get hx
  rw [List.getElem?_map, Option.map_eq_some_iff] at h1
  obtain ⟨t, ht, rfl⟩ := h1
  obtain ⟨b, ys, rfl, hb, hys⟩ := h2.tup_inv
  obtain ⟨n, y, r, rfl, hn, hy, hr⟩ := hys.three
  rw [hn.int_inv, hr.int_inv] at hb
  exact ⟨t, b, y, ht, rfl, hb, hy⟩
theorem ok_check_helpers (T : Txt K mg) : FnOk P w K mg base CX0 6 T.check_helpers.f T.check_helpers.fd ["helpers"] (spCheckHelpers K) := by
  refine T.check_helpers.F.ok sc_check_helpers (fun vs H Q E h => ?_) (fun cdv A outer s H vs Q E hr h => ?_)
  · obtain ⟨v, ⟨a, xs, ts, rfl, _⟩, _⟩ := h ; rfl
  obtain ⟨v, ⟨a, xs, ts, rfl, ha, hs, ok, rfl⟩, q⟩ := h
  refine ⟨_, (pss_cons (ps_expr (pe_call (ok_check_numbers T) (hr.mono (by decide)) rfl T.check_numbers.m T.check_numbers.F.kp T.check_numbers.b .nil pass0 (pa_cons (pe_lc (own := [("helper", 4)]) rfl sc_check_helpers.nd (pi_listK (K := K) rfl (pv 0)) (blkOk_by (own := [("helper", 4)]) (N := ["helpers", "_", "claims", "room", "helper"]) (sc := defScope s_check_helpers) (by decide +kernel)) (fun _ _ _ _ _ => by exact (pg_name (i := 4) sc_check_helpers.nd rfl (by first | exact Or.inl rfl | exact Or.inr rfl))) (fun _ _ _ _ _ => pts_nil) (fun _ _ _ _ _ => (pe_ix (ixK (K := K) rfl) (pv 4) pe_int (fun _ _ => rfl)))) pa_nil)))
  (pss_one (ps_for PassesOwn.never rfl (pi_listK (K := K) rfl (pv 0)) (pg_tupK (K := K) (n := 3) rfl rfl (pgs_cons (pg_name (i := 1) sc_check_helpers.nd rfl (by first | exact Or.inl rfl | exact Or.inr rfl)) (pgs_cons (pg_name (i := 2) sc_check_helpers.nd rfl (by first | exact Or.inl rfl | exact Or.inr rfl)) (pgs_cons (pg_name (i := 3) sc_check_helpers.nd rfl (by first | exact Or.inl rfl | exact Or.inr rfl)) pgs_nil))))
  (pss_cons (ps_expr (pe_call (ok_check_claims T) (hr.mono (by decide)) rfl T.check_claims.m T.check_claims.F.kp T.check_claims.b .nil pass0 (pa_cons (pv 2) pa_nil)))
  (pss_one (ps_expr (pe_call (ok_check_room T) (hr.mono (by decide)) rfl T.check_room.m T.check_room.F.kp T.check_room.b .nil pass0 (pa_cons (pv 3) pa_nil)))))))), ?_⟩
  have hl : xs.length = ts.length := by rw [hs.length, List.length_map]
  have l16 : ts.length ≤ 16 := by have := ok.nums.len; rwa [List.length_map] at this
  refine ⟨.ref a, rfl, a, rfl, ⟨xs, ha⟩, fun L hL => ?_⟩
  refine lc_list (xs := xs) (fun i H' => Same H H' ∧ H' L = some (.lst (((ts.map (·.1)).take i).map V.int))) ⟨Same.new hL, by rw [List.take_zero]; exact upd_same⟩ (fun i H' _ p => ex_l p.1 ha) (fun i x H' hx p => ?_) (fun H1 p => ?_)
  · obtain ⟨e1, e2⟩ := p
    obtain ⟨t, b, y, ht, rfl, hb, _⟩ := hp_item (hs.mono (Same.ts e1)) hx
    refine ⟨rfl, ?_⟩
    refine ⟨.ref b, rfl, ?_⟩
    refine g_c (.inr (.inl ⟨b, _, 0, .int t.1, rfl, rfl, hb.sq, rfl, ?_⟩))
    refine ⟨_, e2, sz_lt (by rw [List.length_map, List.length_take, List.length_map]; omega), fun b u hb => by rw [upd_ne (ne_of_none hb hL)]; exact e1 b u hb, ?_⟩
    rw [upd_same, List.take_add_one, List.getElem?_map, ht] ; simp
  · obtain ⟨e1, e2⟩ := p
    rw [hl, List.take_of_length_le (by rw [List.length_map]; exact Nat.le_refl _)] at e2
    refine ⟨.non, ⟨L, ts.map (·.1), rfl, SqL.of e2, ok.nums.rise, fun n hn => by have := ok.nums.rng n hn; omega, rfl⟩, fun H2 e3 => ?_⟩
    have E2 : Same H H2 := e1.trans e3
    refine s_forL (K := K) (a := a) (xs := xs) (ev_var rfl) (ex_l E2 ha) (fun i σ H' => (∃ y1 y2 y3 y4 : Option V, σ = [some (.ref a), y1, y2, y3, y4]) ∧ Same H H') (fun H3 e4 => ⟨⟨_, _, _, _, rfl⟩, E2.trans e4⟩) (fun i σ H' _ p => ex_l p.2 ha) (fun i x σ H' hx p => ?_) (fun σ H' p => q H' p.2)
    obtain ⟨⟨y1, y2, y3, y4, rfl⟩, e⟩ := p
    obtain ⟨t, b, y, ht, rfl, hb, hy⟩ := hp_item (hs.mono (Same.ts e)) hx
    obtain ⟨okc, r0, r4⟩ := ok.ok t (List.mem_of_getElem? ht)
    refine g_un3 hb.sq ?_
    refine q_drop (ev_pv (ea_cons (ev_var rfl) ea_nil) fun H5 e5 => ⟨y, t.2.1.map clD, rfl, hy.mono (Same.ts e5), by rw [List.length_map]; exact okc.1, fun d hd => ?_, rfl⟩) fun H5 e5 => ?_
    · obtain ⟨c, h1, rfl⟩ := List.mem_map.mp hd
      exact (okc.2 c h1).is
    · refine s_drop (ev_pv (ea_cons (ev_var rfl) ea_nil) fun H6 e6 => ⟨t.2.2, rfl, r0, r4, rfl⟩) fun H6 e6 => ⟨⟨_, _, _, _, rfl⟩, (e.trans e5).trans e6⟩


end
end Dm
namespace Dm
open PySem PySem.Spec PyProof.Rows L2 Evl
section
variable {P : Program} {w : World} {K : PySem.W.Frag} {mg : Str → Option Value} {base : Heap}
/-! ### _law_thing -/
def spThing : Nat → Sp
  | 0 => fun _ _ _ _ => False
  | n + 1 => fun vs H Q _ => ∃ (h c : Addr), vs = [.ref h, .int (n : Int)] ∧ Dr H h c ∧ ∀ (H' : Hp) (v : V) (t : Th), Dr H' h c → Mv [h, c] H H' → Tp H' v t.d → Th.ok n t → Q v H'
theorem thing_step (T : Txt K mg) {n : Nat} (ih : FnOk P w K mg base CX0 (n + 2) T._law_thing.f T._law_thing.fd ["_law_h", "_law_deep"] (spThing n)) : FnOk P w K mg base CX0 (n + 3) T._law_thing.f T._law_thing.fd ["_law_h", "_law_deep"] (spThing (n + 1)) := by
  refine T._law_thing.F.ok sc__law_thing (fun vs H Q E h => ?_) (fun cdv A outer s H vs Q E hr h => ?_)
  · obtain ⟨h, c, rfl, _⟩ := h ; rfl
  obtain ⟨h, c, rfl, dr, q⟩ := h
  refine ⟨_, (pss_cons (ps_set (i := 2) sc__law_thing.nd rfl (by first | exact Or.inl rfl | exact Or.inr rfl) (pe_ifExp (pt_cmpR op_gt (pv 1) pe_int (nomark _)) (pe_ix (ixK (K := K) rfl) (pe_lst (pa_cons pe_int (pa_cons pe_int (pa_cons pe_int (pa_cons (pe_call (ok__law_next T) (hr.mono (by omega)) rfl T._law_next.m T._law_next.F.kp T._law_next.b .nil pass0 (pa_cons (pv 0) (pa_cons pe_int pa_nil))) pa_nil))))) (pe_call (ok__law_next T) (hr.mono (by omega)) rfl T._law_next.m T._law_next.F.kp T._law_next.b .nil pass0 (pa_cons (pv 0) (pa_cons pe_int pa_nil))) (fun _ _ => rfl)) pe_int))
  (pss_one (ps_ret (pe_tupF (pa_cons (pe_call (ok__law_marks T) (hr.mono (by omega)) rfl T._law_marks.m T._law_marks.F.kp T._law_marks.b .nil pass0 (pa_cons (pv 0) pa_nil)) (pa_cons (pe_callTy (tupleK (K := K) rfl) (by rfl) T.z_tuple (by decide +kernel) (pa_cons (pe_lc (own := [("_law_k", 3)]) rfl sc__law_thing.nd (pi_range1 rfl T.z_range (pa_cons (pv 2) pa_nil)) (blkOk_by (own := [("_law_k", 3)]) (N := ["_law_h", "_law_deep", "_law_many", "_law_k"]) (sc := defScope s__law_thing) (by decide +kernel)) (fun _ _ _ _ _ => by exact (pg_name (i := 3) sc__law_thing.nd rfl (by first | exact Or.inl rfl | exact Or.inr rfl))) (fun _ _ _ _ _ => pts_nil) (fun _ _ _ _ _ => (pe_call ih hr rfl T._law_thing.m T._law_thing.F.kp T._law_thing.b .nil pass0 (pa_cons (pv 0) (pa_cons (pe_op op_sub (pv 1) pe_int) pa_nil))))) pa_nil)) pa_nil)))))), ?_⟩
  -- how many within
  refine (et_test (ev_op (ev_var rfl) ev_c rv_I0)) H (Ex.refl H) _ fun H1 e1 => ?_
  have fin : ∀ (H2 : Hp) (k : Int), Dr H2 h c → Mv [h, c] H H2 → 0 ≤ k → k ≤ 3 → (n = 0 → k = 0) → tRet (tTupF (tCons (tCall spMarks [] E0 (tCons (tVar 0) tNil)) (tCons (tCB (rTupF K) (tCons (tLc (iRng1 (tCons (tVar 2) tNil)) (gName 3) tYes (tCall (spThing n) [] E0 (tCons (tVar 0) (tCons (tOp (rI0 fun i j => V.int (i - j)) (tVar 1) (tC (V.int 1))) tNil))) [3]) tNil)) tNil))) { nx := fun _ H' => Q V.non H', rt := Q } [some (.ref h), some (.int (n : Int)), some (.int k), none] H2 := by
    intro H2 k d2 m2 k0 k3 kn
    -- marks
    refine ⟨.ref h, rfl, h, c, rfl, d2, fun H3 vm m d3 m3 t3 ok3 => ?_⟩
    refine ⟨.int k, rfl, k, rfl, by omega, by omega, fun L hL => ?_⟩
    have nL := d3.new hL
    refine lc_range (lo := 0) (n := k.toNat) (fun i H' => Dr H' h c ∧ Mv [h, c] H3 H' ∧ ∃ (vs : List V) (is : List Th), H' L = some (.lst vs) ∧ Tps H' vs (is.map Th.d) ∧ is.length = i ∧ ∀ t ∈ is, ∃ j, n = j + 1 ∧ Th.ok j t) ⟨d3.upd nL, Mv.of (Same.new hL), [], [], upd_same, .nil, rfl, by simp⟩ (fun i H' hi p => ?_) (fun H' p => ?_)
    · obtain ⟨d4, m4, vs, is, e4, t4, l4, o4⟩ := p
      obtain ⟨j, rfl⟩ : ∃ j, n = j + 1 := by
        cases n with
        | zero => have := kn rfl; omega
        | succ j => exact ⟨j, rfl⟩
      refine ⟨rfl, ⟨.ref h, rfl, .int ((j + 1 : Nat) : Int), rfl, _, _, rfl, rfl, ?_⟩⟩
      refine ⟨h, c, by show ([V.ref h, V.int (((j + 1 : Nat) : Int) - 1)] : List V) = [V.ref h, V.int (j : Int)]; rw [show ((j + 1 : Nat) : Int) - 1 = (j : Int) by omega], d4, fun H5 v t d5 m5 t5 o5 => ?_⟩
      have e5 := m5.at nL e4
      have lv := t4.length
      rw [List.length_map] at lv
      have m6 : Mv [L] H5 (upd H5 L (.lst (vs ++ [v]))) := (Mv.refl [L] H5).upd' (by simp) (fun u xs z => by rw [e5] at z; cases z)
      refine ⟨vs, e5, sz_lt (by omega), d5.upd nL, (m4.trans m5).upd hL, vs ++ [v], is ++ [t], upd_same, ?_, by rw [List.length_append, l4]; rfl, fun u hu => ?_⟩
      · rw [List.map_append]
        exact ((t4.mono m5.ts).mono m6.ts).append (.cons (t5.mono m6.ts) .nil)
      · rcases List.mem_append.mp hu with hu | hu
        · exact o4 u hu
        · rw [List.mem_singleton.mp hu] ; exact ⟨j, rfl, o5⟩
    · obtain ⟨d4, m4, vs, is, e4, t4, l4, o4⟩ := p
      refine ⟨L, vs, rfl, .inl ⟨SqL.of e4, fun p o hp ho => ?_⟩⟩
      have x5 : Same H' (upd H' p (.frz o (.tup vs))) := Same.new hp
      have tp : TupAt (upd H' p (.frz o (.tup vs))) p vs := TupAt.new ho
      have d5 := d4.upd (o := .frz o (.tup vs)) (d4.new hp)
      generalize (upd H' p (.frz o (.tup vs))) = H5 at x5 tp d5 ⊢
      refine ⟨by show 2 ≤ sizeLine; decide, fun p2 o2 hp2 ho2 => ?_⟩
      have x6 : Same H5 (upd H5 p2 (.frz o2 (.tup [vm, .ref p]))) := Same.new hp2
      have tp2 : TupAt (upd H5 p2 (.frz o2 (.tup [vm, .ref p]))) p2 [vm, .ref p] := TupAt.new ho2
      have d6 := d5.upd (o := .frz o2 (.tup [vm, .ref p])) (d5.new hp2)
      have m36 : Mv [h, c] H3 (upd H5 p2 (.frz o2 (.tup [vm, .ref p]))) := (m4.trans (Mv.of x5)).trans (Mv.of x6)
      refine q _ _ (.mk m is) d6 ((m2.trans m3).trans m36) ?_ ?_
      · rw [Th.d_mk]
        refine .tup tp2 (.cons (t3.mono m36.ts) (.cons (.tup (tp.mono (Same.ts x6)) ?_) .nil))
        exact (t4.mono (Same.ts x5)).mono (Same.ts x6)
      · cases n with
        | zero =>
          refine ⟨ok3, ?_⟩
          have := kn rfl
          exact List.length_eq_zero_iff.mp (by omega)
        | succ j =>
          refine ⟨ok3, by omega, fun u hu => ?_⟩
          obtain ⟨j', e', o'⟩ := o4 u hu
          have : j = j' := by omega
          rw [this] ; exact o'
  have d1 := dr.mono e1
  refine ite2 (fun hb => ?_) (fun hb => ?_)
  · refine g_op (g_lst (g_cons (g_c (g_cons (g_c (g_cons (g_c (g_cons ?_))))))))
    refine ⟨.ref h, rfl, ?_⟩
    dsimp only
    refine g_cons (g_c (g_nil ?_))
    refine nx (k := 4) d1 (by decide) (by decide) fun H2 r d2 m2 r0 r1 => ?_
    refine g_nil ⟨by show 4 ≤ sizeLine; decide, fun p hp => ?_⟩
    have d3 := d2.upd (o := .lst [.int 0, .int 0, .int 1, .int r]) (d2.new hp)
    refine ⟨.ref h, rfl, ?_⟩
    dsimp only
    refine g_cons (g_c (g_nil ?_))
    refine nx (k := 4) d3 (by decide) (by decide) fun H4 j d4 m4 j0 j1 => ?_
    have e4 := m4.at (d2.new hp) upd_same
    have m24 : Mv [h, c] H H4 := (((Mv.of e1).trans m2).trans (Mv.of (Same.new hp))).trans m4
    have nz : n ≠ 0 := fun z => by
      rw [z] at hb
      exact absurd hb (by decide)
    obtain ⟨k, hk, k0, k3⟩ : ∃ k : Int, atI [V.int 0, .int 0, .int 1, .int r] j = some (.int k) ∧ 0 ≤ k ∧ k ≤ 3 := by
      rcases (show j = 0 ∨ j = 1 ∨ j = 2 ∨ j = 3 by omega) with rfl | rfl | rfl | rfl
      · exact ⟨0, rfl, by omega, by omega⟩
      · exact ⟨0, rfl, by omega, by omega⟩
      · exact ⟨1, rfl, by omega, by omega⟩
      · exact ⟨r, rfl, by omega, by omega⟩
    exact .inl ⟨p, _, j, .int k, rfl, rfl, SqL.of e4, hk, fin H4 k d4 m24 k0 k3 (fun z => absurd z nz)⟩
  · exact fin H1 0 d1 (Mv.of e1) (by decide) (by decide) (fun _ => rfl)
theorem ok__law_thing (T : Txt K mg) : ∀ n, FnOk P w K mg base CX0 (n + 2) T._law_thing.f T._law_thing.fd ["_law_h", "_law_deep"] (spThing n)
  | 0 => ⟨fun vs H Q E h => h.elim, fun A outer s H args us vs Q E _ _ _ _ h => h.elim⟩
  | n + 1 => thing_step T (ok__law_thing T n)


end
end Dm
namespace Dm
open PySem PySem.Spec PyProof.Rows L2 Evl
section
variable {P : Program} {w : World} {K : PySem.W.Frag} {mg : Str → Option Value} {base : Heap}
/-! ### thing_rows, helper_rows -/
abbrev tsI (i : Int) : Str := Str.ofString (toString i)
def rowT (d : Int) : List Int → Str
  | [a, b, c] => ((((((((Str.empty ++ (("thing " : Str))) ++ tsI d) ++ ((" " : Str))) ++ tsI a) ++ ((" " : Str))) ++ tsI b) ++ ((" " : Str))) ++ tsI c)
  | _ => Str.empty
def rowsM : Nat → Int → Th → List Str
  | 0, d, .mk m _ => [rowT d m]
  | n + 1, d, .mk m is => rowT d m :: (is.map (rowsM n (d + 1))).flatten
section
variable {σ : L2.St} {H : Hp} {te : TE} {ts : List TE} {acc y out : Str} {i : Int}
def EvJ (ts : List TE) (σ : L2.St) (H : Hp) (acc out : Str) : Prop := ∀ H1, Same H H1 → ∀ Q : Str → Hp → Prop, (∀ H2, Same H1 H2 → Q out H2) → tJs ts acc σ H1 Q
theorem ej_nil : EvJ [] σ H acc acc := fun H1 e Q q => q H1 (Same.refl H1)
theorem ej_cons (h : Ev te σ H (.str y)) (hl : (acc ++ y).length ≤ sizeLine) (hr : EvJ ts σ H (acc ++ y) out) : EvJ (te :: ts) σ H acc out := fun H1 e Q q =>
  h H1 e _ fun H2 e2 => ⟨y, rfl, hl, hr H2 (e.trans e2) Q fun H3 e3 => q H3 (e2.trans e3)⟩
theorem ev_js (h : EvJ ts σ H Str.empty out) : Ev (fun σ H Q => tJs ts Str.empty σ H fun out H1 => Q (.str out) H1) σ H (.str out) := fun H1 e Q q => h H1 e _ fun H2 e2 => q H2 e2
theorem ev_fmt (h : Ev te σ H (.int i)) (hi : i.natAbs ≤ 1000000) : Ev (tFmt te) σ H (.str (tsI i)) := fun H1 e Q q =>
  h H1 e _ fun H2 e2 => .inr ⟨i, rfl, by
    by_cases z : i.natAbs = 0
    · rw [z] ; decide
    · exact (Nat.log2_lt z).mpr (Nat.lt_of_le_of_lt hi (Nat.lt_of_lt_of_le (by decide : 1000000 < 2 ^ 20) (Nat.pow_le_pow_right (by decide) (by decide)))), q H2 e2⟩
end
theorem ts_len {i : Int} (h : i.natAbs ≤ 1000000) : (tsI i).length ≤ 2000 := by
  have := int_text_length_le (a := i) (k := 20) (by decide) (by
    by_cases z : i.natAbs = 0
    · rw [z] ; decide
    · exact (Nat.log2_lt z).mpr (Nat.lt_of_le_of_lt h (by decide)))
  show (Str.ofString (toString i)).length ≤ 2000
  rw [PySem.ofString_length]
  omega
theorem str_le {a b : Str} {n k : Nat} (h1 : a.length ≤ n) (h2 : b.length ≤ k) : (a ++ b).length ≤ n + k := by
  rw [Str.length_append] ; omega
theorem okm_three {m : List Int} (h : okMarks m) : ∃ a b c, m = [a, b, c] ∧ a.natAbs ≤ 1000000 ∧ b.natAbs ≤ 1000000 ∧ c.natAbs ≤ 1000000 := by
  obtain ⟨h1, h2⟩ := h
  match m, h1 with
  | [a, b, c], _ => exact ⟨a, b, c, rfl, by have := h2 a (by simp); omega, by have := h2 b (by simp); omega, by have := h2 c (by simp); omega⟩
theorem rows_len : ∀ {k : Nat} {t : Th} {d : Int}, Th.ok k t → (rowsM k d t).length ≤ 4 ^ k
  | 0, .mk m is, d, _ => Nat.le_refl 1
  | k + 1, .mk m is, d, ok => by
    have key : ∀ {is : List Th}, (∀ t ∈ is, Th.ok k t) → ((is.map (rowsM k (d + 1))).flatten).length ≤ is.length * 4 ^ k := by
      intro is
      induction is with
      | nil => intro _ ; simp
      | cons t is ihs =>
        intro h
        rw [List.map_cons, List.flatten_cons, List.length_append, List.length_cons, Nat.add_mul, Nat.one_mul]
        have h1 := rows_len (d := d + 1) (h t (List.mem_cons_self ..))
        have h2 := ihs fun t' ht' => h t' (List.mem_cons_of_mem _ ht')
        omega
    have h1 := key ok.2.2
    have h3 : is.length * 4 ^ k ≤ 3 * 4 ^ k := Nat.mul_le_mul_right _ ok.2.1
    have h4 : 0 < 4 ^ k := Nat.pow_pos (by decide)
    show (rowT d m :: (is.map (rowsM k (d + 1))).flatten).length ≤ 4 ^ (k + 1)
    rw [List.length_cons, Nat.pow_succ]
    omega
def spRows : Nat → Sp
  | 0 => fun _ _ _ _ => False
  | n + 1 => fun vs H Q _ => ∃ y t d, vs = [y, .int d] ∧ Tp H y (Th.d t) ∧ Th.ok n t ∧ 0 ≤ d ∧ d + n ≤ 2 ∧ ∀ (H' : Hp) (p : Addr), Same H H' → H p = none → H' p = some (.lst ((rowsM n d t).map V.str)) → Q (.ref p) H'
theorem rows_step (T : Txt K mg) {n : Nat} (ih : FnOk P w K mg base CX0 n T.thing_rows.f T.thing_rows.fd ["thing", "deep"] (spRows n)) : FnOk P w K mg base CX0 (n + 1) T.thing_rows.f T.thing_rows.fd ["thing", "deep"] (spRows (n + 1)) := by
  refine T.thing_rows.F.ok sc_thing_rows (fun vs H Q E h => ?_) (fun cdv A outer s H vs Q E hr h => ?_)
  · obtain ⟨y, t, d, rfl, _⟩ := h ; rfl
  obtain ⟨y, ⟨m, is⟩, d, rfl, hy, ok, hd0, hd2, q⟩ := h
  refine ⟨_, (pss_cons (ps_asg (pv 0) (pg_tupK (K := K) (n := 2) rfl rfl (pgs_cons (pg_name (i := 4) sc_thing_rows.nd rfl (by first | exact Or.inl rfl | exact Or.inr rfl)) (pgs_cons (pg_name (i := 5) sc_thing_rows.nd rfl (by first | exact Or.inl rfl | exact Or.inr rfl)) pgs_nil))))
  (pss_cons (ps_asg (pv 4) (pg_tupK (K := K) (n := 3) rfl rfl (pgs_cons (pg_name (i := 6) sc_thing_rows.nd rfl (by first | exact Or.inl rfl | exact Or.inr rfl)) (pgs_cons (pg_name (i := 7) sc_thing_rows.nd rfl (by first | exact Or.inl rfl | exact Or.inr rfl)) (pgs_cons (pg_name (i := 8) sc_thing_rows.nd rfl (by first | exact Or.inl rfl | exact Or.inr rfl)) pgs_nil)))))
  (pss_cons (ps_set (i := 2) sc_thing_rows.nd rfl (by first | exact Or.inl rfl | exact Or.inr rfl) (pe_lst (pa_cons (pe_joined (PJ.cons pe_str (PJ.cons (pe_fmt (pv 1)) (PJ.cons pe_str (PJ.cons (pe_fmt (pv 6)) (PJ.cons pe_str (PJ.cons (pe_fmt (pv 7)) (PJ.cons pe_str (PJ.cons (pe_fmt (pv 8)) PJ.nil))))))))) pa_nil)))
  (pss_cons (ps_for PassesOwn.never rfl (pi_tupK (K := K) rfl (pv 5)) (pg_name (i := 3) sc_thing_rows.nd rfl (by first | exact Or.inl rfl | exact Or.inr rfl))
  (pss_one (ps_expr (pe_bm PySem.F.plainAttrs_list PySem.F.slot_list_extend PySem.F.type_list_extend mt_extend (pv 2) (pa_cons (pe_call ih hr rfl T.thing_rows.m T.thing_rows.F.kp T.thing_rows.b .nil pass0 (pa_cons (pv 3) (pa_cons (pe_op op_add (pv 1) pe_int) pa_nil))) pa_nil)))))
  (pss_one (ps_ret (pv 2))))))), ?_⟩
  rw [Th.d_mk] at hy
  obtain ⟨a, xs, rfl, ha, hs⟩ := hy.tup_inv
  obtain ⟨vm, vi, rfl, hm, hi⟩ := hs.two
  obtain ⟨ai, xi, rfl, hai, hxi⟩ := hi.tup_inv
  obtain ⟨am, xm, rfl, ham, hxm⟩ := hm.tup_inv
  obtain ⟨x1, x2, x3, rfl, l1, l2, l3⟩ := okm_three ok.marks
  have z := hxm.ints ; subst z
  refine q_un2 (ev_var rfl) ha fun H1 e1 => ?_
  refine q_un3 (ev_var rfl) (ham.mono (Same.ts e1)) fun H2 e2 => ?_
  dsimp only
  have E2 := e1.trans e2
  have row : EvJ [tC (.str "thing "), tFmt (tVar 1), tC (.str " "), tFmt (tVar 6), tC (.str " "), tFmt (tVar 7), tC (.str " "), tFmt (tVar 8)] [some (.ref a), some (.int d), none, none, some (.ref am), some (.ref ai), some (.int x1), some (.int x2), some (.int x3)] H2 Str.empty (rowT d [x1, x2, x3]) := by
    have ld : d.natAbs ≤ 1000000 := by omega
    have sp : ((" " : Str)).length ≤ 1 := by decide
    have A1 : (Str.empty ++ ("thing " : Str)).length ≤ 0 + 6 := str_le (Nat.le_refl 0) (by decide)
    have A2 := str_le A1 (ts_len ld)
    have A3 := str_le A2 sp
    have A4 := str_le A3 (ts_len l1)
    have A5 := str_le A4 sp
    have A6 := str_le A5 (ts_len l2)
    have A7 := str_le A6 sp
    have A8 := str_le A7 (ts_len l3)
    have ss := sizeLine_eq
    exact ej_cons ev_c (by omega) (ej_cons (ev_fmt (ev_var rfl) ld) (by omega) (ej_cons ev_c (by omega) (ej_cons (ev_fmt (ev_var rfl) l1) (by omega) (ej_cons ev_c (by omega) (ej_cons (ev_fmt (ev_var rfl) l2) (by omega) (ej_cons ev_c (by omega) (ej_cons (ev_fmt (ev_var rfl) l3) (by omega) ej_nil)))))))
  refine q_asgL (el_lst (ea_cons (ev_js row) ea_nil) (by show 1 ≤ 100000; decide)) fun L H3 nL e3 h3 => ?_
  have E3 := E2.trans e3
  have nL : H L = none := fresh_back E2 nL
  have li : xi.length = is.length := by rw [hxi.length, List.length_map]
  have few := ok.few
  have okn : n = 0 ∧ is = [] ∨ ∃ k, n = k + 1 ∧ ∀ t ∈ is, Th.ok k t := by
    cases n with
    | zero => exact .inl ⟨rfl, ok.2⟩
    | succ k => exact .inr ⟨k, rfl, ok.2.2⟩
  have lx : ∀ j, j ≤ is.length → ((rowT d [x1, x2, x3] :: ((is.take j).map (rowsM (n - 1) (d + 1))).flatten)).length ≤ 1 + j * 4 ^ (n - 1) := fun j hj => by
    rcases okn with ⟨_, z⟩ | ⟨k, rfl, okk⟩
    · subst z ; simp
    · rw [List.length_cons]
      have key : ∀ {is : List Th}, (∀ t ∈ is, Th.ok k t) → ((is.map (rowsM k (d + 1))).flatten).length ≤ is.length * 4 ^ k := by
        intro is
        induction is with
        | nil => intro _ ; simp
        | cons t is ihs =>
          intro h
          rw [List.map_cons, List.flatten_cons, List.length_append, List.length_cons, Nat.add_mul, Nat.one_mul]
          have h1 := rows_len (d := d + 1) (h t (List.mem_cons_self ..))
          have h2 := ihs fun t' ht' => h t' (List.mem_cons_of_mem _ ht')
          omega
      have := key (is := is.take j) fun t ht => okk t (List.mem_of_mem_take ht)
      rw [List.length_take, Nat.min_eq_left hj] at this
      show _ + 1 ≤ 1 + j * 4 ^ k
      have e : k + 1 - 1 = k := by omega
      rw [e]
      omega
  have p16 : 4 ^ (n - 1) ≤ 16 := Nat.le_trans (Nat.pow_le_pow_right (by decide) (show n - 1 ≤ 2 by omega)) (by decide)
  refine q_forT (a := ai) (xs := xi) (ev_var rfl) (hai.mono (Same.ts E3)).sq (fun j σ H' => (∃ y3 : Option V, σ = [some (.ref a), some (.int d), some (.ref L), y3, some (.ref am), some (.ref ai), some (.int x1), some (.int x2), some (.int x3)]) ∧ Same H H' ∧ H' L = some (.lst ((rowT d [x1, x2, x3] :: ((is.take j).map (rowsM (n - 1) (d + 1))).flatten).map V.str)))
    (fun H4 e4 => ⟨⟨_, rfl⟩, E3.trans e4, e4 _ _ h3⟩) (fun j σ' H' _ p => (hai.mono (Same.ts p.2.1)).sq) (fun j x σ' H' hx p => ?_) (fun σ' H' p => ?_)
  · obtain ⟨⟨y3, rfl⟩, e, hL⟩ := p
    obtain ⟨dt, h1, h2⟩ := (hxi.mono (Same.ts e)).get hx
    rw [List.getElem?_map, Option.map_eq_some_iff] at h1
    obtain ⟨t, ht, rfl⟩ := h1
    have hti : t ∈ is := List.mem_of_getElem? ht
    have hj : j < is.length := (List.getElem?_eq_some_iff.mp ht).1
    rcases okn with ⟨_, z⟩ | ⟨k, rfl, okk⟩
    · rw [z] at hti ; cases hti
    refine g_name ?_
    dsimp only
    refine ⟨.ref L, rfl, .inl ⟨rfl, _, SqL.of hL⟩, ?_⟩
    refine g_cons ?_
    refine ⟨x, rfl, ?_⟩
    refine g_cons (g_op ?_)
    refine ⟨.int d, rfl, _, _, rfl, rfl, ?_⟩
    refine g_nil ?_
    refine ⟨x, t, d + 1, rfl, h2, okk t hti, by omega, by omega, fun H6 p6 e6 np6 h6 => ?_⟩
    refine g_nil ?_
    have hL6 := e6 _ _ hL
    have l1' := lx j (by omega)
    have l2' := rows_len (d := d + 1) (okk t hti)
    have e1' : k + 1 - 1 = k := by omega
    rw [e1'] at l1' p16
    have l3' : j * 4 ^ k ≤ 3 * 16 := Nat.mul_le_mul (by omega) p16
    have l4' : 4 ^ k ≤ 16 := p16
    refine ⟨L, p6, _, _, rfl, rfl, hL6, h6, by rw [sizeLine_eq, List.length_map, List.length_map]; rw [e1'] ; omega, ?_⟩
    refine ⟨⟨_, rfl⟩, Same.put (e.trans e6) nL, ?_⟩
    have eq : (rowT d [x1, x2, x3] :: ((is.take (j + 1)).map (rowsM (k + 1 - 1) (d + 1))).flatten) = (rowT d [x1, x2, x3] :: ((is.take j).map (rowsM (k + 1 - 1) (d + 1))).flatten) ++ rowsM k (d + 1) t := by
      rw [List.take_add_one, ht, Option.toList_some, e1', List.map_append, List.flatten_append, List.cons_append]
      congr 2
      show ([rowsM k (d + 1) t]).flatten = _
      rw [List.flatten_cons, List.flatten_nil, List.append_nil]
    rw [upd_same, eq, List.map_append]
  · obtain ⟨⟨y3, rfl⟩, e, hL⟩ := p
    rw [li, List.take_length] at hL
    refine s_ret (ev_var rfl) fun H4 e4 => q H4 L (e.trans e4) nL ?_
    rw [e4 _ _ hL]
    rcases okn with ⟨rfl, rfl⟩ | ⟨k, rfl, okk⟩
    · rfl
    · rfl
theorem ok_thing_rows (T : Txt K mg) : ∀ n, FnOk P w K mg base CX0 n T.thing_rows.f T.thing_rows.fd ["thing", "deep"] (spRows n)
  | 0 => ⟨fun vs H Q E h => h.elim, fun A outer s H args us vs Q E _ _ _ _ h => h.elim⟩
  | n + 1 => rows_step T (ok_thing_rows T n)


end
end Dm
namespace Dm
open PySem PySem.Spec PyProof.Rows L2 Evl
section
variable {P : Program} {w : World} {K : PySem.W.Frag} {mg : Str → Option Value} {base : Heap}
/-! ### helper_rows, check_counted -/
def rowC (c : List Int × Int) : Str := match c.1 with
  | [x, y, z] => ((((((((Str.empty ++ (("claim " : Str))) ++ tsI x) ++ ((" " : Str))) ++ tsI y) ++ ((" " : Str))) ++ tsI z) ++ ((" " : Str))) ++ tsI c.2)
  | _ => Str.empty
def rowHd (r : Int) : Str := (Str.empty ++ ("helper " : Str)) ++ tsI r
def rowsH (cs : List (List Int × Int)) (r : Int) : List Str := rowHd r :: cs.map rowC
def spHRows : Sp := fun vs H Q _ => ∃ x cs r, vs = [x, .int r] ∧ Tp H x (clsD cs) ∧ okClaims cs ∧ 0 ≤ r ∧ r ≤ 4 ∧ ∀ (H' : Hp) (p : Addr), Same H H' → H p = none → H' p = some (.lst ((rowsH cs r).map V.str)) → Q (.ref p) H'
theorem ok_helper_rows (T : Txt K mg) : FnOk P w K mg base CX0 1 T.helper_rows.f T.helper_rows.fd ["claims", "room"] spHRows := by
  refine T.helper_rows.F.ok sc_helper_rows (fun vs H Q E h => ?_) (fun cdv A outer s H vs Q E hr h => ?_)
  · obtain ⟨x, cs, r, rfl, _⟩ := h ; rfl
  obtain ⟨x, cs, r, rfl, hx, ok, r0, r4, q⟩ := h
  refine ⟨_, (pss_cons (ps_set (i := 2) sc_helper_rows.nd rfl (by first | exact Or.inl rfl | exact Or.inr rfl) (pe_lst (pa_cons (pe_joined (PJ.cons pe_str (PJ.cons (pe_fmt (pv 1)) PJ.nil))) pa_nil)))
  (pss_cons (ps_for PassesOwn.never rfl (pi_tupK (K := K) rfl (pv 0)) (pg_tupK (K := K) (n := 2) rfl rfl (pgs_cons (pg_name (i := 3) sc_helper_rows.nd rfl (by first | exact Or.inl rfl | exact Or.inr rfl)) (pgs_cons (pg_name (i := 4) sc_helper_rows.nd rfl (by first | exact Or.inl rfl | exact Or.inr rfl)) pgs_nil)))
  (pss_cons (ps_asg (pv 3) (pg_tupK (K := K) (n := 3) rfl rfl (pgs_cons (pg_name (i := 5) sc_helper_rows.nd rfl (by first | exact Or.inl rfl | exact Or.inr rfl)) (pgs_cons (pg_name (i := 6) sc_helper_rows.nd rfl (by first | exact Or.inl rfl | exact Or.inr rfl)) (pgs_cons (pg_name (i := 7) sc_helper_rows.nd rfl (by first | exact Or.inl rfl | exact Or.inr rfl)) pgs_nil)))))
  (pss_one (ps_expr (pe_bm PySem.F.plainAttrs_list PySem.F.slot_list_append PySem.F.type_list_append mt_append (pv 2) (pa_cons (pe_joined (PJ.cons pe_str (PJ.cons (pe_fmt (pv 5)) (PJ.cons pe_str (PJ.cons (pe_fmt (pv 6)) (PJ.cons pe_str (PJ.cons (pe_fmt (pv 7)) (PJ.cons pe_str (PJ.cons (pe_fmt (pv 4)) PJ.nil))))))))) pa_nil))))))
  (pss_one (ps_ret (pv 2))))), ?_⟩
  obtain ⟨a, xs, rfl, ha, hs⟩ := hx.tup_inv
  have lx : xs.length = cs.length := by rw [hs.length, List.length_map]
  have lr : r.natAbs ≤ 1000000 := by omega
  have ss := sizeLine_eq
  have A1 : (Str.empty ++ ("helper " : Str)).length ≤ 0 + 7 := str_le (Nat.le_refl 0) (by decide)
  have A2 := str_le A1 (ts_len lr)
  refine q_asgL (el_lst (ea_cons (ev_js (out := rowHd r) (ej_cons ev_c (by omega) (ej_cons (ev_fmt (ev_var rfl) lr) (by omega) ej_nil))) ea_nil) (by show 1 ≤ 100000; decide)) fun L H3 nL e3 h3 => ?_
  refine q_forT (a := a) (xs := xs) (ev_var rfl) (ha.mono (Same.ts e3)).sq (fun j σ H' => (∃ y3 y4 y5 y6 y7 : Option V, σ = [some (.ref a), some (.int r), some (.ref L), y3, y4, y5, y6, y7]) ∧ Same H H' ∧ H' L = some (.lst ((rowHd r :: (cs.take j).map rowC).map V.str)))
    (fun H4 e4 => ⟨⟨_, _, _, _, _, rfl⟩, e3.trans e4, e4 _ _ h3⟩) (fun j σ' H' _ p => (ha.mono (Same.ts p.2.1)).sq) (fun j x σ' H' hx p => ?_) (fun σ' H' p => ?_)
  · obtain ⟨⟨y3, y4, y5, y6, y7, rfl⟩, e, hL⟩ := p
    obtain ⟨dt, h1, h2⟩ := (hs.mono (Same.ts e)).get hx
    rw [List.getElem?_map, Option.map_eq_some_iff] at h1
    obtain ⟨c, hc, rfl⟩ := h1
    have hj : j < cs.length := (List.getElem?_eq_some_iff.mp hc).1
    obtain ⟨c1, c2, c3, c4⟩ := ok.2 c (List.mem_of_getElem? hc)
    have l6 := ok.1
    obtain ⟨b, zs, rfl, hb, hzs⟩ := h2.tup_inv
    obtain ⟨vn, vw, rfl, hvn, hvw⟩ := hzs.two
    have z := hvw.int_inv ; subst z
    obtain ⟨m, xm, rfl, hm, hxm⟩ := hvn.tup_inv
    obtain ⟨w, k⟩ := c
    dsimp only at c1 c2 c3 c4 hxm
    match w, c1, c2, hxm, hc with
    | [x1, x2, x3], _, c2, hxm, hc =>
      have z := hxm.ints ; subst z
      have l1 : x1.natAbs ≤ 1000000 := by have := c2 x1 (by simp); omega
      have l2 : x2.natAbs ≤ 1000000 := by have := c2 x2 (by simp); omega
      have l3 : x3.natAbs ≤ 1000000 := by have := c2 x3 (by simp); omega
      have l4 : k.natAbs ≤ 1000000 := by omega
      refine g_un2 hb.sq ?_
      try dsimp only
      refine q_un3 (ev_var rfl) hm fun H5 e5 => ?_
      have sp : ((" " : Str)).length ≤ 1 := by decide
      have B1 : (Str.empty ++ ("claim " : Str)).length ≤ 0 + 6 := str_le (Nat.le_refl 0) (by decide)
      have B2 := str_le B1 (ts_len l1)
      have B3 := str_le B2 sp
      have B4 := str_le B3 (ts_len l2)
      have B5 := str_le B4 sp
      have B6 := str_le B5 (ts_len l3)
      have B7 := str_le B6 sp
      have B8 := str_le B7 (ts_len l4)
      refine s_appE (l := L) (v := .str (rowC ([x1, x2, x3], k))) (e5 _ _ hL) (ev_var rfl) (ev_js (ej_cons ev_c (by omega) (ej_cons (ev_fmt (ev_var rfl) l1) (by omega) (ej_cons ev_c (by omega) (ej_cons (ev_fmt (ev_var rfl) l2) (by omega) (ej_cons ev_c (by omega) (ej_cons (ev_fmt (ev_var rfl) l3) (by omega) (ej_cons ev_c (by omega) (ej_cons (ev_fmt (ev_var rfl) l4) (by omega) ej_nil))))))))) (by rw [List.length_map, List.length_cons, List.length_map, List.length_take]; omega) fun H6 e6 => ?_
      refine ⟨⟨_, _, _, _, _, rfl⟩, Same.put (e.trans (e5.trans e6)) nL, ?_⟩
      rw [upd_same, List.take_add_one, hc, Option.toList_some, List.map_append, ← List.cons_append, List.map_append]
      rfl
  · obtain ⟨⟨y3, y4, y5, y6, y7, rfl⟩, e, hL⟩ := p
    rw [lx, List.take_length] at hL
    exact s_ret (ev_var rfl) fun H4 e4 => q H4 L (e.trans e4) nL (e4 _ _ hL)


end
end Dm
namespace Dm
open PySem PySem.Spec PyProof.Rows L2 Evl
section
variable {P : Program} {w : World} {K : PySem.W.Frag} {mg : Str → Option Value} {base : Heap}
/-! ### check_counted, written -/
def spCounted (K : PySem.W.Frag) : Sp := PV fun vs H v => ∃ (a : Addr) (n : Nat), vs = [.ref a] ∧ SqL K H a ((List.range n).map fun (i : Nat) => V.int (i : Int)) ∧ n ≤ 1000 ∧ v = .non
theorem ok_check_counted (T : Txt K mg) : FnOk P w K mg base CX0 2 T.check_counted.f T.check_counted.fd ["numbers"] (spCounted K) := by
  refine T.check_counted.F.ok sc_check_counted (fun vs H Q E h => ?_) (fun cdv A outer s H vs Q E hr h => ?_)
  · obtain ⟨v, ⟨a, n, rfl, _⟩, _⟩ := h ; rfl
  obtain ⟨v, ⟨a, n, rfl, ha, hn, rfl⟩, q⟩ := h
  refine ⟨_, (pss_one (ps_for PassesOwn.never rfl (pi_enum rfl T.z_enumerate (pa_cons (pv 0) pa_nil)) (pg_tupK (K := K) (n := 2) rfl rfl (pgs_cons (pg_name (i := 1) sc_check_counted.nd rfl (by first | exact Or.inl rfl | exact Or.inr rfl)) (pgs_cons (pg_name (i := 2) sc_check_counted.nd rfl (by first | exact Or.inl rfl | exact Or.inr rfl)) pgs_nil)))
  (pss_one (ps_if (pt_not (pt_val (pe_call (ok_is_number T) (hr.mono (by decide)) rfl T.is_number.m T.is_number.F.kp T.is_number.b .nil pass0 (pa_cons (pv 2) (pa_cons (pv 1) (pa_cons (pv 1) pa_nil)))))) (pss_one ps_never) pss_nil)))), ?_⟩
  refine ⟨.ref a, rfl, a, _, rfl, ha, for_enumL (K := K) (xs := (List.range n).map fun (i : Nat) => V.int (i : Int)) (fun i σ H' => (∃ y z, σ = [some (.ref a), y, z]) ∧ Same H H') ⟨⟨none, none, rfl⟩, Same.refl H⟩ (fun i σ H' _ p => ex_l p.2 ha) (fun i x T' σ H' hx p hT => ?_) (fun σ H' p => q H' p.2)⟩
  obtain ⟨⟨y, z, rfl⟩, e⟩ := p
  rw [List.getElem?_map, Option.map_eq_some_iff] at hx
  obtain ⟨k, hk, rfl⟩ := hx
  have hi : i < n := by
    have := (List.getElem?_eq_some_iff.mp hk).1
    rwa [List.length_range] at this
  rw [List.getElem?_range hi] at hk
  have := Option.some.inj hk
  subst this
  have e' : Same H (upd H' T' (.tup [.int (i : Nat), .int (i : Int)])) := e.trans (Same.new hT)
  refine g_un2 (SqT.of upd_same) ?_
  have hn1 : isNum (i : Int) (i : Int) (.int (i : Int)) = true := by
    show (decide ((i : Int) ≤ (i : Int)) && decide ((i : Int) ≤ (i : Int))) = true
    rw [decide_eq_true (Int.le_refl _)] ; rfl
  refine s_when (b := !true) (et_not (et_B (ev_is (ev_pv (ea_cons (ev_var rfl) (ea_cons (ev_var rfl) (ea_cons (ev_var rfl) ea_nil))) fun H3 e3 => ⟨.int (i : Int), .int (i : Int), (i : Int), (i : Int), rfl, .int _, rfl⟩) (by rw [hn1])))) (fun z => nomatch z) (fun _ H1 e1 => ⟨⟨_, _, rfl⟩, e'.trans e1⟩)
def rowsW (ts : List (Int × Th)) (hs : List Hlp) : List Str := (ts.map fun t => rowsM 2 0 t.2).flatten ++ (hs.map fun h => rowsH h.2.1 h.2.2).flatten
theorem rowT_len {d : Int} {m : List Int} (hd : d.natAbs ≤ 1000000) (ok : okMarks m) : (rowT d m).length ≤ 10000 := by
  obtain ⟨a, b, c, rfl, l1, l2, l3⟩ := okm_three ok
  have sp : ((" " : Str)).length ≤ 1 := by decide
  have A1 : (Str.empty ++ ("thing " : Str)).length ≤ 0 + 6 := str_le (Nat.le_refl 0) (by decide)
  have A8 := str_le (str_le (str_le (str_le (str_le (str_le (str_le A1 (ts_len hd)) sp) (ts_len l1)) sp) (ts_len l2)) sp) (ts_len l3)
  exact Nat.le_trans A8 (by decide)
theorem rowsM_all : ∀ {k : Nat} {d : Int} {t : Th}, Th.ok k t → 0 ≤ d → d + k ≤ 2 → ∀ r ∈ rowsM k d t, r.length ≤ 10000
  | 0, d, .mk m is, ok, h0, h2, r, hr => by
    rw [List.mem_singleton.mp hr]
    exact rowT_len (by omega) ok.1
  | k + 1, d, .mk m is, ok, h0, h2, r, hr => by
    rcases List.mem_cons.mp hr with z | z
    · rw [z] ; exact rowT_len (by omega) ok.1
    · obtain ⟨l, hl, hrl⟩ := List.mem_flatten.mp z
      obtain ⟨t, ht, rfl⟩ := List.mem_map.mp hl
      exact rowsM_all (ok.2.2 t ht) (by omega) (by omega) r hrl
theorem rowsH_all {cs : List (List Int × Int)} {r : Int} (ok : okClaims cs) (h0 : 0 ≤ r) (h4 : r ≤ 4) : (∀ x ∈ rowsH cs r, x.length ≤ 10000) ∧ (rowsH cs r).length ≤ 7 := by
  refine ⟨fun x hx => ?_, by unfold rowsH; rw [List.length_cons, List.length_map]; have := ok.1; omega⟩
  rcases List.mem_cons.mp hx with z | z
  · rw [z]
    exact Nat.le_trans (str_le (str_le (n := 0) (k := 7) (Nat.le_refl 0) (by decide)) (ts_len (by omega))) (by decide)
  · obtain ⟨c, hc, rfl⟩ := List.mem_map.mp z
    obtain ⟨c1, c2, c3, c4⟩ := ok.2 c hc
    obtain ⟨w, k⟩ := c
    match w, c1, c2 with
    | [x1, x2, x3], _, c2 =>
      have l1 : x1.natAbs ≤ 1000000 := by have := c2 x1 (by simp); omega
      have l2 : x2.natAbs ≤ 1000000 := by have := c2 x2 (by simp); omega
      have l3 : x3.natAbs ≤ 1000000 := by have := c2 x3 (by simp); omega
      have l4 : k.natAbs ≤ 1000000 := by dsimp only at c3 c4; omega
      have sp : ((" " : Str)).length ≤ 1 := by decide
      have A1 : (Str.empty ++ ("claim " : Str)).length ≤ 0 + 6 := str_le (Nat.le_refl 0) (by decide)
      have A8 := str_le (str_le (str_le (str_le (str_le (str_le (str_le A1 (ts_len l1)) sp) (ts_len l2)) sp) (ts_len l3)) sp) (ts_len l4)
      exact Nat.le_trans A8 (by decide)


end
end Dm
namespace Dm
open PySem PySem.Spec PyProof.Rows L2 Evl
section
variable {P : Program} {w : World} {K : PySem.W.Frag} {mg : Str → Option Value} {base : Heap}
/-! ### written -/
theorem tg_item13 {H1 : Hp} {xs : List V} {ts : List (Int × Th)} (h : Tps H1 xs (ts.map tgD)) {i : Nat} {x : V} (hx : xs[i]? = some x) : ∃ (t : Int × Th) (b : Addr) (y : V), ts[i]? = some t ∧ x = .ref b ∧ TupAt H1 b [.int t.1, y] ∧ Tp H1 y t.2.d := by
  obtain ⟨d, h1, h2⟩ := h.get hx
  rw [List.getElem?_map, Option.map_eq_some_iff] at h1
  obtain ⟨t, ht, rfl⟩ := h1
  obtain ⟨b, ys, rfl, hb, hys⟩ := h2.tup_inv
  obtain ⟨n, y, rfl, hn, hy⟩ := hys.two
  rw [hn.int_inv] at hb
  exact ⟨t, b, y, ht, rfl, hb, hy⟩
/-- numbers from 0 on -/
def From0 (ns : List Int) : Prop := ns = (List.range ns.length).map fun (i : Nat) => (i : Int)
theorem From0.vs {ns : List Int} (h : From0 ns) : ns.map V.int = (List.range ns.length).map fun (i : Nat) => V.int (i : Int) := by
  have := congrArg (List.map V.int) h
  rw [List.map_map] at this
  exact this
theorem flat_len {α : Type} {f : α → List Str} {k : Nat} : ∀ {l : List α}, (∀ a ∈ l, (f a).length ≤ k) → ((l.map f).flatten).length ≤ l.length * k
  | [], _ => Nat.zero_le _
  | a :: l, h => by
    rw [List.map_cons, List.flatten_cons, List.length_append, List.length_cons, Nat.add_mul, Nat.one_mul]
    have h1 := h a (List.mem_cons_self ..)
    have h2 := flat_len fun b hb => h b (List.mem_cons_of_mem _ hb)
    omega
theorem sum_le {k : Nat} : ∀ {l : List Str}, (∀ x ∈ l, x.length ≤ k) → (l.map (·.length)).sum ≤ l.length * k
  | [], _ => Nat.zero_le _
  | a :: l, h => by
    rw [List.map_cons, List.sum_cons, List.length_cons, Nat.add_mul, Nat.one_mul]
    have h1 := h a (List.mem_cons_self ..)
    have h2 := sum_le fun b hb => h b (List.mem_cons_of_mem _ hb)
    omega
theorem flat_snoc {α : Type} {f : α → List Str} {l : List α} {i : Nat} {a : α} (h : l[i]? = some a) : ((l.take (i + 1)).map f).flatten = ((l.take i).map f).flatten ++ f a := by
  rw [List.take_add_one, h, Option.toList_some, List.map_append, List.flatten_append]
  show _ ++ ([f a]).flatten = _
  rw [List.flatten_cons, List.flatten_nil, List.append_nil]
def spWritten (K : PySem.W.Frag) : Sp := fun vs H Q _ => ∃ (a b : Addr) (xs ys : List V) (ts : List (Int × Th)) (hs : List Hlp), vs = [.ref a, .ref b] ∧ SqL K H a xs ∧ Tps H xs (ts.map tgD) ∧ SqL K H b ys ∧ Tps H ys (hs.map hpD) ∧ OkThings ts ∧ OkHelpers hs ∧ From0 (ts.map (·.1)) ∧ From0 (hs.map (·.1)) ∧
  ∀ (H' : Hp), Same H H' → Q (.str (Txt.join ("\n" : Str) (rowsW ts hs))) H'
theorem ok_written (T : Txt K mg) : FnOk P w K mg base CX0 7 T.written.f T.written.fd ["things", "helpers"] (spWritten K) := by
  refine T.written.F.ok sc_written (fun vs H Q E h => ?_) (fun cdv A outer s H vs Q E hr h => ?_)
  · obtain ⟨a, b, xs, ys, ts, hs, rfl, _⟩ := h ; rfl
  obtain ⟨a, b, xs, ys, ts, hs, rfl, ha, tx, hb, ty, okt, okh, f1, f2, q⟩ := h
  refine ⟨_, (pss_cons (ps_expr (pe_call (ok_check_counted T) (hr.mono (by decide)) rfl T.check_counted.m T.check_counted.F.kp T.check_counted.b .nil pass0 (pa_cons (pe_lc (own := [("number", 8), ("_", 3)]) rfl sc_written.nd (pi_listK (K := K) rfl (pv 0)) (blkOk_by (own := [("number", 8), ("_", 3)]) (N := ["things", "helpers", "rows", "_", "thing", "claims", "room", "helper", "number"]) (sc := defScope s_written) (by decide +kernel)) (fun _ _ _ _ _ => by exact (pg_tupK (K := K) (n := 2) rfl rfl (pgs_cons (pg_name (i := 8) sc_written.nd rfl (by first | exact Or.inl rfl | exact Or.inr rfl)) (pgs_cons (pg_name (i := 3) sc_written.nd rfl (by first | exact Or.inl rfl | exact Or.inr rfl)) pgs_nil)))) (fun _ _ _ _ _ => pts_nil) (fun _ _ _ _ _ => (pv 8))) pa_nil)))
  (pss_cons (ps_expr (pe_call (ok_check_things T) (hr.mono (by decide)) rfl T.check_things.m T.check_things.F.kp T.check_things.b .nil pass0 (pa_cons (pv 0) pa_nil)))
  (pss_cons (ps_expr (pe_call (ok_check_counted T) (hr.mono (by decide)) rfl T.check_counted.m T.check_counted.F.kp T.check_counted.b .nil pass0 (pa_cons (pe_lc (own := [("helper", 7)]) rfl sc_written.nd (pi_listK (K := K) rfl (pv 1)) (blkOk_by (own := [("helper", 7)]) (N := ["things", "helpers", "rows", "_", "thing", "claims", "room", "helper", "number"]) (sc := defScope s_written) (by decide +kernel)) (fun _ _ _ _ _ => by exact (pg_name (i := 7) sc_written.nd rfl (by first | exact Or.inl rfl | exact Or.inr rfl))) (fun _ _ _ _ _ => pts_nil) (fun _ _ _ _ _ => (pe_ix (ixK (K := K) rfl) (pv 7) pe_int (fun _ _ => rfl)))) pa_nil)))
  (pss_cons (ps_expr (pe_call (ok_check_helpers T) (hr.mono (by decide)) rfl T.check_helpers.m T.check_helpers.F.kp T.check_helpers.b .nil pass0 (pa_cons (pv 1) pa_nil)))
  (pss_cons (ps_set (i := 2) sc_written.nd rfl (by first | exact Or.inl rfl | exact Or.inr rfl) (pe_lst pa_nil))
  (pss_cons (ps_for PassesOwn.never rfl (pi_listK (K := K) rfl (pv 0)) (pg_tupK (K := K) (n := 2) rfl rfl (pgs_cons (pg_name (i := 3) sc_written.nd rfl (by first | exact Or.inl rfl | exact Or.inr rfl)) (pgs_cons (pg_name (i := 4) sc_written.nd rfl (by first | exact Or.inl rfl | exact Or.inr rfl)) pgs_nil)))
  (pss_one (ps_expr (pe_bm PySem.F.plainAttrs_list PySem.F.slot_list_extend PySem.F.type_list_extend mt_extend (pv 2) (pa_cons (pe_call (ok_thing_rows T 3) (hr.mono (by decide)) rfl T.thing_rows.m T.thing_rows.F.kp T.thing_rows.b .nil pass0 (pa_cons (pv 4) (pa_cons pe_int pa_nil))) pa_nil)))))
  (pss_cons (ps_for PassesOwn.never rfl (pi_listK (K := K) rfl (pv 1)) (pg_tupK (K := K) (n := 3) rfl rfl (pgs_cons (pg_name (i := 3) sc_written.nd rfl (by first | exact Or.inl rfl | exact Or.inr rfl)) (pgs_cons (pg_name (i := 5) sc_written.nd rfl (by first | exact Or.inl rfl | exact Or.inr rfl)) (pgs_cons (pg_name (i := 6) sc_written.nd rfl (by first | exact Or.inl rfl | exact Or.inr rfl)) pgs_nil))))
  (pss_one (ps_expr (pe_bm PySem.F.plainAttrs_list PySem.F.slot_list_extend PySem.F.type_list_extend mt_extend (pv 2) (pa_cons (pe_call (ok_helper_rows T) (hr.mono (by decide)) rfl T.helper_rows.m T.helper_rows.F.kp T.helper_rows.b .nil pass0 (pa_cons (pv 5) (pa_cons (pv 6) pa_nil))) pa_nil)))))
  (pss_one (ps_ret (pe_join pe_str (pv 2))))))))))), ?_⟩
  have lx : xs.length = ts.length := by rw [tx.length, List.length_map]
  have ly : ys.length = hs.length := by rw [ty.length, List.length_map]
  have l16 : ts.length ≤ 16 := by have := okt.nums.len; rwa [List.length_map] at this
  have h16 : hs.length ≤ 16 := by have := okh.nums.len; rwa [List.length_map] at this
  refine g_seq ?_
  refine ⟨.ref a, rfl, a, rfl, ⟨xs, ha⟩, fun L hL => ?_⟩
  refine lc_list (xs := xs) (fun i H' => Same H H' ∧ H' L = some (.lst (((ts.map (·.1)).take i).map V.int))) ⟨Same.new hL, by rw [List.take_zero]; exact upd_same⟩ (fun i H' _ p => ex_l p.1 ha) (fun i x H' hx p => ?_) (fun H1 p => ?_)
  · obtain ⟨e1, e2⟩ := p
    obtain ⟨t, b, y, ht, rfl, hb, _⟩ := tg_item13 (tx.mono (Same.ts e1)) hx
    refine g_un2 hb.sq ⟨rfl, ?_⟩
    refine ⟨.int t.1, rfl, _, e2, sz_lt (by rw [List.length_map, List.length_take, List.length_map]; omega), fun b u hb => by rw [upd_ne (ne_of_none hb hL)]; exact e1 b u hb, ?_⟩
    rw [upd_same, List.take_add_one, List.getElem?_map, ht] ; simp
  obtain ⟨e1, e2⟩ := p
  rw [lx, List.take_of_length_le (by rw [List.length_map]; exact Nat.le_refl _), f1.vs] at e2
  refine ⟨.non, ⟨L, (ts.map (·.1)).length, rfl, SqL.of e2, by rw [List.length_map]; omega, rfl⟩, fun H2 e3 => ?_⟩
  have E2 : Same H H2 := e1.trans e3
  try dsimp only
  refine q_drop (ev_pv (ea_cons (ev_var rfl) ea_nil) fun H5 e5 => ⟨a, xs, ts, rfl, ex_l (E2.trans e5) ha, tx.mono (Same.ts (E2.trans e5)), okt, rfl⟩) fun H3 e3' => ?_
  have E3 := E2.trans e3'
  -- helpers' numbers
  refine g_seq ?_
  refine ⟨.ref b, rfl, b, rfl, ⟨ys, ex_l E3 hb⟩, fun L2 hL2 => ?_⟩
  refine lc_list (xs := ys) (fun i H' => Same H3 H' ∧ H' L2 = some (.lst (((hs.map (·.1)).take i).map V.int))) ⟨Same.new hL2, by rw [List.take_zero]; exact upd_same⟩ (fun i H' _ p => ex_l (E3.trans p.1) hb) (fun i x H' hx p => ?_) (fun H4 p => ?_)
  · obtain ⟨e1, e2⟩ := p
    obtain ⟨t, b, y, ht, rfl, hb, _⟩ := hp_item (ty.mono (Same.ts (E3.trans e1))) hx
    refine ⟨rfl, ?_⟩
    refine ⟨.ref b, rfl, ?_⟩
    refine g_c (.inr (.inl ⟨b, _, 0, .int t.1, rfl, rfl, hb.sq, rfl, ?_⟩))
    refine ⟨_, e2, sz_lt (by rw [List.length_map, List.length_take, List.length_map]; omega), fun b u hb => by rw [upd_ne (ne_of_none hb hL2)]; exact e1 b u hb, ?_⟩
    rw [upd_same, List.take_add_one, List.getElem?_map, ht] ; simp
  obtain ⟨e4, e5⟩ := p
  rw [ly, List.take_of_length_le (by rw [List.length_map]; exact Nat.le_refl _), f2.vs] at e5
  refine ⟨.non, ⟨L2, (hs.map (·.1)).length, rfl, SqL.of e5, by rw [List.length_map]; omega, rfl⟩, fun H5 e6 => ?_⟩
  have E5 := (E3.trans e4).trans e6
  try dsimp only
  refine q_drop (ev_pv (ea_cons (ev_var rfl) ea_nil) fun H6 e7 => ⟨b, ys, hs, rfl, ex_l (E5.trans e7) hb, ty.mono (Same.ts (E5.trans e7)), okh, rfl⟩) fun H6 e7 => ?_
  have E6 := E5.trans e7
  refine q_asgL (el_lst ea_nil (by decide)) fun R H7 nR e8 h7 => ?_
  have E7 := E6.trans e8
  have nR0 : H R = none := fresh_back E6 nR
  have lt_ : ∀ t ∈ ts, (rowsM 2 0 t.2).length ≤ 16 := fun t ht => rows_len (okt.ok t ht)
  have lh_ : ∀ h ∈ hs, (rowsH h.2.1 h.2.2).length ≤ 7 := fun h hh => (rowsH_all (okh.ok h hh).1 (okh.ok h hh).2.1 (okh.ok h hh).2.2).2
  refine q_forL (K := K) (a := a) (xs := xs) (ev_var rfl) (ex_l E7 ha) (fun i σ H' => (∃ y3 y4 y5 y6 y7 y8 : Option V, σ = [some (.ref a), some (.ref b), some (.ref R), y3, y4, y5, y6, y7, y8]) ∧ Same H H' ∧ H' R = some (.lst ((((ts.take i).map fun t => rowsM 2 0 t.2).flatten).map V.str))) (fun H8 e9 => ⟨⟨_, _, _, _, _, _, rfl⟩, E7.trans e9, e9 _ _ h7⟩) (fun i σ H' _ p => ex_l p.2.1 ha) (fun i x σ H' hx p => ?_) (fun σ H' p => ?_)
  · obtain ⟨⟨y3, y4, y5, y6, y7, y8, rfl⟩, e, hR⟩ := p
    obtain ⟨t, b', y, ht, rfl, hb', hy⟩ := tg_item13 (tx.mono (Same.ts e)) hx
    have htm := List.mem_of_getElem? ht
    have hi : i < ts.length := (List.getElem?_eq_some_iff.mp ht).1
    refine g_un2 hb'.sq ?_
    try dsimp only
    refine ⟨.ref R, rfl, .inl ⟨rfl, _, SqL.of hR⟩, ?_⟩
    refine g_cons ?_
    refine ⟨y, rfl, ?_⟩
    refine ⟨y, t.2, 0, rfl, hy, okt.ok t htm, by decide, by decide, fun H8 p8 e8 np8 h8 => ?_⟩
    have l1 := flat_len (f := fun t : Int × Th => rowsM 2 0 t.2) (l := ts.take i) (k := 16) fun t ht => lt_ t (List.mem_of_mem_take ht)
    have l2 := lt_ t htm
    rw [List.length_take] at l1
    refine ⟨R, p8, _, _, rfl, rfl, e8 _ _ hR, h8, by rw [sizeLine_eq, List.length_map, List.length_map]; exact Nat.le_trans (Nat.add_le_add l1 l2) (by omega), ?_⟩
    refine ⟨⟨_, _, _, _, _, _, rfl⟩, Same.put (e.trans e8) nR0, ?_⟩
    rw [upd_same, flat_snoc ht, List.map_append]
  obtain ⟨⟨y3, y4, y5, y6, y7, y8, rfl⟩, e9, hR⟩ := p
  rw [lx, List.take_length] at hR
  have l1 := flat_len (f := fun t : Int × Th => rowsM 2 0 t.2) (l := ts) (k := 16) lt_
  refine q_forL (K := K) (a := b) (xs := ys) (ev_var rfl) (ex_l e9 hb) (fun i σ H' => (∃ y3 y4 y5 y6 y7 y8 : Option V, σ = [some (.ref a), some (.ref b), some (.ref R), y3, y4, y5, y6, y7, y8]) ∧ Same H H' ∧ H' R = some (.lst (((ts.map fun t => rowsM 2 0 t.2).flatten ++ ((hs.take i).map fun h => rowsH h.2.1 h.2.2).flatten).map V.str))) (fun H8 e10 => ⟨⟨_, _, _, _, _, _, rfl⟩, e9.trans e10, by rw [e10 _ _ hR, List.take_zero]; simp⟩) (fun i σ H' _ p => ex_l p.2.1 hb) (fun i x σ H' hx p => ?_) (fun σ H' p => ?_)
  · obtain ⟨⟨y3, y4, y5, y6, y7, y8, rfl⟩, e, hR⟩ := p
    obtain ⟨t, b', y, ht, rfl, hb', hy⟩ := hp_item (ty.mono (Same.ts e)) hx
    have htm := List.mem_of_getElem? ht
    have hi : i < hs.length := (List.getElem?_eq_some_iff.mp ht).1
    refine g_un3 hb'.sq ?_
    try dsimp only
    refine ⟨.ref R, rfl, .inl ⟨rfl, _, SqL.of hR⟩, ?_⟩
    refine g_cons ?_
    refine ⟨y, rfl, ?_⟩
    refine ⟨.int t.2.2, rfl, ?_⟩
    obtain ⟨o1, o2, o3⟩ := okh.ok t htm
    refine ⟨y, t.2.1, t.2.2, rfl, hy, o1, o2, o3, fun H8 p8 e8 np8 h8 => ?_⟩
    have l3 := flat_len (f := fun h : Hlp => rowsH h.2.1 h.2.2) (l := hs.take i) (k := 7) fun t ht => lh_ t (List.mem_of_mem_take ht)
    have l4 := lh_ t htm
    rw [List.length_take] at l3
    refine ⟨R, p8, _, _, rfl, rfl, e8 _ _ hR, h8, by rw [sizeLine_eq, List.length_map, List.length_map, List.length_append]; omega, ?_⟩
    refine ⟨⟨_, _, _, _, _, _, rfl⟩, Same.put (e.trans e8) nR0, ?_⟩
    rw [upd_same, flat_snoc ht, ← List.map_append, List.append_assoc]
  obtain ⟨⟨y3, y4, y5, y6, y7, y8, rfl⟩, e10, hR⟩ := p
  rw [ly, List.take_length] at hR
  have l3 := flat_len (f := fun h : Hlp => rowsH h.2.1 h.2.2) (l := hs) (k := 7) lh_
  have all : ∀ r ∈ rowsW ts hs, r.length ≤ 10000 := fun r hr' => by
    rcases List.mem_append.mp hr' with z | z
    · obtain ⟨l, hl, hrl⟩ := List.mem_flatten.mp z
      obtain ⟨t, ht, rfl⟩ := List.mem_map.mp hl
      exact rowsM_all (okt.ok t ht) (by decide) (by decide) r hrl
    · obtain ⟨l, hl, hrl⟩ := List.mem_flatten.mp z
      obtain ⟨h', hh, rfl⟩ := List.mem_map.mp hl
      exact (rowsH_all (okh.ok h' hh).1 (okh.ok h' hh).2.1 (okh.ok h' hh).2.2).1 r hrl
  have lW : (rowsW ts hs).length ≤ 400 := by
    unfold rowsW
    rw [List.length_append]
    omega
  have sW := sum_le all
  refine g_ret ?_
  refine ⟨⟨_, rfl⟩, .ref R, rfl, ("\n" : Str), R, rowsW ts hs, rfl, rfl, .inl (SqL.of hR), ?_, q _ e10⟩
  have l1n : (("\n" : Str)).length = 1 := by decide
  rw [l1n]
  omega


end
end Dm
namespace Dm
open PySem PySem.Spec PyProof.Rows L2 Evl
section
variable {P : Program} {w : World} {K : PySem.W.Frag} {mg : Str → Option Value} {base : Heap}
/-! ### Reader -/
theorem ex_free {H H' : Hp} {a : Addr} (e : ∀ x o, H x = some o → H' x = some o) (h : H' a = none) : H a = none := by
  cases hb : H a with
  | none => rfl
  | some o => rw [e _ _ hb] at h; cases h
/-- a Reader's fields -/
def rdF (a b c : Addr) : List (Str × V) := [(Str.ofString "trees", .ref a), (Str.ofString "path", .ref b), (Str.ofString "staff", .ref c)]
def spRInit (C : Addr) : Sp := fun vs H Q _ => ∃ (r dx : Addr), vs = [.ref r] ∧ H r = some (.ins C dx []) ∧
  ∀ (H' : Hp) (a b c : Addr), (∀ x o, x ≠ r → H x = some o → H' x = some o) → H' r = some (.ins C dx (rdF a b c)) → H' a = some (.lst []) → H' b = some (.lst []) → H' c = some (.lst []) → a ≠ b → a ≠ c → b ≠ c → H a = none → H b = none → H c = none → Q .non H'
theorem ok_Reader___init__ (T : Txt K mg) : FnOk P w K mg base CX0 1 T.Reader___init__.f T.Reader___init__.fd ["self"] (spRInit T.C_Reader) := by
  refine T.Reader___init__.F.ok sc_Reader___init__ (fun vs H Q E h => ?_) (fun cdv A outer s H vs Q E hr h => ?_)
  · obtain ⟨r, dx, rfl, _⟩ := h ; rfl
  obtain ⟨r, dx, rfl, hr0, q⟩ := h
  refine ⟨_, (pss_cons (ps_fld (pv 0) (pe_lst pa_nil) rfl)
  (pss_cons (ps_fld (pv 0) (pe_lst pa_nil) rfl)
  (pss_one (ps_fld (pv 0) (pe_lst pa_nil) rfl)))), ?_⟩
  refine g_seq ((el_lst ea_nil (by decide)) H (Ex.refl H) _ fun a H1 na e1 h1 => ⟨.ref r, rfl, r, T.C_Reader, dx, [], rfl, e1 _ _ hr0, T.k_Reader.c, T.n_Reader_trees, by decide, ?_⟩)
  have ar : a ≠ r := (ne_of_none hr0 na).symm
  generalize hH2 : upd H1 r (.ins T.C_Reader dx (putF "trees" (.ref a) [])) = H2
  have r2 : H2 r = some (.ins T.C_Reader dx (putF "trees" (.ref a) [])) := by rw [← hH2, upd_same]
  have k2 : ∀ x o, x ≠ r → H1 x = some o → H2 x = some o := fun x o hx e => by rw [← hH2, upd_ne hx]; exact e
  have f2 : ∀ x, H2 x = none → H1 x = none := fun x e => by
    by_cases hx : x = r
    · rw [hx, r2] at e ; cases e
    · rw [← hH2, upd_ne hx] at e ; exact e
  dsimp only [nx]
  refine g_seq ((el_lst ea_nil (by decide)) H2 (Ex.refl H2) _ fun b H3 nb e3 h3 => ⟨.ref r, rfl, r, T.C_Reader, dx, _, rfl, e3 _ _ r2, T.k_Reader.c, T.n_Reader_path, (by show (putF (Str.ofString "trees") (V.ref a) []).length < 1000; rw [show (putF (Str.ofString "trees") (V.ref a) []).length = 1 from rfl]; decide), ?_⟩)
  have br : b ≠ r := (ne_of_none r2 nb).symm
  have ab : a ≠ b := ne_of_none (k2 a _ ar h1) nb
  generalize hH4 : upd H3 r (.ins T.C_Reader dx (putF "path" (.ref b) (putF "trees" (.ref a) []))) = H4
  have r4 : H4 r = some (.ins T.C_Reader dx (putF "path" (.ref b) (putF "trees" (.ref a) []))) := by rw [← hH4, upd_same]
  have k4 : ∀ x o, x ≠ r → H3 x = some o → H4 x = some o := fun x o hx e => by rw [← hH4, upd_ne hx]; exact e
  have f4 : ∀ x, H4 x = none → H3 x = none := fun x e => by
    by_cases hx : x = r
    · rw [hx, r4] at e ; cases e
    · rw [← hH4, upd_ne hx] at e ; exact e
  dsimp only [nx]
  refine (el_lst ea_nil (by decide)) H4 (Ex.refl H4) _ fun c H5 nc e5 h5 => ⟨.ref r, rfl, r, T.C_Reader, dx, _, rfl, e5 _ _ r4, T.k_Reader.c, T.n_Reader_staff, (by rw [show (putF (Str.ofString "path") (V.ref b) (putF (Str.ofString "trees") (V.ref a) [])).length = 2 from rfl]; decide), ?_⟩
  have cr : c ≠ r := (ne_of_none r4 nc).symm
  have hb4 := k4 b _ br h3
  have ha4 := k4 a _ ar (e3 _ _ (k2 a _ ar h1))
  have nb1 := ex_free e1 (f2 b nb)
  have nc1 := ex_free e1 (f2 c (ex_free e3 (f4 c nc)))
  refine q _ a b c (fun x o hx e => ?_) (by rw [upd_same]; rfl) (by rw [upd_ne ar]; exact e5 _ _ ha4) (by rw [upd_ne br]; exact e5 _ _ hb4) (by rw [upd_ne cr]; exact h5) ab (ne_of_none ha4 nc) (ne_of_none hb4 nc) na nb1 nc1
  rw [upd_ne hx]
  exact e5 _ _ (k4 x o hx (e3 _ _ (k2 x o hx (e1 _ _ e))))


end
end Dm
namespace Dm
open PySem PySem.Spec PyProof.Rows L2 Evl
section
variable {P : Program} {w : World} {K : PySem.W.Frag} {mg : Str → Option Value} {base : Heap}
theorem el_catNN {σ : L2.St} {H : Hp} {ta tb : TE} {xs zs : List V} (ha : EvL ta σ H xs) (hb : EvL tb σ H zs) (hz : xs.length + zs.length ≤ 100000) : EvL (tOp rCat ta tb) σ H (xs ++ zs) := fun H1 e Q q =>
  ha H1 e _ fun l H2 nl e2 h2 => hb H2 (e.trans e2) _ fun p H3 hp e3 h3 => ⟨l, p, xs, zs, rfl, rfl, e3 _ _ h2, h3, sz_of hz, fun p4 hp4 => q p4 _ (fresh_back (e2.trans e3) hp4) ((e2.trans e3).trans (Ex.new hp4)) upd_same⟩


end
end Dm
namespace Dm
open PySem PySem.Spec PyProof.Rows L2 Evl
section
variable {P : Program} {w : World} {K : PySem.W.Frag} {mg : Str → Option Value} {base : Heap}
/-! ### take_thing -/
/-- tuples stay, lists and instances may change -/
theorem tst_but {H H' : Hp} {a b : Addr} {oa ob : HO} (f : ∀ y o, y ≠ a → y ≠ b → H y = some o → H' y = some o) (ha : H a = some oa) (hb : H b = some ob) (na : ∀ o xs, oa ≠ .frz o (.tup xs)) (nb : ∀ o xs, ob ≠ .frz o (.tup xs)) : Tst H H' := fun y o xs h =>
  f y _ (fun z => by subst z; rw [ha] at h; exact na _ _ (Option.some.inj h)) (fun z => by subst z; rw [hb] at h; exact nb _ _ (Option.some.inj h)) h
theorem tst_but1 {H H' : Hp} {a : Addr} {oa : HO} (f : ∀ y o, y ≠ a → H y = some o → H' y = some o) (ha : H a = some oa) (na : ∀ o xs, oa ≠ .frz o (.tup xs)) : Tst H H' :=
  tst_but (fun y o h _ => f y o h) ha ha na na
theorem dom_but {H H' : Hp} {a b : Addr} {oa ob : HO} (f : ∀ y o, y ≠ a → y ≠ b → H y = some o → H' y = some o) (ha : H' a = some oa) (hb : H' b = some ob) : ∀ y, H' y = none → H y = none := fun y h => by
  cases e : H y with
  | none => rfl
  | some o =>
    by_cases ya : y = a
    · subst ya; rw [ha] at h; cases h
    by_cases yb : y = b
    · subst yb; rw [hb] at h; cases h
    rw [f y o ya yb e] at h; cases h
def Grow (H : Hp) (a : Addr) (bs : List V) (k : Nat) (g : Addr) (xs : List V) : Prop :=
  H g = some (.lst xs) ∧ ((k = 0 ∧ g = a ∧ xs.length < 100000) ∨ (∃ (j : Nat) (p : Addr) (m : V), k = j + 1 ∧ bs[j]? = some (.ref p) ∧ TupAt H p [m, .ref g] ∧ xs.length < 3))
theorem Grow.same {H H' : Hp} {a g : Addr} {bs xs : List V} {k : Nat} (h : Grow H a bs k g xs) (e : Same H H') : Grow H' a bs k g xs :=
  ⟨e _ _ h.1, h.2.imp id fun ⟨j, p, m, h1, h2, h3, h4⟩ => ⟨j, p, m, h1, h2, h3.mono (Same.ts e), h4⟩⟩
theorem Grow.le {H : Hp} {a g : Addr} {bs xs : List V} {k : Nat} (h : Grow H a bs k g xs) : k ≤ bs.length := by
  rcases h.2 with ⟨rfl, _⟩ | ⟨j, p, m, rfl, h2, _⟩
  · exact Nat.zero_le _
  · exact (List.getElem?_eq_some_iff.mp h2).1
theorem cutV_take (xs : List V) {k : Nat} (h : k ≤ xs.length) : cutV xs none (some (k : Int)) = xs.take k := by
  have e : HT.sIx xs.length xs.length (some (k : Int)) = k := by
    simp only [HT.sIx]
    rw [if_neg (by omega), Int.toNat_natCast, Nat.min_eq_left h]
  show (xs.drop (HT.sIx xs.length 0 none)).take (HT.sIx xs.length xs.length (some (k : Int)) - HT.sIx xs.length 0 none) = _
  rw [e] ; rfl
theorem el_sl {σ : L2.St} {H : Hp} {te : TE} {tl th : TO} {a : Addr} {xs : List V} {lo hi : Option Int} (h : Ev te σ H (.ref a)) (hl : EvO tl σ H lo) (hh : EvO th σ H hi) (ha : SqL K H a xs) : EvL (tSl (rSlL K) te tl th) σ H (cutV xs lo hi) := fun H1 e Q q =>
  h H1 e _ fun H2 e2 => hl H2 (e.trans e2) _ fun H3 e3 => hh H3 (e.trans (e2.trans e3)) _ fun H4 e4 => ⟨a, xs, rfl, ex_l (e.trans (e2.trans (e3.trans e4))) ha, fun p hp => q p _ (fresh_back (e2.trans (e3.trans e4)) hp) ((e2.trans (e3.trans e4)).trans (Ex.new hp)) upd_same⟩
def spRThing (C : Addr) : Sp := fun vs H Q _ => ∃ (r dx a b c g : Addr) (x : V) (m : List Int) (k : Nat) (bs xs : List V), vs = [.ref r, .int k, x] ∧ H r = some (.ins C dx (rdF a b c)) ∧ H c = some (.lst []) ∧ H b = some (.lst bs) ∧ bs.length ≤ 3 ∧ k ≤ 2 ∧ Grow H a bs k g xs ∧ g ≠ b ∧ Tp H x (mkD m) ∧ okMarks m ∧
  ∀ (H' : Hp) (e p b' : Addr), H e = none → H b' = none → H' e = some (.lst []) → TupAt H' p [x, .ref e] → H' g = some (.lst (xs ++ [.ref p])) → H' r = some (.ins C dx (rdF a b' c)) → H' b' = some (.lst (bs.take k ++ [.ref p])) → (∀ y o, y ≠ r → y ≠ g → H y = some o → H' y = some o) → Q (V.bl true) H'
theorem ok_Reader_take_thing (T : Txt K mg) : FnOk P w K mg base CX0 5 T.Reader_take_thing.f T.Reader_take_thing.fd ["self", "deep", "marks"] (spRThing T.C_Reader) := by
  refine T.Reader_take_thing.F.ok sc_Reader_take_thing (fun vs H Q E h => ?_) (fun cdv A outer s H vs Q E hr h => ?_)
  · obtain ⟨r, dx, a, b, c, g, x, m, k, bs, xs, rfl, _⟩ := h ; rfl
  obtain ⟨r, dx, a, b, c, g, x, m, k, bs, xs, rfl, hr0, hc, hb, lb, k2, gr, gb, hx, okm, q⟩ := h
  refine ⟨_, (pss_cons (ps_if (PW.pt (pw_or (pt_not (pt_val (pe_call (ok_is_number T) (hr.mono (by decide)) rfl T.is_number.m T.is_number.F.kp T.is_number.b .nil pass0 (pa_cons (pv 1) (pa_cons pe_int (pa_cons (pe_glob (v := .int (2)) rfl T.c_MOST_DEEP ⟨_, rfl⟩) pa_nil)))))) (pw_or1 (pt_not (pt_val (pe_call (ok_is_marks T) (hr.mono (by decide)) rfl T.is_marks.m T.is_marks.F.kp T.is_marks.b .nil pass0 (pa_cons (pv 2) pa_nil))))))) (pss_one (ps_ret pe_bl)) pss_nil)
  (pss_cons (ps_if (PW.pt (pw_or (pt_truth (pe_fld (pv 0) rfl) (by intro _; rfl)) (pw_or1 (pt_cmpR op_gt (pv 1) (pe_callB (lenK (K := K) rfl) (by rfl) T.z_len PySem.boot_len (pa_cons (pe_fld (pv 0) rfl) pa_nil)) (nomark _))))) (pss_one (ps_ret pe_bl)) pss_nil)
  (pss_cons (ps_set (i := 3) sc_Reader_take_thing.nd rfl (by first | exact Or.inl rfl | exact Or.inr rfl) (pe_fld (pv 0) rfl))
  (pss_cut (ps_if (pt_cmpR op_gt (pv 1) pe_int (nomark _)) (pss_cons (ps_asg (pe_ix (ixK (K := K) rfl) (pe_fld (pv 0) rfl) (pe_op op_sub (pv 1) pe_int) (fun _ _ => rfl)) (pg_tupK (K := K) (n := 2) rfl rfl (pgs_cons (pg_name (i := 5) sc_Reader_take_thing.nd rfl (by first | exact Or.inl rfl | exact Or.inr rfl)) (pgs_cons (pg_name (i := 3) sc_Reader_take_thing.nd rfl (by first | exact Or.inl rfl | exact Or.inr rfl)) pgs_nil))))
  (pss_one (ps_if (pt_cmpR op_ge (pe_callB (lenK (K := K) rfl) (by rfl) T.z_len PySem.boot_len (pa_cons (pv 3) pa_nil)) (pe_glob (v := .int (3)) rfl T.c_MOST_WITHIN ⟨_, rfl⟩) (nomark _)) (pss_one (ps_ret pe_bl)) pss_nil))) pss_nil)
  (pss_cons (ps_set (i := 4) sc_Reader_take_thing.nd rfl (by first | exact Or.inl rfl | exact Or.inr rfl) (pe_tupF (pa_cons (pv 2) (pa_cons (pe_lst pa_nil) pa_nil))))
  (pss_cons (ps_expr (pe_bm PySem.F.plainAttrs_list PySem.F.slot_list_append PySem.F.type_list_append mt_append (pv 3) (pa_cons (pv 4) pa_nil)))
  (pss_cons (ps_fld (pv 0) (pe_op op_cat (pe_slice sl_list (pe_fld (pv 0) rfl) po_none (po_some (pv 1))) (pe_lst (pa_cons (pv 4) pa_nil))) rfl)
  (pss_one (ps_ret pe_bl))))))))), ?_⟩
  have kl := gr.le
  have num : isNum 0 2 (.int (k : Int)) = true := by
    show (decide (0 ≤ (k : Int)) && decide ((k : Int) ≤ 2)) = true
    rw [decide_eq_true (by omega), decide_eq_true (by omega)] ; rfl
  refine q_when (b := false) (fun H1 e1 Q1 q1 => (ev_pv (ea_cons (ev_var rfl) (ea_cons ev_c (ea_cons ev_c ea_nil))) fun H3 e3 => ⟨.int k, .int k, 0, 2, rfl, .int _, rfl⟩) H1 (Ex.refl H1) _ fun H2 e2 => ⟨isNum 0 2 (.int k), rfl, ?_⟩) (fun z => nomatch z) (fun _ H1 e1 => ?_)
  · rw [num]
    exact (ev_pv (ea_cons (ev_var rfl) ea_nil) fun H3 e3 => ⟨x, mkD m, rfl, hx.mono (Same.ts (e1.trans (e2.trans e3))), rfl⟩) H2 (Ex.refl H2) _ fun H3 e3 => ⟨isThree 0 (mkD m), rfl, by rw [okm.three]; exact q1 H3 (e2.trans e3)⟩
  have hr1 := e1 _ _ hr0
  have hc1 := e1 _ _ hc
  have hb1 := e1 _ _ hb
  have pth : ∀ H2, Same H1 H2 → Ev (tFld K (tVar 0) "path") [some (.ref r), some (.int k), some x, none, none, none] H2 (.ref b) := fun H2 e2 H3 e3 Q q => ⟨.ref r, rfl, r, T.C_Reader, dx, _, .ref b, rfl, e3 _ _ (e2 _ _ hr1), T.k_Reader.c, T.n_Reader_path, rfl, q H3 (Ex.refl H3)⟩
  refine q_when (b := false) (fun H2 e2 Q1 q1 => ⟨.ref r, rfl, r, T.C_Reader, dx, _, .ref c, rfl, e2 _ _ hr1, T.k_Reader.c, T.n_Reader_staff, rfl, false, .inl ⟨_, SqL.of (e2 _ _ hc1), rfl⟩, ?_⟩) (fun z => nomatch z) (fun _ H2 e2 => ?_)
  · have z : decide ((bs.length : Int) < (k : Int)) = false := decide_eq_false (by omega)
    refine (et_test (ev_op (ev_var rfl) (ev_len (pth H2 e2) (SqL.of (e2 _ _ hb1))) rv_I0)) H2 (Ex.refl H2) _ fun H3 e3 => ?_
    rw [z] ; exact q1 H3 e3
  have E2 := e1.trans e2
  refine q_asg (v := .ref a) (fun H3 e3 Q q => ⟨.ref r, rfl, r, T.C_Reader, dx, _, .ref a, rfl, e3 _ _ (e2 _ _ hr1), T.k_Reader.c, T.n_Reader_trees, rfl, q H3 (Ex.refl H3)⟩) fun H3 e3 => ?_
  have E3 := E2.trans e3
  try dsimp only
  refine q_cut (M := fun σ' H' => ∃ y5, σ' = [some (.ref r), some (.int k), some x, some (.ref g), none, y5] ∧ Same H H') ?_ (fun σ' H4 M => ?_)
  · rcases gr.2 with ⟨rfl, rfl, _⟩ | ⟨j, p, m', rfl, hj, tp, l3⟩
    · refine (et_test (ev_op (ev_var rfl) ev_c rv_I0)) H3 (Ex.refl H3) _ fun H4 e4 => ?_
      exact ⟨none, rfl, E3.trans e4⟩
    · refine (et_test (ev_op (ev_var rfl) ev_c rv_I0)) H3 (Ex.refl H3) _ fun H4 e4 => ?_
      have z : decide ((0 : Int) < ((j + 1 : Nat) : Int)) = true := decide_eq_true (by omega)
      rw [z]
      simp only [↓reduceIte]
      have E4 := E3.trans e4
      refine g_seq ((ev_ixL (xs := bs) (v := .ref p) (i := (j : Int)) (fun H5 e5 Q q => ⟨.ref r, rfl, r, T.C_Reader, dx, _, .ref b, rfl, e5 _ _ (E4 _ _ hr0), T.k_Reader.c, T.n_Reader_path, rfl, q H5 (Ex.refl H5)⟩) (fun H5 e5 Q q => ⟨.int ((j + 1 : Nat) : Int), rfl, _, _, rfl, rfl, by dsimp only; rw [show (((j + 1 : Nat) : Int) - 1) = (j : Int) by omega]; exact q H5 (Ex.refl H5)⟩) (SqL.of (E4 _ _ hb)) (atI_nat hj)) H4 (Ex.refl H4) _ fun H5 e5 => ⟨p, _, rfl, (tp.mono (Same.ts (E4.trans e5))).sq, rfl, ?_⟩)
      refine ⟨_, _, rfl, _, _, rfl, rfl, ?_⟩
      dsimp only [gName]
      have E5 := E4.trans e5
      refine (et_test (ev_op (ev_len (ev_var rfl) (SqL.of (E5 _ _ gr.1))) ev_c rv_I0)) H5 (Ex.refl H5) _ fun H6 e6 => ?_
      have z2 : decide ((3 : Int) ≤ (xs.length : Int)) = false := decide_eq_false (by omega)
      rw [z2]
      exact ⟨_, rfl, E5.trans e6⟩
  obtain ⟨y5, rfl, e4⟩ := M
  have hg4 := e4 _ _ gr.1
  have lx : xs.length < 100000 := by
    rcases gr.2 with ⟨_, _, z⟩ | ⟨_, _, _, _, _, _, z⟩ <;> omega
  refine g_seq ?_
  refine ⟨x, rfl, (el_lst ea_nil (by decide)) H4 (Ex.refl H4) _ fun e H5 ne e5 h5 => ⟨sz_of (by show 2 ≤ 100000; decide), fun p o hp hd => ?_⟩⟩
  refine g_name ?_
  generalize hH6 : upd H5 p (.frz o (.tup [x, .ref e])) = H6
  have e6 : Same H5 H6 := by rw [← hH6]; exact Same.new hp
  have tp6 : TupAt H6 p [x, .ref e] := by rw [← hH6]; exact ⟨o, hd, upd_same⟩
  have E6 := (e4.trans e5).trans e6
  have hg6 := e6 _ _ (e5 _ _ hg4)
  have h6 := e6 _ _ h5
  dsimp only
  refine g_seq ⟨.ref g, rfl, .inl ⟨rfl, xs, SqL.of hg6⟩, .ref p, rfl, g, xs, .ref p, rfl, rfl, hg6, sz_lt lx, ?_⟩
  have gr_ : g ≠ r := fun z => by subst z; rw [gr.1] at hr0; cases hr0
  have eg : e ≠ g := fun z => by subst z; rw [hg4] at ne; cases ne
  generalize hH7 : upd H6 g (.lst (xs ++ [.ref p])) = H7
  have k7 : ∀ y o, y ≠ g → H6 y = some o → H7 y = some o := fun y o hy h => by rw [← hH7, upd_ne hy]; exact h
  have hg7 : H7 g = some (.lst (xs ++ [.ref p])) := by rw [← hH7]; exact upd_same
  have hr7 := k7 _ _ (Ne.symm gr_) (E6 _ _ hr0)
  have hb7 := k7 _ _ (Ne.symm gb) (E6 _ _ hb)
  have tp7 : TupAt H7 p [x, .ref e] := tp6.mono (tst_but1 k7 hg6 fun _ _ => HO.noConfusion)
  have h7 := k7 _ _ eg h6
  dsimp only
  refine g_seq ?_
  refine (el_catNN (xs := cutV bs none (some (k : Int))) (zs := [.ref p]) (el_sl (fun H8 e8 Q q => ⟨.ref r, rfl, r, T.C_Reader, dx, _, .ref b, rfl, e8 _ _ hr7, T.k_Reader.c, T.n_Reader_path, rfl, q H8 (Ex.refl H8)⟩) (fun H8 e8 Q q => q H8 (Ex.refl H8)) (fun H8 e8 Q q => ⟨.int k, rfl, k, rfl, q H8 (Ex.refl H8)⟩) (SqL.of hb7)) (el_lst (ea_cons (ev_var rfl) ea_nil) (by show 1 ≤ 100000; decide)) ?_) H7 (Ex.refl H7) _ fun b' H8 nb e8 h8 => ⟨.ref r, rfl, r, T.C_Reader, dx, _, rfl, e8 _ _ hr7, T.k_Reader.c, T.n_Reader_path, (by show (rdF a b c).length < 1000; rw [show (rdF a b c).length = 3 from rfl]; decide), ?_⟩
  · have := cutV_length bs none (some (k : Int))
    show _ + 1 ≤ _
    omega
  rw [cutV_take bs kl] at h8
  have hr8 := e8 _ _ hr7
  have br : b' ≠ r := fun z => by subst z; rw [hr7] at nb; cases nb
  have er : e ≠ r := fun z => by subst z; rw [e4 _ _ hr0] at ne; cases ne
  have nb0 : H b' = none := by
    refine ex_free E6 ?_
    cases z : H6 b' with
    | none => rfl
    | some o' =>
      by_cases zb : b' = g
      · rw [zb, hg7] at nb; cases nb
      · rw [k7 _ _ zb z] at nb; cases nb
  refine q _ e p b' (ex_free e4 ne) nb0 ?_ ?_ ?_ ?_ ?_ fun y o hy1 hy2 h => ?_
  · rw [upd_ne er]; exact e8 _ _ h7
  · exact (tp7.mono (Same.ts e8)).mono fun y o' ys h => by
      by_cases z : y = r
      · rw [z, hr8] at h; cases h
      · rw [upd_ne z]; exact h
  · rw [upd_ne gr_]; exact e8 _ _ hg7
  · rw [upd_same] ; rfl
  · rw [upd_ne br]; exact h8
  · rw [upd_ne hy1]; exact e8 _ _ (k7 _ _ hy2 (E6 _ _ h))


end
end Dm
namespace Dm
open PySem PySem.Spec PyProof.Rows L2 Evl
section
variable {P : Program} {w : World} {K : PySem.W.Frag} {mg : Str → Option Value} {base : Heap}
/-! ### the reader, row by row -/
inductive Rw where
  | th (d : Nat) (m : List Int)
  | hp (k : Int)
  | cl (c : List Int × Int)
def Rw.str : Rw → Str
  | .th d m => rowT d m
  | .hp k => rowHd k
  | .cl c => rowC c
/-- what a row asks of the reader, and what it leaves -/
def stepR (C r Z : Addr) : Rw → Hp → (Hp → Prop) → Prop
  | .th k m, H, q => ∃ (dx a b c g : Addr) (bs xs : List V), H r = some (.ins C dx (rdF a b c)) ∧ H c = some (.lst []) ∧ H b = some (.lst bs) ∧ bs.length ≤ 3 ∧ k ≤ 2 ∧ Grow H a bs k g xs ∧ g ≠ b ∧ g ≠ Z ∧ okMarks m ∧
      ∀ (H' : Hp) (e p b' : Addr) (x : V), H e = none → H b' = none → Tp H' x (mkD m) → H' e = some (.lst []) → TupAt H' p [x, .ref e] → H' g = some (.lst (xs ++ [.ref p])) → H' r = some (.ins C dx (rdF a b' c)) → H' b' = some (.lst (bs.take k ++ [.ref p])) → (∀ y o, y ≠ r → y ≠ g → H y = some o → H' y = some o) → q H'
  | .hp k, H, q => ∃ (dx a b c : Addr) (xs : List V), H r = some (.ins C dx (rdF a b c)) ∧ H c = some (.lst xs) ∧ xs.length < 100000 ∧ 0 ≤ k ∧ k ≤ 4 ∧ c ≠ Z ∧
      ∀ (H' : Hp) (e p : Addr), H e = none → H' e = some (.lst []) → TupAt H' p [V.int k, V.ref e] → H' c = some (.lst (xs ++ [V.ref p])) → (∀ y o, y ≠ c → H y = some o → H' y = some o) → q H'
  | .cl m, H, q => ∃ (dx a b c p e : Addr) (k : Int) (xs ys : List V), H r = some (.ins C dx (rdF a b c)) ∧ H c = some (.lst (xs ++ [V.ref p])) ∧ xs.length < 100000 ∧ TupAt H p [V.int k, V.ref e] ∧ H e = some (.lst ys) ∧ ys.length < 6 ∧ okClaim m ∧ e ≠ Z ∧
      ∀ (H' : Hp) (x : V), Tp H' x (clD m) → H' e = some (.lst (ys ++ [x])) → (∀ y o, y ≠ e → H y = some o → H' y = some o) → q H'
def WR (C r Z : Addr) : List Rw → (Hp → Prop) → Hp → Prop
  | [], q, H => ∀ H1, Same H H1 → q H1
  | x :: l, q, H => ∀ H1, Same H H1 → stepR C r Z x H1 (WR C r Z l q)
theorem stepR.mono {C r Z : Addr} {q q' : Hp → Prop} (f : ∀ H', q H' → q' H') : ∀ {x : Rw} {H : Hp}, stepR C r Z x H q → stepR C r Z x H q'
  | .th k m, H, h => by
    obtain ⟨dx, a, b, c, g, bs, xs, h1, h2, h3, h4, h5, h6, h7, h8, h9, k⟩ := h
    exact ⟨dx, a, b, c, g, bs, xs, h1, h2, h3, h4, h5, h6, h7, h8, h9, fun H' e p b' x a1 a2 a3 a4 a5 a6 a7 a8 a9 => f _ (k H' e p b' x a1 a2 a3 a4 a5 a6 a7 a8 a9)⟩
  | .hp k, H, h => by
    obtain ⟨dx, a, b, c, xs, h1, h2, h3, h4, h5, h6, k⟩ := h
    exact ⟨dx, a, b, c, xs, h1, h2, h3, h4, h5, h6, fun H' e p a1 a2 a3 a4 a5 => f _ (k H' e p a1 a2 a3 a4 a5)⟩
  | .cl m, H, h => by
    obtain ⟨dx, a, b, c, p, e, k, xs, ys, h1, h2, h3, h4, h5, h6, h7, h8, kk⟩ := h
    exact ⟨dx, a, b, c, p, e, k, xs, ys, h1, h2, h3, h4, h5, h6, h7, h8, fun H' x a1 a2 a3 => f _ (kk H' x a1 a2 a3)⟩
theorem WR.same {C r Z : Addr} {l : List Rw} {q : Hp → Prop} {H H1 : Hp} (h : WR C r Z l q H) (e : Same H H1) : WR C r Z l q H1 := by
  cases l with
  | nil => exact fun H2 e2 => h H2 (e.trans e2)
  | cons x l => exact fun H2 e2 => h H2 (e.trans e2)
def All2 {α β : Type} (R : α → β → Prop) : List α → List β → Prop
  | [], [] => True
  | a :: l, b :: k => R a b ∧ All2 R l k
  | _, _ => False
theorem All2.imp {α β : Type} {R S : α → β → Prop} (f : ∀ a b, R a b → S a b) : ∀ {l : List α} {k : List β}, All2 R l k → All2 S l k
  | [], [], _ => trivial
  | _ :: _, _ :: _, h => ⟨f _ _ h.1, h.2.imp f⟩
  | [], _ :: _, h => h.elim
  | _ :: _, [], h => h.elim
theorem All2.length {α β : Type} {R : α → β → Prop} : ∀ {l : List α} {k : List β}, All2 R l k → l.length = k.length
  | [], [], _ => rfl
  | _ :: _, _ :: _, h => congrArg (· + 1) h.2.length
  | [], _ :: _, h => h.elim
  | _ :: _, [], h => h.elim
theorem All2.get {α β : Type} {R : α → β → Prop} : ∀ {l : List α} {k : List β} {i : Nat} {a : α}, All2 R l k → l[i]? = some a → ∃ b, k[i]? = some b ∧ R a b
  | a :: l, b :: k, 0, x, h, e => by
    rw [List.getElem?_cons_zero] at e ; cases e
    exact ⟨b, rfl, h.1⟩
  | a :: l, b :: k, i + 1, x, h, e => by
    rw [List.getElem?_cons_succ] at e
    obtain ⟨b', h1, h2⟩ := h.2.get e
    exact ⟨b', by rw [List.getElem?_cons_succ]; exact h1, h2⟩
  | [], _, i, x, h, e => by cases e
  | _ :: _, [], _, _, h, _ => h.elim
/-- a thing as the reader holds it: (marks, list of those within) -/
def RT (N : Addr → Prop) (H : Hp) : Nat → V → Th → Prop
  | 0, _, _ => False
  | n + 1, v, .mk m is => ∃ (p e : Addr) (x : V) (vs : List V), v = .ref p ∧ N e ∧ TupAt H p [x, .ref e] ∧ Tp H x (mkD m) ∧ H e = some (.lst vs) ∧ All2 (RT N H n) vs is
theorem RT.mono {N N' : Addr → Prop} {H H' : Hp} (hN : ∀ e, N e → N' e) (f : ∀ e o, N e → H e = some o → H' e = some o) (ts : Tst H H') : ∀ {n : Nat} {v : V} {t : Th}, RT N H n v t → RT N' H' n v t
  | n + 1, v, .mk m is, h => by
    obtain ⟨p, e, x, vs, rfl, h1, h2, h3, h4, h5⟩ := h
    exact ⟨p, e, x, vs, rfl, hN e h1, h2.mono ts, h3.mono ts, f _ _ h1 h4, h5.imp fun a b z => z.mono hN f ts⟩
  | 0, v, t, h => h.elim
theorem keeps {H H' : Hp} {a b Z : Addr} (f : ∀ y o, y ≠ a → y ≠ b → H y = some o → H' y = some o) (za : Z ≠ a) (zb : Z ≠ b) (hz : H Z ≠ none) : H' Z ≠ none := by
  cases e : H Z with
  | none => exact absurd e hz
  | some o => rw [f Z o za zb e]; exact fun z => nomatch z
def rowsR : Nat → Nat → Th → List Rw
  | 0, d, .mk m _ => [.th d m]
  | n + 1, d, .mk m is => .th d m :: (is.map (rowsR n (d + 1))).flatten
theorem rowsR_str : ∀ (n d : Nat) (t : Th), (rowsR n d t).map Rw.str = rowsM n d t
  | 0, d, .mk m is => rfl
  | n + 1, d, .mk m is => by
    show rowT d m :: ((is.map (rowsR n (d + 1))).flatten).map Rw.str = rowT d m :: (is.map (rowsM n ((d : Int) + 1))).flatten
    rw [List.map_flatten, List.map_map]
    congr 3
    funext t
    exact rowsR_str n (d + 1) t
section
variable {C r Z : Addr} {q : Hp → Prop} {rest : List Rw}
def WThing (C r Z : Addr) (q : Hp → Prop) (n : Nat) : Prop := ∀ (t : Th) (d : Nat) (rest : List Rw) (H : Hp) (dx a b c g : Addr) (bs xs : List V), Th.ok n t → d + n ≤ 2 → H r = some (.ins C dx (rdF a b c)) → H c = some (.lst []) → H b = some (.lst bs) → bs.length ≤ 3 → Grow H a bs d g xs → g ≠ b → g ≠ c → H Z ≠ none → g ≠ Z →
  (∀ (H' : Hp) (b' : Addr) (bs' : List V) (v : V), H' r = some (.ins C dx (rdF a b' c)) → H b' = none → H' b' = some (.lst bs') → bs'.length ≤ 3 → bs'.take d = bs.take d → RT (fun y => H y = none) H' (n + 1) v t → H' g = some (.lst (xs ++ [v])) → (∀ y o, y ≠ r → y ≠ g → H y = some o → H' y = some o) → WR C r Z rest q H') → WR C r Z (rowsR n d t ++ rest) q H
theorem W_kids (zr : Z ≠ r) {n : Nat} (ih : WThing C r Z q n) : ∀ (is : List Th) (d : Nat) (H : Hp) (dx a b c p e : Addr) (x : V) (bs vs : List V), (∀ t ∈ is, Th.ok n t) → d + 1 + n ≤ 2 → H r = some (.ins C dx (rdF a b c)) → H c = some (.lst []) → H b = some (.lst bs) → bs.length ≤ 3 → bs[d]? = some (.ref p) → TupAt H p [x, .ref e] → H e = some (.lst vs) → vs.length + is.length ≤ 3 → e ≠ b → e ≠ c → H Z ≠ none → e ≠ Z →
    (∀ (H' : Hp) (b' : Addr) (bs' vs' : List V), H' r = some (.ins C dx (rdF a b' c)) → (b' = b ∨ H b' = none) → H' b' = some (.lst bs') → bs'.length ≤ 3 → bs'.take (d + 1) = bs.take (d + 1) → H' e = some (.lst (vs ++ vs')) → All2 (RT (fun y => H y = none) H' (n + 1)) vs' is → (∀ y o, y ≠ r → y ≠ e → H y = some o → H' y = some o) → WR C r Z rest q H') →
    WR C r Z ((is.map (rowsR n (d + 1))).flatten ++ rest) q H
  | [], d, H, dx, a, b, c, p, e, x, bs, vs, _, hd, hr, hc, hb, hbs, hp, tp, he, hv, eb, ec, hz, ez, k => k H b bs [] hr (.inl rfl) hb hbs rfl (by rw [List.append_nil]; exact he) trivial fun y o _ _ h => h
  | t :: is, d, H, dx, a, b, c, p, e, x, bs, vs, ok, hd, hr, hc, hb, hbs, hp, tp, he, hv, eb, ec, hz, ez, k => by
    rw [List.map_cons, List.flatten_cons, List.append_assoc]
    rw [List.length_cons] at hv
    have er : e ≠ r := fun z => by subst z; rw [he] at hr; cases hr
    have cr : c ≠ r := fun z => by subst z; rw [hc] at hr; cases hr
    refine ih t (d + 1) _ H dx a b c e bs vs (ok t (List.mem_cons_self ..)) hd hr hc hb hbs ⟨he, .inr ⟨d, p, x, rfl, hp, tp, by omega⟩⟩ eb ec hz ez fun H1 b1 bs1 v hr1 nb1 hb1 hbs1 tk1 rt1 he1 f1 => ?_
    have ts1 : Tst H H1 := tst_but f1 hr he (fun _ _ => HO.noConfusion) (fun _ _ => HO.noConfusion)
    have dm1 := dom_but f1 hr1 he1
    have hp1 : bs1[d]? = some (.ref p) := by
      have z := congrArg (fun l : List V => l[d]?) tk1
      rw [List.getElem?_take_of_lt (by omega), List.getElem?_take_of_lt (by omega)] at z
      rw [z, hp]
    refine W_kids zr ih is d H1 dx a b1 c p e x bs1 (vs ++ [v]) (fun t ht => ok t (List.mem_cons_of_mem _ ht)) hd hr1 (f1 _ _ cr (Ne.symm ec) hc) hb1 hbs1 hp1 (tp.mono ts1) he1 (by rw [List.length_append, List.length_singleton]; omega) (fun z => by subst z; rw [he] at nb1; cases nb1) ec (keeps f1 zr ez.symm hz) ez fun H2 b2 bs2 vs2 hr2 nb2 hb2 hbs2 tk2 he2 al2 f2 => ?_
    have ts2 : Tst H1 H2 := tst_but f2 hr1 he1 (fun _ _ => HO.noConfusion) (fun _ _ => HO.noConfusion)
    refine k H2 b2 bs2 (v :: vs2) hr2 (.inr ?_) hb2 hbs2 (tk2.trans tk1) (by rw [he2, List.append_assoc]; rfl) ⟨?_, al2.imp fun _ _ z => z.mono (fun y hy => dm1 y hy) (fun _ _ _ h => h) (fun _ _ _ h => h)⟩ fun y o hy1 hy2 h => f2 y o hy1 hy2 (f1 y o hy1 hy2 h)
    · rcases nb2 with rfl | nb2
      · exact nb1
      · exact dm1 _ nb2
    · exact rt1.mono (fun _ h => h) (fun y o hy h => f2 y o (fun z => by subst z; rw [hr] at hy; cases hy) (fun z => by subst z; rw [he] at hy; cases hy) h) ts2
theorem W_thing (zr : Z ≠ r) : ∀ n, WThing C r Z q n := by
  intro n
  induction n with
  | zero =>
    intro t d rest H dx a b c g bs xs ok hd hr hc hb hbs gr gb gc hz gz k
    obtain ⟨m, is⟩ := t
    obtain ⟨okm, rfl⟩ := ok
    refine fun H1 e1 => ⟨dx, a, b, c, g, bs, xs, e1 _ _ hr, e1 _ _ hc, e1 _ _ hb, hbs, by omega, gr.same e1, gb, gz, okm, fun H' e p b' x ne nb hx he hp hg hr' hb' f => ?_⟩
    refine k H' b' _ (.ref p) hr' (ex_free e1 nb) hb' (by rw [List.length_append, List.length_take, List.length_singleton]; omega) ?_ ⟨p, e, x, [], rfl, ex_free e1 ne, hp, hx, he, trivial⟩ hg fun y o hy1 hy2 h => f y o hy1 hy2 (e1 _ _ h)
    rw [List.take_append_of_le_length (by rw [List.length_take]; have := gr.le; omega), List.take_take, Nat.min_self]
  | succ n ih =>
    intro t d rest H dx a b c g bs xs ok hd hr hc hb hbs gr gb gc hz gz k
    obtain ⟨m, is⟩ := t
    have dl : d ≤ bs.length := gr.le
    refine fun H1 e1 => ⟨dx, a, b, c, g, bs, xs, e1 _ _ hr, e1 _ _ hc, e1 _ _ hb, hbs, by omega, gr.same e1, gb, gz, ok.marks, fun H2 e p b2 x ne nb hx he hp hg hr2 hb2 f => ?_⟩
    have ne0 := ex_free e1 ne
    have nb0 := ex_free e1 nb
    have hg1 := e1 _ _ gr.1
    have hr1 := e1 _ _ hr
    have gr_ : g ≠ r := fun z => by subst z; rw [hg1] at hr1; cases hr1
    have cr : c ≠ r := fun z => by subst z; rw [hc] at hr; cases hr
    have ge : g ≠ e := fun z => by subst z; rw [hg1] at ne; cases ne
    have f0 : ∀ y o, y ≠ r → y ≠ g → H y = some o → H2 y = some o := fun y o h1 h2 h => f y o h1 h2 (e1 _ _ h)
    have dm := dom_but f0 hr2 hg
    refine W_kids zr ih is d H2 dx a b2 c p e x _ [] ok.2.2 (by omega) hr2 (f _ _ cr (Ne.symm gc) (e1 _ _ hc)) hb2 (by rw [List.length_append, List.length_take, List.length_singleton]; omega) ?_ hp he (by have := ok.2.1; simpa using this) (fun z => by subst z; have w := HO.lst.inj (Option.some.inj (he.symm.trans hb2)); exact absurd (congrArg List.length w) (by rw [List.length_append]; exact Nat.ne_of_lt (Nat.lt_of_lt_of_le Nat.zero_lt_one (Nat.le_add_left _ _)))) (fun z => by subst z; rw [hc] at ne0; cases ne0) (keeps f0 zr gz.symm hz) (fun z => hz (z ▸ ne0)) fun H3 b3 bs3 vs3 hr3 nb3 hb3 hbs3 tk3 he3 al3 f3 => ?_
    · rw [List.getElem?_append_right (by rw [List.length_take]; omega), List.length_take, Nat.min_eq_left dl, Nat.sub_self] ; rfl
    have ts3 : Tst H2 H3 := tst_but f3 hr2 he (fun _ _ => HO.noConfusion) (fun _ _ => HO.noConfusion)
    refine k H3 b3 bs3 (.ref p) hr3 ?_ hb3 hbs3 ?_ ⟨p, e, x, vs3, rfl, ne0, hp.mono ts3, hx.mono ts3, he3, al3.imp fun _ _ z => z.mono (fun y hy => dm y hy) (fun _ _ _ h => h) (fun _ _ _ h => h)⟩ (f3 _ _ gr_ ge hg) fun y o hy1 hy2 h => f3 y o hy1 (fun z => by subst z; rw [ne0] at h; cases h) (f0 y o hy1 hy2 h)
    · rcases nb3 with rfl | nb3
      · exact nb0
      · exact dm _ nb3
    · have z := congrArg (List.take d) tk3
      rw [List.take_take, List.take_take, Nat.min_eq_left (by omega), List.take_append_of_le_length (by rw [List.length_take]; omega), List.take_take, Nat.min_self] at z
      exact z
theorem W_things (zr : Z ≠ r) : ∀ (ts : List Th) (H : Hp) (dx a b c : Addr) (bs xs : List V), (∀ t ∈ ts, Th.ok 2 t) → H r = some (.ins C dx (rdF a b c)) → H c = some (.lst []) → H b = some (.lst bs) → bs.length ≤ 3 → H a = some (.lst xs) → xs.length + ts.length < 100000 → a ≠ b → a ≠ c → H Z ≠ none → a ≠ Z →
    (∀ (H' : Hp) (b' : Addr) (vs' : List V), H' r = some (.ins C dx (rdF a b' c)) → H' a = some (.lst (xs ++ vs')) → All2 (RT (fun y => H y = none) H' 3) vs' ts → (∀ y o, y ≠ r → y ≠ a → H y = some o → H' y = some o) → WR C r Z rest q H') →
    WR C r Z ((ts.map (rowsR 2 0)).flatten ++ rest) q H
  | [], H, dx, a, b, c, bs, xs, _, hr, hc, hb, hbs, ha, hl, ab, ac, hz, az, k => k H b [] hr (by rw [List.append_nil]; exact ha) trivial fun y o _ _ h => h
  | t :: ts, H, dx, a, b, c, bs, xs, ok, hr, hc, hb, hbs, ha, hl, ab, ac, hz, az, k => by
    rw [List.map_cons, List.flatten_cons, List.append_assoc]
    rw [List.length_cons] at hl
    have ar : a ≠ r := fun z => by subst z; rw [ha] at hr; cases hr
    have cr : c ≠ r := fun z => by subst z; rw [hc] at hr; cases hr
    refine W_thing zr 2 t 0 _ H dx a b c a bs xs (ok t (List.mem_cons_self ..)) (by decide) hr hc hb hbs ⟨ha, .inl ⟨rfl, rfl, by omega⟩⟩ ab ac hz az fun H1 b1 bs1 v hr1 nb1 hb1 hbs1 tk1 rt1 ha1 f1 => ?_
    have dm1 := dom_but f1 hr1 ha1
    refine W_things zr ts H1 dx a b1 c bs1 (xs ++ [v]) (fun t ht => ok t (List.mem_cons_of_mem _ ht)) hr1 (f1 _ _ cr (Ne.symm ac) hc) hb1 hbs1 ha1 (by rw [List.length_append, List.length_singleton]; omega) (fun z => by subst z; rw [ha] at nb1; cases nb1) ac (keeps f1 zr az.symm hz) az fun H2 b2 vs2 hr2 ha2 al2 f2 => ?_
    have ts2 : Tst H1 H2 := tst_but f2 hr1 ha1 (fun _ _ => HO.noConfusion) (fun _ _ => HO.noConfusion)
    refine k H2 b2 (v :: vs2) hr2 (by rw [ha2, List.append_assoc]; rfl) ⟨?_, al2.imp fun _ _ z => z.mono (fun y hy => dm1 y hy) (fun _ _ _ h => h) (fun _ _ _ h => h)⟩ fun y o hy1 hy2 h => f2 y o hy1 hy2 (f1 y o hy1 hy2 h)
    exact rt1.mono (fun _ h => h) (fun y o hy h => f2 y o (fun z => by subst z; rw [hr] at hy; cases hy) (fun z => by subst z; rw [ha] at hy; cases hy) h) ts2
/-- a helper as the reader holds it: (room, list of claims) -/
def RH (N : Addr → Prop) (H : Hp) (v : V) (h : Hlp) : Prop := ∃ (p e : Addr) (zs : List V), v = .ref p ∧ N e ∧ TupAt H p [.int h.2.2, .ref e] ∧ H e = some (.lst zs) ∧ Tps H zs (h.2.1.map clD)
theorem RH.mono {N N' : Addr → Prop} {H H' : Hp} (hN : ∀ e, N e → N' e) (f : ∀ e o, N e → H e = some o → H' e = some o) (ts : Tst H H') {v : V} {h : Hlp} (x : RH N H v h) : RH N' H' v h := by
  obtain ⟨p, e, zs, rfl, h1, h2, h3, h4⟩ := x
  exact ⟨p, e, zs, rfl, hN e h1, h2.mono ts, f _ _ h1 h3, h4.mono ts⟩
theorem W_claims : ∀ (cs : List (List Int × Int)) (H : Hp) (dx a b c p e : Addr) (k : Int) (xs ys : List V), (∀ m ∈ cs, okClaim m) → H r = some (.ins C dx (rdF a b c)) → H c = some (.lst (xs ++ [V.ref p])) → xs.length < 100000 → TupAt H p [V.int k, V.ref e] → H e = some (.lst ys) → ys.length + cs.length ≤ 6 → e ≠ c → e ≠ Z →
    (∀ (H' : Hp) (zs : List V), H' e = some (.lst (ys ++ zs)) → Tps H' zs (cs.map clD) → (∀ y o, y ≠ e → H y = some o → H' y = some o) → WR C r Z rest q H') → WR C r Z (cs.map Rw.cl ++ rest) q H
  | [], H, dx, a, b, c, p, e, k, xs, ys, ok, hr, hc, hx, tp, he, hy, ec, ez, kk => kk H [] (by rw [List.append_nil]; exact he) .nil fun _ _ _ h => h
  | m :: cs, H, dx, a, b, c, p, e, k, xs, ys, ok, hr, hc, hx, tp, he, hy, ec, ez, kk => by
    rw [List.length_cons] at hy
    have er : e ≠ r := fun z => by subst z; rw [he] at hr; cases hr
    refine fun H1 e1 => ⟨dx, a, b, c, p, e, k, xs, ys, e1 _ _ hr, e1 _ _ hc, hx, tp.mono (Same.ts e1), e1 _ _ he, by omega, ok m (List.mem_cons_self ..), ez, fun H2 x hx2 he2 f2 => ?_⟩
    have ts2 : Tst H1 H2 := tst_but1 f2 (e1 _ _ he) fun _ _ => HO.noConfusion
    refine W_claims cs H2 dx a b c p e k xs (ys ++ [x]) (fun t ht => ok t (List.mem_cons_of_mem _ ht)) (f2 _ _ (Ne.symm er) (e1 _ _ hr)) (f2 _ _ (Ne.symm ec) (e1 _ _ hc)) hx ((tp.mono (Same.ts e1)).mono ts2) he2 (by rw [List.length_append, List.length_singleton]; omega) ec ez fun H3 zs he3 tz f3 => ?_
    have ts3 : Tst H2 H3 := tst_but1 f3 he2 fun _ _ => HO.noConfusion
    exact kk H3 (x :: zs) (by rw [he3, List.append_assoc]; rfl) (.cons (hx2.mono ts3) tz) fun y o hy h => f3 y o hy (f2 y o hy (e1 _ _ h))
def rowsRH (h : Hlp) : List Rw := .hp h.2.2 :: h.2.1.map Rw.cl
theorem rowsRH_str (h : Hlp) : (rowsRH h).map Rw.str = rowsH h.2.1 h.2.2 := by
  show rowHd h.2.2 :: (h.2.1.map Rw.cl).map Rw.str = rowHd h.2.2 :: h.2.1.map rowC
  rw [List.map_map] ; rfl
theorem W_helpers : ∀ (hs : List Hlp) (H : Hp) (dx a b c : Addr) (xs : List V), (∀ h ∈ hs, okClaims h.2.1 ∧ 0 ≤ h.2.2 ∧ h.2.2 ≤ 4) → H r = some (.ins C dx (rdF a b c)) → H c = some (.lst xs) → xs.length + hs.length < 100000 → H Z ≠ none → c ≠ Z →
    (∀ (H' : Hp) (vs' : List V), H' c = some (.lst (xs ++ vs')) → All2 (RH (fun y => H y = none) H') vs' hs → (∀ y o, y ≠ c → H y = some o → H' y = some o) → WR C r Z rest q H') → WR C r Z ((hs.map rowsRH).flatten ++ rest) q H
  | [], H, dx, a, b, c, xs, ok, hr, hc, hx, hz, cz, kk => kk H [] (by rw [List.append_nil]; exact hc) trivial fun _ _ _ h => h
  | h :: hs, H, dx, a, b, c, xs, ok, hr, hc, hx, hz, cz, kk => by
    rw [List.length_cons] at hx
    rw [List.map_cons, List.flatten_cons, List.append_assoc]
    obtain ⟨o1, o2, o3⟩ := ok h (List.mem_cons_self ..)
    have cr : c ≠ r := fun z => by subst z; rw [hc] at hr; cases hr
    refine fun H1 e1 => ⟨dx, a, b, c, xs, e1 _ _ hr, e1 _ _ hc, by omega, o2, o3, cz, fun H2 e p ne he hp hc2 f2 => ?_⟩
    have ne0 := ex_free e1 ne
    have ec : e ≠ c := fun z => by subst z; rw [hc] at ne0; cases ne0
    refine W_claims h.2.1 H2 dx a b c p e h.2.2 xs [] o1.2 (f2 _ _ (Ne.symm cr) (e1 _ _ hr)) hc2 (by omega) hp he (by have := o1.1; simpa using this) ec (fun z => hz (z ▸ ne0)) fun H3 zs he3 tz f3 => ?_
    have ts3 : Tst H2 H3 := tst_but1 f3 he fun _ _ => HO.noConfusion
    have hc3 := f3 _ _ (Ne.symm ec) hc2
    have er : r ≠ e := fun z => by subst z; rw [hr] at ne0; cases ne0
    have f03 : ∀ y o, y ≠ c → H y = some o → H3 y = some o := fun y o hy hh => f3 y o (fun z => by subst z; rw [ne0] at hh; cases hh) (f2 y o hy (e1 _ _ hh))
    have dm := dom_but (fun y o h1 (_ : y ≠ c) h2 => f03 y o h1 h2) hc3 hc3
    refine W_helpers hs H3 dx a b c (xs ++ [.ref p]) (fun t ht => ok t (List.mem_cons_of_mem _ ht)) (f3 _ _ er (f2 _ _ (Ne.symm cr) (e1 _ _ hr))) hc3 (by rw [List.length_append, List.length_singleton]; omega) (keeps (fun y o h1 (_ : y ≠ c) h2 => f03 y o h1 h2) cz.symm cz.symm hz) cz fun H4 vs hc4 al f4 => ?_
    have ts4 : Tst H3 H4 := tst_but1 f4 hc3 fun _ _ => HO.noConfusion
    refine kk H4 (.ref p :: vs) (by rw [hc4, List.append_assoc]; rfl) ⟨⟨p, e, zs, rfl, ne0, (hp.mono ts3).mono ts4, f4 _ _ ec he3, tz.mono ts4⟩, al.imp fun _ _ z => z.mono (fun y hy => dm y hy) (fun _ _ _ h => h) (fun _ _ _ h => h)⟩ fun y o hy hh => f4 y o hy (f03 y o hy hh)
def rowsAll (ts : List Th) (hs : List Hlp) : List Rw := (ts.map (rowsR 2 0)).flatten ++ (hs.map rowsRH).flatten
theorem W_all (zr : Z ≠ r) {ts : List Th} {hs : List Hlp} {H : Hp} {dx a b c : Addr} (ot : ∀ t ∈ ts, Th.ok 2 t) (oh : ∀ h ∈ hs, okClaims h.2.1 ∧ 0 ≤ h.2.2 ∧ h.2.2 ≤ 4) (lt : ts.length < 1000) (lh : hs.length < 1000) (hr : H r = some (.ins C dx (rdF a b c))) (ha : H a = some (.lst [])) (hb : H b = some (.lst [])) (hc : H c = some (.lst [])) (ab : a ≠ b) (ac : a ≠ c) (hz : H Z ≠ none) (az : a ≠ Z) (cz : c ≠ Z)
    (k : ∀ (H' : Hp) (b' : Addr) (vs ws : List V), H' r = some (.ins C dx (rdF a b' c)) → H' a = some (.lst vs) → H' c = some (.lst ws) → All2 (RT (fun y => H y = none) H' 3) vs ts → All2 (RH (fun y => H y = none) H') ws hs → (∀ y o, y ≠ r → y ≠ a → y ≠ c → H y = some o → H' y = some o) → q H') : WR C r Z (rowsAll ts hs) q H := by
  have ar : a ≠ r := fun z => by subst z; rw [ha] at hr; cases hr
  have cr : c ≠ r := fun z => by subst z; rw [hc] at hr; cases hr
  refine W_things (rest := (hs.map rowsRH).flatten) zr ts H dx a b c [] [] ot hr hc hb (by decide) ha (by simpa using (by omega : ts.length < 100000)) ab ac hz az fun H1 b1 vs hr1 ha1 al1 f1 => ?_
  have hc1 := f1 _ _ cr (Ne.symm ac) hc
  have dm1 := dom_but f1 hr1 ha1
  rw [← List.append_nil (hs.map rowsRH).flatten]
  refine W_helpers (rest := []) hs H1 dx a b1 c [] oh hr1 hc1 (by simpa using (by omega : hs.length < 100000)) (keeps f1 zr az.symm hz) cz fun H2 ws hc2 al2 f2 H3 e3 => ?_
  have ts2 : Tst H1 H2 := tst_but1 f2 hc1 fun _ _ => HO.noConfusion
  refine k H3 b1 vs ws (e3 _ _ (f2 _ _ (Ne.symm cr) hr1)) (e3 _ _ (f2 _ _ ac ha1)) (e3 _ _ hc2) (al1.imp fun _ _ z => z.mono (fun _ h => h) (fun y o hy h => e3 _ _ (f2 y o (fun w => by subst w; rw [hc] at hy; cases hy) h)) (Tst.trans ts2 (Same.ts e3))) (al2.imp fun _ _ z => z.mono (fun y hy => dm1 y hy) (fun _ _ _ h => e3 _ _ h) (Same.ts e3)) fun y o h1 h2 h3 h => e3 _ _ (f2 y o h3 (f1 y o h1 h2 h))
end


end
end Dm
namespace Dm
open PySem PySem.Spec PyProof.Rows L2 Evl
section
variable {P : Program} {w : World} {K : PySem.W.Frag} {mg : Str → Option Value} {base : Heap}
/-! ### closed -/
def spClosed : Nat → Sp
  | 0 => fun _ _ _ _ => False
  | n + 1 => fun vs H Q _ => ∃ (N : Addr → Prop) (v : V) (t : Th), vs = [v] ∧ RT N H (n + 1) v t ∧ Th.ok n t ∧ ∀ (H' : Hp) (x : V), Same H H' → Tp H' x (Th.d t) → Q x H'
theorem closed_step (T : Txt K mg) {n : Nat} (ih : FnOk P w K mg base CX0 n T.closed.f T.closed.fd ["tree"] (spClosed n)) : FnOk P w K mg base CX0 (n + 1) T.closed.f T.closed.fd ["tree"] (spClosed (n + 1)) := by
  refine T.closed.F.ok sc_closed (fun vs H Q E h => ?_) (fun cdv A outer s H vs Q E hr h => ?_)
  · obtain ⟨N, v, t, rfl, _⟩ := h ; rfl
  obtain ⟨N, v, ⟨m, is⟩, rfl, rt, ok, q⟩ := h
  refine ⟨_, (pss_cons (ps_asg (pv 0) (pg_tupK (K := K) (n := 2) rfl rfl (pgs_cons (pg_name (i := 1) sc_closed.nd rfl (by first | exact Or.inl rfl | exact Or.inr rfl)) (pgs_cons (pg_name (i := 2) sc_closed.nd rfl (by first | exact Or.inl rfl | exact Or.inr rfl)) pgs_nil))))
  (pss_one (ps_ret (pe_tupF (pa_cons (pv 1) (pa_cons (pe_callTy (tupleK (K := K) rfl) (by rfl) T.z_tuple (by decide +kernel) (pa_cons (pe_lc (own := [("part", 3)]) rfl sc_closed.nd (pi_listK (K := K) rfl (pv 2)) (blkOk_by (own := [("part", 3)]) (N := ["tree", "marks", "inner", "part"]) (sc := defScope s_closed) (by decide +kernel)) (fun _ _ _ _ _ => by exact (pg_name (i := 3) sc_closed.nd rfl (by first | exact Or.inl rfl | exact Or.inr rfl))) (fun _ _ _ _ _ => pts_nil) (fun _ _ _ _ _ => (pe_call ih hr rfl T.closed.m T.closed.F.kp T.closed.b .nil pass0 (pa_cons (pv 3) pa_nil)))) pa_nil)) pa_nil)))))), ?_⟩
  obtain ⟨p, e, x, vs, rfl, _, tp, hx, he, al⟩ := rt
  have li := al.length
  have few := ok.few
  refine q_un2 (ev_var rfl) tp fun H1 e1 => ?_
  refine g_ret ?_
  refine ⟨x, rfl, ?_⟩
  refine ⟨.ref e, rfl, e, rfl, ⟨vs, SqL.of (e1 _ _ he)⟩, fun M hM => ?_⟩
  refine lc_list (xs := vs) (fun i H' => Same H1 H' ∧ ∃ acc, H' M = some (.lst acc) ∧ acc.length = i ∧ Tps H' acc ((is.take i).map Th.d)) ⟨Same.new hM, [], upd_same, rfl, .nil⟩ (fun i H' _ p => ex_l p.1 (SqL.of (e1 _ _ he))) (fun i y H' hy p => ?_) (fun H3 p => ?_)
  · obtain ⟨e3, acc, h3, la, tps⟩ := p
    obtain ⟨t, ht, rt'⟩ := al.get hy
    have hi : i < is.length := (List.getElem?_eq_some_iff.mp ht).1
    refine ⟨rfl, ?_⟩
    refine ⟨y, rfl, ?_⟩
    cases n with
    | zero => exact rt'.elim
    | succ k =>
      refine ⟨N, y, t, rfl, rt'.mono (fun _ h => h) (fun _ _ _ h => e3 _ _ (e1 _ _ h)) (Same.ts (e1.trans e3)), ok.2.2 t (List.mem_of_getElem? ht), fun H4 z e4 tz => ?_⟩
      have h4 := e4 _ _ h3
      have k5 : ∀ (u : Addr) (o : HO), u ≠ M → H4 u = some o → upd H4 M (.lst (acc ++ [z])) u = some o := fun u o hu h => by rw [upd_ne hu]; exact h
      have ts := tst_but1 k5 h4 fun _ _ => HO.noConfusion
      refine ⟨acc, h4, sz_lt (by omega), Same.put (e3.trans e4) hM, acc ++ [z], upd_same, by rw [List.length_append, la, List.length_singleton], ?_⟩
      rw [List.take_add_one, ht, Option.toList_some, List.map_append]
      exact ((tps.mono (Same.ts e4)).mono ts).append (.cons (tz.mono ts) .nil)
  obtain ⟨e3, acc, h3, la, tps⟩ := p
  rw [li, List.take_length] at tps
  refine ⟨M, _, rfl, .inl ⟨SqL.of h3, fun S o hS hd => ?_⟩⟩
  refine ⟨sz_of (by show 2 ≤ 100000; decide), fun p2 o2 hp2 hd2 => ?_⟩
  have e4 : Same H3 (upd H3 S (.frz o (.tup acc))) := Same.new hS
  have e5 : Same (upd H3 S (.frz o (.tup acc))) (upd (upd H3 S (.frz o (.tup acc))) p2 (.frz o2 (.tup [x, .ref S]))) := Same.new hp2
  have E := ((e1.trans e3).trans e4).trans e5
  refine q _ (.ref p2) E ?_
  rw [Th.d_mk]
  exact .tup ⟨o2, hd2, upd_same⟩ (.cons (hx.mono (Same.ts E)) (.cons (.tup (TupAt.mono (Same.ts e5) ⟨o, hd, upd_same⟩) (tps.mono (Same.ts (e4.trans e5)))) .nil))
theorem ok_closed (T : Txt K mg) : ∀ n, FnOk P w K mg base CX0 n T.closed.f T.closed.fd ["tree"] (spClosed n)
  | 0 => ⟨fun vs H Q E h => h.elim, fun A outer s H args us vs Q E _ _ _ _ h => h.elim⟩
  | n + 1 => closed_step T (ok_closed T n)


end
end Dm
namespace Dm
open PySem PySem.Spec PyProof.Rows L2 Evl
section
variable {P : Program} {w : World} {K : PySem.W.Frag} {mg : Str → Option Value} {base : Heap}
/-! ### take_row -/
def Rw.head : Rw → Str
  | .th _ _ => "thing"
  | .hp _ => "helper"
  | .cl _ => "claim"
def Rw.ints : Rw → List Int
  | .th d m => (d : Int) :: m
  | .hp k => [k]
  | .cl c => c.1 ++ [c.2]
def Rw.ok : Rw → Prop
  | .th d m => d ≤ 2 ∧ okMarks m
  | .hp k => 0 ≤ k ∧ k ≤ 4
  | .cl c => okClaim c
def small (i : Int) : Prop := -1 ≤ i ∧ i ≤ 9
theorem Rw.ok.small {x : Rw} (h : x.ok) : ∀ i ∈ x.ints, Dm.small i := by
  intro i hi
  cases x with
  | th d m =>
    obtain ⟨h1, h2⟩ := h
    rcases List.mem_cons.mp hi with rfl | hi
    · exact ⟨by omega, by omega⟩
    · have := h2.2 i hi ; exact ⟨by omega, by omega⟩
  | hp k =>
    obtain ⟨h1, h2⟩ := h
    rw [List.mem_singleton.mp hi]
    exact ⟨by omega, by omega⟩
  | cl c =>
    obtain ⟨h1, h2, h3, h4⟩ := h
    rcases List.mem_append.mp hi with hi | hi
    · exact h2 i hi
    · rw [List.mem_singleton.mp hi] ; exact ⟨by omega, by omega⟩
theorem small_eq {i : Int} (h : small i) : i = -1 ∨ i = 0 ∨ i = 1 ∨ i = 2 ∨ i = 3 ∨ i = 4 ∨ i = 5 ∨ i = 6 ∨ i = 7 ∨ i = 8 ∨ i = 9 := by
  obtain ⟨h1, h2⟩ := h ; omega
theorem blank_free {i : Int} (h : small i) : 32 ∉ TL.tl (tsI i) := by
  rcases small_eq h with rfl | rfl | rfl | rfl | rfl | rfl | rfl | rfl | rfl | rfl | rfl <;> decide +kernel
theorem cps_th : (Str.ofString "thing ").cps = (Str.ofString "thing").cps ++ (Str.ofString " ").cps := by decide +kernel
theorem cps_hp : (Str.ofString "helper ").cps = (Str.ofString "helper").cps ++ (Str.ofString " ").cps := by decide +kernel
theorem cps_cl : (Str.ofString "claim ").cps = (Str.ofString "claim").cps ++ (Str.ofString " ").cps := by decide +kernel
theorem cps_em : Str.empty.cps = #[] := rfl
theorem Rw.str_join {x : Rw} (h : x.ok) : x.str = Txt.join (" " : Str) (x.head :: x.ints.map tsI) := by
  cases x with
  | th d m =>
    obtain ⟨_, h2, _⟩ := h
    match m, h2 with
    | [a, b, c], _ =>
      show rowT d [a, b, c] = _
      apply Str.ext'
      simp [rowT, Rw.head, Rw.ints, Txt.join, Builtin.Str.glued, Str.cps_append, cps_th, cps_hp, cps_cl, cps_em, Array.append_assoc]
  | hp k =>
    show rowHd k = _
    apply Str.ext'
    simp [rowHd, Rw.head, Rw.ints, Txt.join, Builtin.Str.glued, Str.cps_append, cps_th, cps_hp, cps_cl, cps_em, Array.append_assoc]
  | cl c =>
    obtain ⟨h2, _⟩ := h
    obtain ⟨c, k⟩ := c
    match c, h2 with
    | [a, b, c], _ =>
      show rowC ([a, b, c], k) = _
      apply Str.ext'
      simp [rowC, Rw.head, Rw.ints, Txt.join, Builtin.Str.glued, Str.cps_append, cps_th, cps_hp, cps_cl, cps_em, Array.append_assoc]
theorem Rw.split {x : Rw} (h : x.ok) : Txt.split x.str (" " : Str) = x.head :: x.ints.map tsI := by
  rw [Rw.str_join h]
  refine TL.split_join (s := 32) (S := []) (by decide +kernel) (by decide +kernel) (by simp) fun p hp => ?_
  rcases List.mem_cons.mp hp with rfl | hp
  · cases x with
    | th d m => show 32 ∉ TL.tl (Str.ofString "thing"); decide +kernel
    | hp k => show 32 ∉ TL.tl (Str.ofString "helper"); decide +kernel
    | cl c => show 32 ∉ TL.tl (Str.ofString "claim"); decide +kernel
  · obtain ⟨i, hi, rfl⟩ := List.mem_map.mp hp
    exact blank_free (h.small i hi)
theorem Rw.len {x : Rw} (h : x.ok) : x.str.length + 2 ≤ sizeLine := by
  rw [sizeLine_eq]
  cases x with
  | th d m =>
    have := rowT_len (d := (d : Int)) (by have := h.1; omega) h.2
    show (rowT d m).length + 2 ≤ _
    omega
  | hp k =>
    have := (rowsH_all (cs := []) (r := k) ⟨by decide, fun _ z => nomatch z⟩ h.1 h.2).1 (rowHd k) (by simp [rowsH])
    show (rowHd k).length + 2 ≤ _
    omega
  | cl c =>
    have := (rowsH_all (cs := [c]) (r := 0) ⟨by simp, fun x z => by rw [List.mem_singleton.mp z]; exact h⟩ (by decide) (by decide)).1 (rowC c) (by simp [rowsH])
    show (rowC c).length + 2 ≤ _
    omega
theorem cutV_tail (v : V) (l : List V) : cutV (v :: l) (some 1) none = l := by
  have e : HT.sIx (v :: l).length 0 (some (1 : Int)) = 1 := by
    simp only [HT.sIx]
    rw [if_neg (by decide), List.length_cons]
    show min 1 (l.length + 1) = 1
    omega
  show (List.drop (HT.sIx (v :: l).length 0 (some 1)) (v :: l)).take (HT.sIx (v :: l).length (v :: l).length none - HT.sIx (v :: l).length 0 (some 1)) = l
  rw [e]
  show List.take (l.length + 1 - 1) l = l
  rw [Nat.add_sub_cancel, List.take_length]
structure FigD (K : PySem.W.Frag) (w : World) (D : Addr) : Prop where
  fig : KFig K w D
  val : ∀ i, small i → KVal K D (tsI i) (.int i)


end
end Dm
namespace Dm
open PySem PySem.Spec PyProof.Rows L2 Evl
section
variable {P : Program} {w : World} {K : PySem.W.Frag} {mg : Str → Option Value} {base : Heap}
/-! ### read -/
theorem lc_enumL {a : Addr} {xs : List V} {g : TG} {tt : TT} {te : TE} {vs : List Nat} {σ : L2.St} {H1 : Hp} {L : Addr} {Qd : Hp → Prop} (Pv : Nat → Hp → Prop) (h0 : Pv 0 (upd H1 L (.lst []))) (hl : ∀ i H, i ≤ xs.length → Pv i H → SqL K H a xs)
    (hs : ∀ (i : Nat) (x : V) (S : Addr) H, xs[i]? = some x → Pv i H → H S = none → g (.ref S) (wipe σ vs) (upd H S (.tup [.int (i : Nat), x])) fun σ2 H2 => wipe σ2 vs = wipe σ vs ∧ tt σ2 H2 fun b H3 =>
      if b = true then te σ2 H3 fun y H4 => ∃ acc, H4 L = some (.lst acc) ∧ acc.length < sizeLine ∧ Pv (i + 1) (upd H4 L (.lst (acc ++ [y]))) else Pv (i + 1) H3) (hd : ∀ H, Pv xs.length H → Qd H) :
    ∃ W : Nat → Nat → Hp → Prop, (∃ m, W 0 m (upd H1 L (.lst []))) ∧ ∀ i m H, W i m H →
      ((Ite K a).stop i H ∧ Qd H) ∨ ((Ite K a).go i H ∧ ∃ Nx : Hp → Prop, (∀ H', Nx H' → ∃ m', m' < m ∧ W (i + 1) m' H') ∧ ∀ x H', (Ite K a).yld i H x H' → g x (wipe σ vs) H' fun σ2 H2 => wipe σ2 vs = wipe σ vs ∧ tt σ2 H2 fun b H3 =>
        if b = true then te σ2 H3 fun y H4 => ∃ acc, H4 L = some (.lst acc) ∧ acc.length < sizeLine ∧ Nx (upd H4 L (.lst (acc ++ [y]))) else Nx H3) :=
  lc_any (J := Ite K a) (n := xs.length) Pv h0 (fun i H hi p => ⟨xs, xs[i], hl i H (Nat.le_of_lt hi) p, List.getElem?_eq_getElem hi⟩) (fun H p => ⟨xs, hl _ H (Nat.le_refl _) p, Nat.le_refl _⟩) (fun i v H H' hi p y => by
    obtain ⟨S, x, rfl, hS, rfl, hx⟩ := y
    exact hs i x S H (hx xs (hl i H (Nat.le_of_lt hi) p)) p hS) hd
theorem rowsW_bound {ts : List (Int × Th)} {hs : List Hlp} (okt : OkThings ts) (okh : OkHelpers hs) : (∀ r ∈ rowsW ts hs, r.length ≤ 10000) ∧ (rowsW ts hs).length ≤ 400 := by
  have l16 : ts.length ≤ 16 := by have := okt.nums.len; rwa [List.length_map] at this
  have h16 : hs.length ≤ 16 := by have := okh.nums.len; rwa [List.length_map] at this
  have l1 := flat_len (f := fun t : Int × Th => rowsM 2 0 t.2) (l := ts) (k := 16) fun t ht => rows_len (okt.ok t ht)
  have l3 := flat_len (f := fun h : Hlp => rowsH h.2.1 h.2.2) (l := hs) (k := 7) fun h hh => (rowsH_all (okh.ok h hh).1 (okh.ok h hh).2.1 (okh.ok h hh).2.2).2
  refine ⟨fun r hr' => ?_, by unfold rowsW; rw [List.length_append]; omega⟩
  rcases List.mem_append.mp hr' with z | z
  · obtain ⟨l, hl, hrl⟩ := List.mem_flatten.mp z
    obtain ⟨t, ht, rfl⟩ := List.mem_map.mp hl
    exact rowsM_all (okt.ok t ht) (by decide) (by decide) r hrl
  · obtain ⟨l, hl, hrl⟩ := List.mem_flatten.mp z
    obtain ⟨h', hh, rfl⟩ := List.mem_map.mp hl
    exact (rowsH_all (okh.ok h' hh).1 (okh.ok h' hh).2.1 (okh.ok h' hh).2.2).1 r hrl
theorem joinL_len {S : List Nat} : ∀ ps : List (List Nat), (TL.joinL S ps).length ≤ (ps.map (·.length)).sum + ps.length * S.length
  | [] => Nat.zero_le _
  | [p] => by show p.length ≤ (p.length + 0) + 1 * S.length; omega
  | p :: q :: r => by
    have := joinL_len (S := S) (q :: r)
    show (p ++ (S ++ TL.joinL S (q :: r))).length ≤ _
    rw [List.length_append, List.length_append, List.map_cons, List.sum_cons, List.length_cons, Nat.add_mul, Nat.one_mul]
    omega
theorem joinL_mem {S : List Nat} {c : Nat} : ∀ {ps : List (List Nat)}, c ∈ TL.joinL S ps → c ∈ S ∨ ∃ p ∈ ps, c ∈ p
  | [], h => nomatch h
  | [p], h => .inr ⟨p, List.mem_singleton.mpr rfl, h⟩
  | p :: q :: r, h => by
    rcases List.mem_append.mp (show c ∈ p ++ (S ++ TL.joinL S (q :: r)) from h) with h | h
    · exact .inr ⟨p, List.mem_cons_self .., h⟩
    rcases List.mem_append.mp h with h | h
    · exact .inl h
    · exact (joinL_mem h).imp id fun ⟨z, h1, h2⟩ => ⟨z, List.mem_cons_of_mem _ h1, h2⟩
theorem joinL_pre {S p : List Nat} : ∀ (ps : List (List Nat)), ∃ r, TL.joinL S (p :: ps) = p ++ r
  | [] => ⟨[], (List.append_nil _).symm⟩
  | q :: r => ⟨_, rfl⟩
theorem join_tl (y : Str) (ps : List Str) : TL.tl (Txt.join y ps) = TL.joinL (TL.tl y) (ps.map TL.tl) := by rw [TL.join_eq, TL.tl_join]
theorem join_len (y : Str) (ps : List Str) : (Txt.join y ps).length ≤ (ps.map (·.length)).sum + ps.length * y.length := by
  rw [TL.len_tl, join_tl]
  have := joinL_len (S := TL.tl y) (ps.map TL.tl)
  rw [List.map_map, List.length_map, ← TL.len_tl] at this
  have e : (ps.map ((·.length) ∘ TL.tl)) = ps.map (·.length) := List.map_congr_left fun x _ => (TL.len_tl x).symm
  rwa [e] at this
theorem line_free {i : Int} (h : small i) : 10 ∉ TL.tl (tsI i) := by
  rcases small_eq h with rfl | rfl | rfl | rfl | rfl | rfl | rfl | rfl | rfl | rfl | rfl <;> decide +kernel
theorem Rw.line {x : Rw} (h : x.ok) : 10 ∉ TL.tl x.str := by
  rw [Rw.str_join h, join_tl]
  intro z
  rcases joinL_mem z with z | ⟨p, hp, z⟩
  · exact absurd z (by decide +kernel)
  · obtain ⟨p', hq, rfl⟩ := List.mem_map.mp hp
    rcases List.mem_cons.mp hq with rfl | hq
    · cases x with
      | th d m => exact absurd (show 10 ∈ TL.tl (Str.ofString "thing") from z) (by decide +kernel)
      | hp k => exact absurd (show 10 ∈ TL.tl (Str.ofString "helper") from z) (by decide +kernel)
      | cl c => exact absurd (show 10 ∈ TL.tl (Str.ofString "claim") from z) (by decide +kernel)
    · obtain ⟨i, hi, rfl⟩ := List.mem_map.mp hq
      exact line_free (Rw.ok.small h i hi) z
theorem Rw.pos {x : Rw} (h : x.ok) : 0 < x.str.length := by
  rw [Rw.str_join h, TL.len_tl, join_tl, List.map_cons]
  obtain ⟨r, e⟩ := joinL_pre (S := TL.tl (" " : Str)) (p := TL.tl x.head) (x.ints.map tsI |>.map TL.tl)
  rw [e, List.length_append]
  have : 0 < (TL.tl x.head).length := by
    cases x with
    | th d m => show 0 < (TL.tl (Str.ofString "thing")).length; decide +kernel
    | hp k => show 0 < (TL.tl (Str.ofString "helper")).length; decide +kernel
    | cl c => show 0 < (TL.tl (Str.ofString "claim")).length; decide +kernel
  omega
theorem rowsR_ok : ∀ {n d : Nat} {t : Th}, Th.ok n t → d + n ≤ 2 → ∀ x ∈ rowsR n d t, x.ok
  | 0, d, .mk m is, ok, hd, x, hx => by
    rw [List.mem_singleton.mp hx]
    exact ⟨by omega, ok.1⟩
  | n + 1, d, .mk m is, ok, hd, x, hx => by
    rcases List.mem_cons.mp hx with rfl | hx
    · exact ⟨by omega, ok.1⟩
    · obtain ⟨l, hl, hx⟩ := List.mem_flatten.mp hx
      obtain ⟨t, ht, rfl⟩ := List.mem_map.mp hl
      exact rowsR_ok (ok.2.2 t ht) (by omega) x hx
theorem rowsAll_ok {ts : List Th} {hs : List Hlp} (ot : ∀ t ∈ ts, Th.ok 2 t) (oh : ∀ h ∈ hs, okClaims h.2.1 ∧ 0 ≤ h.2.2 ∧ h.2.2 ≤ 4) : ∀ x ∈ rowsAll ts hs, x.ok := by
  intro x hx
  rcases List.mem_append.mp hx with hx | hx
  · obtain ⟨l, hl, hx⟩ := List.mem_flatten.mp hx
    obtain ⟨t, ht, rfl⟩ := List.mem_map.mp hl
    exact rowsR_ok (ot t ht) (by decide) x hx
  · obtain ⟨l, hl, hx⟩ := List.mem_flatten.mp hx
    obtain ⟨h, hh, rfl⟩ := List.mem_map.mp hl
    obtain ⟨o1, o2, o3⟩ := oh h hh
    rcases List.mem_cons.mp hx with rfl | hx
    · exact ⟨o2, o3⟩
    · obtain ⟨c, hc, rfl⟩ := List.mem_map.mp hx
      exact o1.2 c hc
theorem rowsAll_str (ts : List (Int × Th)) (hs : List Hlp) : (rowsAll (ts.map (·.2)) hs).map Rw.str = rowsW ts hs := by
  unfold rowsAll rowsW
  rw [List.map_append, List.map_flatten, List.map_flatten, List.map_map, List.map_map, List.map_map]
  congr 2
  · refine List.map_congr_left fun t _ => ?_
    exact rowsR_str 2 0 t.2
  · refine List.map_congr_left fun h _ => ?_
    exact rowsRH_str h
theorem stepR.inst {C r Z : Addr} {q : Hp → Prop} {x : Rw} {H : Hp} (h : stepR C r Z x H q) : ∃ dx a b c, H r = some (.ins C dx (rdF a b c)) := by
  cases x with
  | th k m =>
    obtain ⟨dx, a, b, c, g, bs, xs, h1, h2, h3, h4, h5, h6, h7, h8, h9, k⟩ := h
    exact ⟨_, _, _, _, h1⟩
  | hp k =>
    obtain ⟨dx, a, b, c, xs, h1, h2, h3, h4, h5, h6, k⟩ := h
    exact ⟨_, _, _, _, h1⟩
  | cl m =>
    obtain ⟨dx, a, b, c, p, e, k, xs, ys, h1, h2, h3, h4, h5, h6, h7, h8, kk⟩ := h
    exact ⟨_, _, _, _, h1⟩
theorem From0.get {ns : List Int} (h : From0 ns) {i : Nat} {n : Int} (e : ns[i]? = some n) : n = (i : Int) := by
  have hi : i < ns.length := (List.getElem?_eq_some_iff.mp e).1
  rw [h, List.getElem?_map, List.getElem?_range hi] at e
  exact (Option.some.inj e).symm


end
end Dm
namespace Dm
open PySem PySem.Spec PyProof.Rows L2 Evl
section
variable {P : Program} {w : World} {K : PySem.W.Frag} {mg : Str → Option Value} {base : Heap}
/-! ### rows, as they are judged -/
def fig (z : Str) : Option Int := if z = "-1" then some (-1) else if z = "0" then some 0 else if z = "1" then some 1 else if z = "2" then some 2 else if z = "3" then some 3 else if z = "4" then some 4 else if z = "5" then some 5 else if z = "6" then some 6 else if z = "7" then some 7 else if z = "8" then some 8 else if z = "9" then some 9 else none
def optD : Option Int → PyData
  | none => .none
  | some i => .int i
theorem tp_opt {H : Hp} : ∀ {o : Option Int}, Tp H (optV o) (optD o)
  | none => .non
  | some i => .int i
abbrev Hq := List (List Int × Int) × Int
structure RdS where
  ts : List Th
  hs : List Hq
abbrev g0 (o : Option Int) : Int := o.getD 0
def lastQ (hs : List Hq) : Hq := hs.getLast?.getD ([], 0)
def stepT (S : RdS) : List (Option Int) → Option RdS
  | [d, x, y, z] => if isNum 0 2 (optD d) && isThree 0 (.tuple [optD x, optD y, optD z]) && S.hs.isEmpty && decide ((g0 d).toNat ≤ depS 3 S.ts) && (decide (g0 d = 0) || decide (wideAt (g0 d).toNat S.ts < 3))
      then some ⟨addAt (g0 d).toNat [g0 x, g0 y, g0 z] S.ts, S.hs⟩ else none
  | _ => none
def stepH (S : RdS) : List (Option Int) → Option RdS
  | [k] => if isNum 0 4 (optD k) then some ⟨S.ts, S.hs ++ [([], g0 k)]⟩ else none
  | _ => none
def stepC (S : RdS) : List (Option Int) → Option RdS
  | [x, y, z, u] => if isClaimD (.tuple [.tuple [optD x, optD y, optD z], optD u]) && !S.hs.isEmpty && decide ((lastQ S.hs).1.length < 6)
      then some ⟨S.ts, S.hs.dropLast ++ [((lastQ S.hs).1 ++ [([g0 x, g0 y, g0 z], g0 u)], (lastQ S.hs).2)]⟩ else none
  | _ => none
def stepW (S : RdS) (h : Str) (ns : List (Option Int)) : Option RdS := if h = "thing" then stepT S ns else if h = "helper" then stepH S ns else if h = "claim" then stepC S ns else none
def stepRow (S : RdS) (row : Str) : Option RdS := match Txt.split row (" " : Str) with
  | [] => none
  | h :: ws => stepW S h (ws.map fig)
def runRows : Nat → RdS → List Str → Nat ⊕ RdS
  | _, S, [] => .inr S
  | k, S, r :: rs => match stepRow S r with
    | none => .inl k
    | some S' => runRows (k + 1) S' rs
theorem num_some {lo hi : Int} {o : Option Int} (h : isNum lo hi (optD o) = true) : ∃ i, o = some i ∧ lo ≤ i ∧ i ≤ hi := by
  cases o with
  | none => cases h
  | some i =>
    have h : (decide (lo ≤ i) && decide (i ≤ hi)) = true := h
    rw [Bool.and_eq_true, decide_eq_true_iff, decide_eq_true_iff] at h
    exact ⟨i, rfl, h.1, h.2⟩
theorem three_some {low : Int} {x y z : Option Int} (h : isThree low (.tuple [optD x, optD y, optD z]) = true) : ∃ i j k, x = some i ∧ y = some j ∧ z = some k ∧ (low ≤ i ∧ i ≤ 9) ∧ (low ≤ j ∧ j ≤ 9) ∧ (low ≤ k ∧ k ≤ 9) := by
  have h : (isNum low 9 (optD x) && (isNum low 9 (optD y) && (isNum low 9 (optD z) && true))) = true := h
  rw [Bool.and_eq_true, Bool.and_eq_true, Bool.and_eq_true] at h
  obtain ⟨i, rfl, i1, i2⟩ := num_some h.1
  obtain ⟨j, rfl, j1, j2⟩ := num_some h.2.1
  obtain ⟨k, rfl, k1, k2⟩ := num_some h.2.2.1
  exact ⟨i, j, k, rfl, rfl, rfl, ⟨i1, i2⟩, ⟨j1, j2⟩, k1, k2⟩
structure SOk (n : Nat) (S : RdS) : Prop where
  ok : ∀ t ∈ S.ts, Th.ok 2 t
  oh : ∀ h ∈ S.hs, okClaims h.1 ∧ 0 ≤ h.2 ∧ h.2 ≤ 4
  lt : S.ts.length ≤ n
  lh : S.hs.length ≤ n
theorem stepT_some {S S' : RdS} {ns : List (Option Int)} (h : stepT S ns = some S') : ∃ (d : Nat) (x y z : Int), ns = [some (d : Int), some x, some y, some z] ∧ d ≤ 2 ∧ okMarks [x, y, z] ∧ S.hs = [] ∧ d ≤ depS 3 S.ts ∧ (d = 0 ∨ wideAt d S.ts < 3) ∧ S' = ⟨addAt d [x, y, z] S.ts, S.hs⟩ := by
  match ns, h with
  | [d, x, y, z], h =>
    rw [show stepT S [d, x, y, z] = if (isNum 0 2 (optD d) && isThree 0 (.tuple [optD x, optD y, optD z]) && S.hs.isEmpty && decide ((g0 d).toNat ≤ depS 3 S.ts) && (decide (g0 d = 0) || decide (wideAt (g0 d).toNat S.ts < 3))) = true then some ⟨addAt (g0 d).toNat [g0 x, g0 y, g0 z] S.ts, S.hs⟩ else none from rfl] at h
    split at h
    · rename_i c
      rw [Bool.and_eq_true, Bool.and_eq_true, Bool.and_eq_true, Bool.and_eq_true] at c
      obtain ⟨⟨⟨⟨c1, c2⟩, c3⟩, c4⟩, c5⟩ := c
      obtain ⟨d, rfl, d0, d2⟩ := num_some c1
      obtain ⟨x, y, z, rfl, rfl, rfl, hx, hy, hz⟩ := three_some c2
      obtain ⟨n, rfl⟩ : ∃ n : Nat, d = (n : Int) := ⟨d.toNat, by omega⟩
      have e : (g0 (some (n : Int))).toNat = n := rfl
      rw [e] at c4 c5 h
      refine ⟨n, x, y, z, rfl, by omega, ⟨rfl, fun i hi => ?_⟩, List.isEmpty_iff.mp c3, of_decide_eq_true c4, ?_, (Option.some.inj h).symm⟩
      · simp only [List.mem_cons, List.not_mem_nil, or_false] at hi
        rcases hi with rfl | rfl | rfl <;> omega
      · rcases Bool.or_eq_true_iff.mp c5 with z | z
        · have := of_decide_eq_true z
          have : (n : Int) = 0 := this
          exact .inl (by omega)
        · exact .inr (of_decide_eq_true z)
    · cases h
theorem stepH_some {S S' : RdS} {ns : List (Option Int)} (h : stepH S ns = some S') : ∃ k : Int, ns = [some k] ∧ 0 ≤ k ∧ k ≤ 4 ∧ S' = ⟨S.ts, S.hs ++ [([], k)]⟩ := by
  match ns, h with
  | [k], h =>
    rw [show stepH S [k] = if isNum 0 4 (optD k) = true then some ⟨S.ts, S.hs ++ [([], g0 k)]⟩ else none from rfl] at h
    split at h
    · rename_i c
      obtain ⟨k, rfl, k0, k4⟩ := num_some c
      exact ⟨k, rfl, k0, k4, (Option.some.inj h).symm⟩
    · cases h
theorem claim_some {x y z u : Option Int} (h : isClaimD (.tuple [.tuple [optD x, optD y, optD z], optD u]) = true) : ∃ i j k v, x = some i ∧ y = some j ∧ z = some k ∧ u = some v ∧ okClaim ([i, j, k], v) := by
  have h : (isThree (-1) (.tuple [optD x, optD y, optD z]) && isNum 0 9 (optD u)) = true := h
  rw [Bool.and_eq_true] at h
  obtain ⟨i, j, k, rfl, rfl, rfl, hi, hj, hk⟩ := three_some h.1
  obtain ⟨v, rfl, v0, v9⟩ := num_some h.2
  refine ⟨i, j, k, v, rfl, rfl, rfl, rfl, rfl, fun w hw => ?_, v0, v9⟩
  simp only [List.mem_cons, List.not_mem_nil, or_false] at hw
  rcases hw with rfl | rfl | rfl <;> omega
theorem stepC_some {S S' : RdS} {ns : List (Option Int)} (h : stepC S ns = some S') : ∃ (x y z u : Int) (us : List Hq) (cs : List (List Int × Int)) (k : Int), ns = [some x, some y, some z, some u] ∧ okClaim ([x, y, z], u) ∧ S.hs = us ++ [(cs, k)] ∧ cs.length < 6 ∧ S' = ⟨S.ts, us ++ [(cs ++ [([x, y, z], u)], k)]⟩ := by
  match ns, h with
  | [x, y, z, u], h =>
    rw [show stepC S [x, y, z, u] = if (isClaimD (.tuple [.tuple [optD x, optD y, optD z], optD u]) && !S.hs.isEmpty && decide ((lastQ S.hs).1.length < 6)) = true then some ⟨S.ts, S.hs.dropLast ++ [((lastQ S.hs).1 ++ [([g0 x, g0 y, g0 z], g0 u)], (lastQ S.hs).2)]⟩ else none from rfl] at h
    split at h
    · rename_i c
      rw [Bool.and_eq_true, Bool.and_eq_true] at c
      obtain ⟨⟨c1, c2⟩, c3⟩ := c
      obtain ⟨i, j, k, v, rfl, rfl, rfl, rfl, oc⟩ := claim_some c1
      obtain ⟨ts, hs⟩ := S
      rcases List.eq_nil_or_concat hs with rfl | ⟨us, q, rfl⟩
      · cases c2
      rw [List.concat_eq_append] at *
      obtain ⟨cs, kk⟩ := q
      have e : lastQ (us ++ [(cs, kk)]) = (cs, kk) := by unfold lastQ; rw [List.getLast?_concat]; rfl
      dsimp only at h c3
      rw [e, List.dropLast_concat] at h
      rw [e] at c3
      exact ⟨i, j, k, v, us, cs, kk, rfl, oc, rfl, of_decide_eq_true c3, (Option.some.inj h).symm⟩
    · cases h
theorem SOk.step {n : Nat} {S S' : RdS} {h : Str} {ns : List (Option Int)} (o : SOk n S) (e : stepW S h ns = some S') : SOk (n + 1) S' := by
  unfold stepW at e
  split at e
  · obtain ⟨d, x, y, z, _, d2, om, _, dd, dw, rfl⟩ := stepT_some e
    exact ⟨addAt_ok om o.ok d2 dw dd, o.oh, by have := addAt_len d [x, y, z] S.ts; have := o.lt; show (addAt d [x, y, z] S.ts).length ≤ _; omega, by have := o.lh; show S.hs.length ≤ _; omega⟩
  split at e
  · obtain ⟨k, _, k0, k4, rfl⟩ := stepH_some e
    refine ⟨o.ok, fun q hq => ?_, by have := o.lt; show S.ts.length ≤ _; omega, by have := o.lh; show (S.hs ++ [_]).length ≤ _; rw [List.length_append, List.length_singleton]; omega⟩
    rcases List.mem_append.mp hq with hq | hq
    · exact o.oh q hq
    · rw [List.mem_singleton.mp hq]
      exact ⟨⟨Nat.zero_le _, fun _ z => nomatch z⟩, k0, k4⟩
  split at e
  · obtain ⟨x, y, z, u, us, cs, k, _, oc, eh, lc, rfl⟩ := stepC_some e
    have lh := o.lh
    rw [eh, List.length_append, List.length_singleton] at lh
    refine ⟨o.ok, fun q hq => ?_, by have := o.lt; show S.ts.length ≤ _; omega, by show (us ++ [_]).length ≤ _; rw [List.length_append, List.length_singleton]; omega⟩
    rcases List.mem_append.mp hq with hq | hq
    · exact o.oh q (by rw [eh]; exact List.mem_append_left _ hq)
    · rw [List.mem_singleton.mp hq]
      obtain ⟨o1, o2, o3⟩ := o.oh (cs, k) (by rw [eh]; simp)
      refine ⟨⟨by rw [List.length_append]; exact lc, fun c hc => ?_⟩, o2, o3⟩
      rcases List.mem_append.mp hc with hc | hc
      · exact o1.2 c hc
      · rw [List.mem_singleton.mp hc] ; exact oc
  · cases e
/-- helpers as cells of (room, list of claims) -/
inductive HA (H : Hp) : List V → List Hq → List Addr → Prop
  | nil : HA H [] [] []
  | cons {p e : Addr} {k : Int} {zs vs : List V} {cs : List (List Int × Int)} {hs : List Hq} {l : List Addr} : TupAt H p [.int k, .ref e] → H e = some (.lst zs) → Tps H zs (cs.map clD) → HA H vs hs l → HA H (.ref p :: vs) ((cs, k) :: hs) (e :: l)
theorem HA.length {H : Hp} {vs : List V} {hs : List Hq} {l : List Addr} (h : HA H vs hs l) : vs.length = hs.length := by
  induction h with
  | nil => rfl
  | cons _ _ _ _ ih => rw [List.length_cons, List.length_cons, ih]
theorem HA.keep {H H' : Hp} {vs : List V} {hs : List Hq} {l : List Addr} (h : HA H vs hs l) (t : Tst H H') : (∀ y ∈ l, ∀ o, H y = some o → H' y = some o) → HA H' vs hs l := by
  induction h with
  | nil => exact fun _ => .nil
  | cons h1 h2 h3 h4 i1 =>
    intro k
    exact .cons (h1.mono t) (k _ (List.mem_cons_self ..) _ h2) (h3.mono t) (i1 fun y hy => k y (List.mem_cons_of_mem _ hy))
theorem HA.app {H : Hp} {vs : List V} {hs : List Hq} {l : List Addr} (h : HA H vs hs l) : ∀ {vs2 : List V} {hs2 : List Hq} {l2 : List Addr}, HA H vs2 hs2 l2 → HA H (vs ++ vs2) (hs ++ hs2) (l ++ l2) := by
  induction h with
  | nil => exact fun h2 => h2
  | cons h1 h2 h3 h4 i1 => exact fun k => .cons h1 h2 h3 (i1 k)
theorem HA.snoc {H : Hp} : ∀ {us : List Hq} {vs : List V} {cs : List (List Int × Int)} {k : Int} {l : List Addr}, HA H vs (us ++ [(cs, k)]) l → ∃ vs1 p e zs l1, vs = vs1 ++ [.ref p] ∧ HA H vs1 us l1 ∧ TupAt H p [.int k, .ref e] ∧ H e = some (.lst zs) ∧ Tps H zs (cs.map clD) ∧ l = l1 ++ [e]
  | [], vs, cs, k, l, h => by
    cases h with
    | cons h1 h2 h3 h4 =>
      cases h4
      exact ⟨[], _, _, _, [], rfl, .nil, h1, h2, h3, rfl⟩
  | u :: us, vs, cs, k, l, h => by
    cases h with
    | cons h1 h2 h3 h4 =>
      obtain ⟨vs1, p, e, zs, l1, rfl, k1, k2, k3, k4, rfl⟩ := HA.snoc h4
      exact ⟨_, p, e, zs, _, rfl, .cons h1 h2 h3 k1, k2, k3, k4, rfl⟩
/-- what the reader holds; m: the lists that may change -/
def RepP (C r dx : Addr) (H : Hp) (a b c : Addr) (S : RdS) (m : List Addr) : Prop := ∃ (vs path ws : List V) (l l2 : List Addr), H r = some (.ins C dx (rdF a b c)) ∧ H a = some (.lst vs) ∧ FA H 3 vs S.ts l ∧ H b = some (.lst path) ∧ Spine H vs path ∧ H c = some (.lst ws) ∧ HA H ws S.hs l2 ∧ m = a :: c :: (l ++ l2) ∧ m.Nodup ∧ b ∉ m
theorem Spine.keep {H H' : Hp} {vs path : List V} (h : Spine H vs path) (e : Same H H') : Spine H' vs path := by
  induction h with
  | nil => exact .nil
  | last h1 h2 h3 ih => exact .last (h1.mono (Same.ts e)) (e _ _ h2) ih
theorem RepP.same {C r dx : Addr} {H H' : Hp} {a b c : Addr} {S : RdS} {m : List Addr} (h : RepP C r dx H a b c S m) (e : Same H H') : RepP C r dx H' a b c S m := by
  obtain ⟨vs, path, ws, l, l2, h1, h2, h3, h4, h5, h6, h7, h8, h9, h10⟩ := h
  exact ⟨vs, path, ws, l, l2, e _ _ h1, e _ _ h2, h3.keep (Same.ts e) fun y _ o ho => e _ _ ho, e _ _ h4, h5.keep e, e _ _ h6, h7.keep (Same.ts e) fun y _ o ho => e _ _ ho, h8, h9, h10⟩
/-- how a row ends: taken, or not -/
def Out (C r dx : Addr) (H : Hp) (m : List Addr) (o : Option RdS) (Q : VK) : Prop :=
  (∀ S', o = some S' → ∀ (H' : Hp) (a' b' c' : Addr) (m' : List Addr), RepP C r dx H' a' b' c' S' m' → (∀ y ∈ m', y ∈ m ∨ H y = none) → (∀ y u, y ≠ r → y ∉ m → H y = some u → H' y = some u) → Q (V.bl true) H') ∧ (o = none → ∀ H', Same H H' → Q (V.bl false) H')
theorem Out.same {C r dx : Addr} {H H1 : Hp} {m : List Addr} {o : Option RdS} {Q : VK} (h : Out C r dx H m o Q) (e : Same H H1) : Out C r dx H1 m o Q :=
  ⟨fun S' hs H' a' b' c' m' h1 h2 h3 => h.1 S' hs H' a' b' c' m' h1 (fun y hy => (h2 y hy).imp id fun z => ex_free e z) fun y u h4 h5 h6 => h3 y u h4 h5 (e _ _ h6), fun z H' e2 => h.2 z H' (e.trans e2)⟩


end
end Dm
namespace Dm
open PySem PySem.Spec PyProof.Rows L2 Evl
section
variable {P : Program} {w : World} {K : PySem.W.Frag} {mg : Str → Option Value} {base : Heap}
/-! ### what a row does to what the reader holds -/
theorem HA.there {H : Hp} {vs : List V} {hs : List Hq} {l : List Addr} (h : HA H vs hs l) : ∀ {y : Addr}, y ∈ l → ∃ o, H y = some o := by
  induction h with
  | nil => exact fun z => nomatch z
  | cons h1 h2 h3 h4 i1 =>
    intro y hy
    rcases List.mem_cons.mp hy with rfl | hy
    · exact ⟨_, h2⟩
    · exact i1 hy
theorem HA.lists {H : Hp} {vs : List V} {hs : List Hq} {l : List Addr} (h : HA H vs hs l) : ∀ {y : Addr}, y ∈ l → ∃ zs, H y = some (.lst zs) := by
  induction h with
  | nil => exact fun z => nomatch z
  | cons h1 h2 h3 h4 i1 =>
    intro y hy
    rcases List.mem_cons.mp hy with rfl | hy
    · exact ⟨_, h2⟩
    · exact i1 hy
theorem RepP.addH {C r dx : Addr} {H : Hp} {a b c : Addr} {S : RdS} {m : List Addr} (h : RepP C r dx H a b c S m) : ∃ ws, H r = some (.ins C dx (rdF a b c)) ∧ H c = some (.lst ws) ∧ ws.length = S.hs.length ∧ c ∈ m ∧
    ∀ (H' : Hp) (e p : Addr) (k : Int), H e = none → H' e = some (.lst []) → TupAt H' p [V.int k, V.ref e] → H' c = some (.lst (ws ++ [V.ref p])) → (∀ y o, y ≠ c → H y = some o → H' y = some o) →
      ∃ m', RepP C r dx H' a b c ⟨S.ts, S.hs ++ [([], k)]⟩ m' ∧ (∀ y ∈ m', y ∈ m ∨ H y = none) := by
  obtain ⟨vs, path, ws, l, l2, h1, h2, h3, h4, h5, h6, h7, rfl, h9, h10⟩ := h
  refine ⟨ws, h1, h6, h7.length, by simp, fun H' e p k ne he hp hc f => ?_⟩
  obtain ⟨n1, n2⟩ := List.nodup_cons.mp h9
  obtain ⟨n3, n4⟩ := List.nodup_cons.mp n2
  have cr : c ≠ r := fun z => by subst z; rw [h6] at h1; cases h1
  have ac : a ≠ c := fun z => n1 (by simp [z])
  have bc : b ≠ c := fun z => h10 (by simp [z])
  have ts : Tst H H' := tst_but1 f h6 fun _ _ => HO.noConfusion
  have cl : ∀ y ∈ l ++ l2, y ≠ c := fun y hy z => n3 (z ▸ hy)
  have ein : e ∉ a :: c :: (l ++ l2) := fun z => by
    have : ∃ o, H e = some o := by
      rcases List.mem_cons.mp z with rfl | z
      · exact ⟨_, h2⟩
      rcases List.mem_cons.mp z with rfl | z
      · exact ⟨_, h6⟩
      rcases List.mem_append.mp z with z | z
      · exact FA.there h3 z
      · exact HA.there h7 z
    obtain ⟨o, ho⟩ := this
    rw [ne] at ho ; cases ho
  refine ⟨a :: c :: (l ++ (l2 ++ [e])), ⟨vs, path, ws ++ [.ref p], l, l2 ++ [e], f _ _ (Ne.symm cr) h1, f _ _ ac h2, h3.keep ts fun y hy o ho => f y o (cl y (List.mem_append_left _ hy)) ho, f _ _ bc h4, h3.spine h5 ts fun y hy o ho => f y o (cl y (List.mem_append_left _ hy)) ho, hc, (h7.keep ts fun y hy o ho => f y o (cl y (List.mem_append_right _ hy)) ho).app (.cons hp he .nil .nil), rfl, ?_, ?_⟩, fun y hy => ?_⟩
  · rw [← List.append_assoc, ← List.cons_append, ← List.cons_append]
    exact List.nodup_append.mpr ⟨h9, by simp, fun x hx y hy z => ein (by rw [List.mem_singleton.mp hy] at z; exact z ▸ hx)⟩
  · rw [← List.append_assoc, ← List.cons_append, ← List.cons_append]
    intro z
    rcases List.mem_append.mp z with z | z
    · exact h10 z
    · rw [List.mem_singleton.mp z] at h4 ; rw [ne] at h4 ; cases h4
  · rw [← List.append_assoc, ← List.cons_append, ← List.cons_append] at hy
    rcases List.mem_append.mp hy with z | z
    · exact .inl z
    · rw [List.mem_singleton.mp z] ; exact .inr ne
theorem RepP.addC {C r dx : Addr} {H : Hp} {a b c : Addr} {S : RdS} {m : List Addr} (h : RepP C r dx H a b c S m) {us : List Hq} {cs : List (List Int × Int)} {k : Int} (eh : S.hs = us ++ [(cs, k)]) :
    ∃ ws p e zs, H r = some (.ins C dx (rdF a b c)) ∧ H c = some (.lst (ws ++ [V.ref p])) ∧ ws.length + 1 = S.hs.length ∧ TupAt H p [V.int k, V.ref e] ∧ H e = some (.lst zs) ∧ zs.length = cs.length ∧ e ∈ m ∧
      ∀ (H' : Hp) (x : V) (cl : List Int × Int), Tp H' x (clD cl) → H' e = some (.lst (zs ++ [x])) → (∀ y o, y ≠ e → H y = some o → H' y = some o) → RepP C r dx H' a b c ⟨S.ts, us ++ [(cs ++ [cl], k)]⟩ m := by
  obtain ⟨vs, path, ws, l, l2, h1, h2, h3, h4, h5, h6, h7, rfl, h9, h10⟩ := h
  rw [eh] at h7
  have hl := h7.length
  obtain ⟨ws1, p, e, zs, l3, rfl, k1, k2, k3, k4, rfl⟩ := h7.snoc
  have lz : zs.length = cs.length := by rw [k4.length, List.length_map]
  refine ⟨ws1, p, e, zs, h1, h6, by rw [eh, List.length_append, List.length_singleton]; rw [List.length_append, List.length_append] at hl; simp at hl; omega, k2, k3, lz, by simp, fun H' x cl hx he f => ?_⟩
  obtain ⟨n1, n2⟩ := List.nodup_cons.mp h9
  obtain ⟨n3, n4⟩ := List.nodup_cons.mp n2
  obtain ⟨n5, n6, n7⟩ := List.nodup_append.mp n4
  obtain ⟨n8, n9, n10⟩ := List.nodup_append.mp n6
  have er : r ≠ e := fun z => by subst z; rw [k3] at h1; cases h1
  have ae : a ≠ e := fun z => n1 (by simp [z])
  have ce : c ≠ e := fun z => n3 (by simp [z])
  have be : b ≠ e := fun z => h10 (by simp [z])
  have ts : Tst H H' := tst_but1 f k3 fun _ _ => HO.noConfusion
  have fl : ∀ y ∈ l, ∀ o, H y = some o → H' y = some o := fun y hy o ho => f y o (n7 y hy e (by simp)) ho
  refine ⟨vs, path, ws1 ++ [.ref p], l, l3 ++ [e], f _ _ er h1, f _ _ ae h2, h3.keep ts fl, f _ _ be h4, h3.spine h5 ts fl, f _ _ ce h6, ?_, rfl, h9, h10⟩
  refine (k1.keep ts fun y hy o ho => f y o (n10 y hy e (by simp)) ho).app (.cons (k2.mono ts) he ?_ .nil)
  rw [List.map_append]
  exact (k4.mono ts).append (.cons hx .nil)
theorem RepP.addT {C r dx : Addr} {H : Hp} {a b c : Addr} {S : RdS} {m : List Addr} (h : RepP C r dx H a b c S m) {d : Nat} (hd2 : d ≤ 2) (hd : d ≤ depS 3 S.ts) (hw : d = 0 ∨ wideAt d S.ts < 3) (ln : S.ts.length < 100000) :
    ∃ path g xs, H r = some (.ins C dx (rdF a b c)) ∧ H b = some (.lst path) ∧ path.length = depS 3 S.ts ∧ Grow H a path d g xs ∧ g ≠ b ∧ g ∈ m ∧
      ∀ (H' : Hp) (e p b' : Addr) (x : V) (mk : List Int), H e = none → H b' = none → Tp H' x (mkD mk) → H' e = some (.lst []) → TupAt H' p [x, .ref e] → H' g = some (.lst (xs ++ [.ref p])) → H' r = some (.ins C dx (rdF a b' c)) → H' b' = some (.lst (path.take d ++ [.ref p])) → (∀ y o, y ≠ r → y ≠ g → H y = some o → H' y = some o) →
        ∃ m', RepP C r dx H' a b' c ⟨addAt d mk S.ts, S.hs⟩ m' ∧ (∀ y ∈ m', y ∈ m ∨ H y = none) := by
  obtain ⟨vs, path, ws, l, l2, h1, h2, h3, h4, h5, h6, h7, rfl, h9, h10⟩ := h
  have lp := Spine.len h3 h5
  obtain ⟨n1, n2⟩ := List.nodup_cons.mp h9
  obtain ⟨n3, n4⟩ := List.nodup_cons.mp n2
  obtain ⟨n5, n6, n7⟩ := List.nodup_append.mp n4
  have ar : a ≠ r := fun z => by subst z; rw [h2] at h1; cases h1
  have cr : c ≠ r := fun z => by subst z; rw [h6] at h1; cases h1
  have br : b ≠ r := fun z => by subst z; rw [h4] at h1; cases h1
  have lr : ∀ y ∈ l, y ≠ r := fun y hy z => by
    subst z
    obtain ⟨ws', hw'⟩ := FA.lists h3 hy
    rw [h1] at hw' ; cases hw'
  have l2r : ∀ y ∈ l2, y ≠ r := fun y hy z => by
    subst z
    obtain ⟨ws', hw'⟩ := HA.lists h7 hy
    rw [h1] at hw' ; cases hw'
  have there : ∀ y ∈ a :: c :: (l ++ l2), ∃ o, H y = some o := fun y z => by
    rcases List.mem_cons.mp z with rfl | z
    · exact ⟨_, h2⟩
    rcases List.mem_cons.mp z with rfl | z
    · exact ⟨_, h6⟩
    rcases List.mem_append.mp z with z | z
    · exact FA.there h3 z
    · exact HA.there h7 z
  have fresh : ∀ e, H e = none → e ∉ a :: c :: (l ++ l2) := fun e he z => by
    obtain ⟨o, ho⟩ := there e z
    rw [he] at ho ; cases ho
  -- the new lists together
  have fin : ∀ {H' : Hp} {e p b' : Addr} {x : V} {mk : List Int} {g : Addr} {xs : List V} {vs' : List V} {l' : List Addr}, H e = none → H b' = none → g ∈ a :: l → H g = some (.lst xs) → H' r = some (.ins C dx (rdF a b' c)) → H' a = some (.lst vs') → FA H' 3 vs' (addAt d mk S.ts) l' → (∀ y, y ∈ l' ↔ y ∈ l ∨ y = e) → l'.Nodup → H' e = some (.lst []) → H' b' = some (.lst (path.take d ++ [.ref p])) → Spine H' vs' (path.take d ++ [.ref p]) →
      (∀ y o, y ≠ r → y ≠ g → H y = some o → H' y = some o) → Tst H H' → ∃ m', RepP C r dx H' a b' c ⟨addAt d mk S.ts, S.hs⟩ m' ∧ (∀ y ∈ m', y ∈ a :: c :: (l ++ l2) ∨ H y = none) := by
    intro H' e p b' x mk g xs vs' l' he hb' hg hgx hr' ha' fa' ml nl he' hb'' sp' f ts
    have cg : c ≠ g := fun z => by
      rcases List.mem_cons.mp hg with hg | hg
      · exact n1 (by rw [← hg, ← z]; simp)
      · exact n3 (List.mem_append_left _ (z ▸ hg))
    have l2g : ∀ y ∈ l2, y ≠ g := fun y hy z => by
      rcases List.mem_cons.mp hg with hg | hg
      · exact n1 (by rw [← hg, ← z]; simp [hy])
      · exact n7 g hg y hy z.symm
    have ne := fresh e he
    have eb : e ≠ b' := fun z => by
      subst z
      have w := HO.lst.inj (Option.some.inj (he'.symm.trans hb''))
      exact absurd (congrArg List.length w) (by rw [List.length_append]; exact Nat.ne_of_lt (Nat.lt_of_lt_of_le Nat.zero_lt_one (Nat.le_add_left _ _)))
    refine ⟨a :: c :: (l' ++ l2), ⟨vs', _, ws, l', l2, hr', ha', fa', hb'', sp', f _ _ cr cg h6, h7.keep ts fun y hy o ho => f y o (l2r y hy) (l2g y hy) ho, rfl, ?_, ?_⟩, fun y hy => ?_⟩
    · refine List.nodup_cons.mpr ⟨fun z => ?_, List.nodup_cons.mpr ⟨fun z => ?_, List.nodup_append.mpr ⟨nl, n6, fun y hy y' hy' z => ?_⟩⟩⟩
      · rcases List.mem_cons.mp z with z | z
        · exact n1 (by simp [z])
        rcases List.mem_append.mp z with z | z
        · rcases (ml a).mp z with z | z
          · exact n1 (by simp [z])
          · exact ne (by simp [z])
        · exact n1 (by simp [z])
      · rcases List.mem_append.mp z with z | z
        · rcases (ml c).mp z with z | z
          · exact n3 (by simp [z])
          · exact ne (by simp [z])
        · exact n3 (by simp [z])
      · rcases (ml y).mp hy with hy | hy
        · exact n7 y hy y' hy' z
        · exact ne (by rw [← hy, z]; simp [hy'])
    · intro z
      have old : ∀ y ∈ a :: c :: (l ++ l2), y ≠ b' := fun y hy w => by
        obtain ⟨o, ho⟩ := there y hy
        rw [w, hb'] at ho ; cases ho
      rcases List.mem_cons.mp z with z | z
      · exact old a (by simp) z.symm
      rcases List.mem_cons.mp z with z | z
      · exact old c (by simp) z.symm
      rcases List.mem_append.mp z with z | z
      · rcases (ml b').mp z with z | z
        · exact old b' (by simp [z]) rfl
        · exact eb z.symm
      · exact old b' (by simp [z]) rfl
    · rcases List.mem_cons.mp hy with rfl | hy
      · exact .inl (by simp)
      rcases List.mem_cons.mp hy with rfl | hy
      · exact .inl (by simp)
      rcases List.mem_append.mp hy with hy | hy
      · rcases (ml y).mp hy with hy | rfl
        · exact .inl (by simp [hy])
        · exact .inr he
      · exact .inl (by simp [hy])
  cases d with
  | zero =>
    refine ⟨path, a, vs, h1, h4, lp, ⟨h2, .inl ⟨rfl, rfl, by rw [h3.length]; exact ln⟩⟩, fun z => h10 (by simp [z]), by simp, fun H' e p b' x mk he hb' hx he' hp hg hr' hb'' f => ?_⟩
    have ts : Tst H H' := tst_but f h1 h2 (fun _ _ => HO.noConfusion) (fun _ _ => HO.noConfusion)
    have fl : ∀ y ∈ l, ∀ o, H y = some o → H' y = some o := fun y hy o ho => f y o (lr y hy) (fun z => n1 (by rw [← z]; simp [hy])) ho
    have ne := fresh e he
    refine fin (x := x) (l' := l ++ [e]) he hb' (by simp) h2 hr' hg ((h3.keep ts fl).app (FA.leaf (n := 2) hp hx he')) (fun y => by simp) (List.nodup_append.mpr ⟨n5, by simp, fun y hy y' hy' z => ne (by rw [List.mem_singleton.mp hy'] at z; rw [← z]; simp [hy])⟩) he' hb'' ?_ f ts
    rw [List.take_zero, List.nil_append]
    exact .last hp he' .nil
  | succ d =>
    obtain ⟨p0, x0, g, xs, b1, b2, b3, b4, b5, b6⟩ := FA.grow d h3 n5 h5 (by rw [lp]; exact hd) (by omega)
    refine ⟨path, g, xs, h1, h4, lp, ⟨b3, .inr ⟨d, p0, x0, rfl, b1, b2, by rw [b5]; exact hw.resolve_left (by omega)⟩⟩, fun z => h10 (by rw [← z]; simp [b4]), by simp [b4], fun H' e p b' x mk he hb' hx he' hp hg hr' hb'' f => ?_⟩
    have ts : Tst H H' := tst_but f h1 b3 (fun _ _ => HO.noConfusion) (fun _ _ => HO.noConfusion)
    have ne := fresh e he
    have ag : a ≠ g := fun z => n1 (by rw [z]; simp [b4])
    obtain ⟨l', c1, c2, c3, c4⟩ := b6 H' p e x mk (fun y o hy hn ho => f y o (lr y hy) hn ho) ts hg hp hx he' fun z => ne (by simp [z])
    exact fin (x := x) he hb' (by simp [b4]) b3 hr' (f _ _ ar ag h2) c1 c3 c2 he' hb'' c4 f ts


end
end Dm
namespace Dm
open PySem PySem.Spec PyProof.Rows L2 Evl
section
variable {P : Program} {w : World} {K : PySem.W.Frag} {mg : Str → Option Value} {base : Heap}
/-! ### the reader's methods, whatever the row -/
theorem fn_or {CX : CXT} {n : Nat} {f : Addr} {fd : FuncData} {ps : List Str} {sp1 sp2 : Sp} (F1 : FnOk P w K mg base CX n f fd ps sp1) (F2 : FnOk P w K mg base CX n f fd ps sp2) : FnOk P w K mg base CX n f fd ps (fun vs H Q E => sp1 vs H Q E ∨ sp2 vs H Q E) := by
  obtain ⟨a1, b1⟩ := F1
  obtain ⟨a2, b2⟩ := F2
  refine ⟨fun vs H Q E h => h.elim (a1 vs H Q E) (a2 vs H Q E), fun A outer s H args us vs Q E h1 h2 h3 h4 h => ?_⟩
  rcases h with h | h
  · exact b1 A outer s H args us vs Q E h1 h2 h3 h4 h
  · exact b2 A outer s H args us vs Q E h1 h2 h3 h4 h
def spTakeH (C : Addr) : Sp := fun vs H Q _ => ∃ (r dx a b c : Addr) (k : Option Int) (S : RdS) (m : List Addr), vs = [.ref r, optV k] ∧ RepP C r dx H a b c S m ∧ S.hs.length < 100000 ∧ Out C r dx H m (stepH S [k]) Q
theorem ok_Reader_take_helper (T : Txt K mg) : FnOk P w K mg base CX0 2 T.Reader_take_helper.f T.Reader_take_helper.fd ["self", "room"] (spTakeH T.C_Reader) := by
  refine T.Reader_take_helper.F.ok sc_Reader_take_helper (fun vs H Q E h => ?_) (fun cdv A outer s H vs Q E hr h => ?_)
  · obtain ⟨r, dx, a, b, c, k, S, m, rfl, _⟩ := h ; rfl
  obtain ⟨r, dx, a, b, c, k, S, m, rfl, rep, hz, out⟩ := h
  refine ⟨_, (pss_cons (ps_if (pt_not (pt_val (pe_call (ok_is_number T) (hr.mono (by decide)) rfl T.is_number.m T.is_number.F.kp T.is_number.b .nil pass0 (pa_cons (pv 1) (pa_cons pe_int (pa_cons (pe_glob (v := .int (4)) rfl T.c_MOST_ROOM ⟨_, rfl⟩) pa_nil)))))) (pss_one (ps_ret pe_bl)) pss_nil)
  (pss_cons (ps_expr (pe_bm PySem.F.plainAttrs_list PySem.F.slot_list_append PySem.F.type_list_append mt_append (pe_fld (pv 0) rfl) (pa_cons (pe_tupF (pa_cons (pv 1) (pa_cons (pe_lst pa_nil) pa_nil))) pa_nil)))
  (pss_one (ps_ret pe_bl)))), ?_⟩
  have e0 : stepH S [k] = if isNum 0 4 (optD k) = true then some ⟨S.ts, S.hs ++ [([], g0 k)]⟩ else none := rfl
  refine q_when (b := !isNum 0 4 (optD k)) (et_not (et_B (ev_pv (ea_cons (ev_var rfl) (ea_cons ev_c (ea_cons ev_c ea_nil))) fun H3 e3 => ⟨optV k, optD k, 0, 4, rfl, tp_opt, rfl⟩))) (fun z H1 e1 => ?_) (fun z H1 e1 => ?_)
  · rw [Bool.not_eq_true'] at z
    rw [z] at e0
    exact s_ret ev_c fun H2 e2 => out.2 e0 H2 (e1.trans e2)
  rw [Bool.not_eq_false'] at z
  obtain ⟨i, rfl, i0, i4⟩ := num_some z
  rw [z, if_pos rfl] at e0
  obtain ⟨xs, hr0, hc, lx, cm, rp⟩ := rep.addH
  have hr1 := e1 _ _ hr0
  have hc1 := e1 _ _ hc
  refine g_seq ⟨.ref r, rfl, r, T.C_Reader, dx, _, .ref c, rfl, hr1, T.k_Reader.c, T.n_Reader_staff, rfl, .inl ⟨rfl, xs, SqL.of hc1⟩, .int i, rfl, (el_lst ea_nil (by decide)) H1 (Ex.refl H1) _ fun e H2 ne e2 h2 => ⟨sz_of (by show 2 ≤ 100000; decide), fun p o hp hd => ⟨c, xs, .ref p, rfl, rfl, ?_, sz_lt (by omega), ?_⟩⟩⟩
  · exact (Same.new hp) _ _ (e2 _ _ hc1)
  · have hpc : p ≠ c := (ne_of_none (e2 _ _ hc1) hp).symm
    have hec : e ≠ c := (ne_of_none hc1 ne).symm
    have hpe : p ≠ e := (ne_of_none h2 hp).symm
    have f : ∀ y u, y ≠ c → H y = some u → upd (upd H2 p (.frz o (.tup [.int i, .ref e]))) c (.lst (xs ++ [.ref p])) y = some u := fun y u hy hh => by
      rw [upd_ne hy]; exact (Same.new hp) _ _ (e2 _ _ (e1 _ _ hh))
    obtain ⟨m', r1, r2⟩ := rp _ e p i (ex_free e1 ne) (by rw [upd_ne hec, upd_ne hpe.symm]; exact h2) ⟨o, hd, by rw [upd_ne hpc]; exact upd_same⟩ upd_same f
    exact out.1 _ e0 _ a b c m' r1 r2 fun y u _ hm hh => f y u (fun z => hm (z ▸ cm)) hh
def spTakeC (C : Addr) : Sp := fun vs H Q _ => ∃ (r dx a b c : Addr) (v : V) (x y z u : Option Int) (S : RdS) (m : List Addr), vs = [.ref r, v] ∧ Tp H v (.tuple [.tuple [optD x, optD y, optD z], optD u]) ∧ RepP C r dx H a b c S m ∧ S.hs.length < 100000 ∧ (∀ h ∈ S.hs, h.1.length ≤ 6) ∧ Out C r dx H m (stepC S [x, y, z, u]) Q
theorem ok_Reader_take_claim (T : Txt K mg) : FnOk P w K mg base CX0 5 T.Reader_take_claim.f T.Reader_take_claim.fd ["self", "claim"] (spTakeC T.C_Reader) := by
  refine T.Reader_take_claim.F.ok sc_Reader_take_claim (fun vs H Q E h => ?_) (fun cdv A outer s H vs Q E hr h => ?_)
  · obtain ⟨r, dx, a, b, c, v, x, y, z, u, S, m, rfl, _⟩ := h ; rfl
  obtain ⟨r, dx, a, b, c, v, x, y, z, u, S, m, rfl, tv, rep, hz, l6, out⟩ := h
  refine ⟨_, (pss_cons (ps_if (PW.pt (pw_or (pt_not (pt_val (pe_call (ok_is_claim T) (hr.mono (by decide)) rfl T.is_claim.m T.is_claim.F.kp T.is_claim.b .nil pass0 (pa_cons (pv 1) pa_nil)))) (pw_or1 (pt_not (pt_truth (pe_fld (pv 0) rfl) (by intro _; rfl)))))) (pss_one (ps_ret pe_bl)) pss_nil)
  (pss_cons (ps_asg (pe_ix (ixK (K := K) rfl) (pe_fld (pv 0) rfl) (pe_un un_neg pe_int) (fun _ _ => rfl)) (pg_tupK (K := K) (n := 2) rfl rfl (pgs_cons (pg_name (i := 2) sc_Reader_take_claim.nd rfl (by first | exact Or.inl rfl | exact Or.inr rfl)) (pgs_cons (pg_name (i := 3) sc_Reader_take_claim.nd rfl (by first | exact Or.inl rfl | exact Or.inr rfl)) pgs_nil))))
  (pss_cons (ps_if (pt_cmpR op_ge (pe_callB (lenK (K := K) rfl) (by rfl) T.z_len PySem.boot_len (pa_cons (pv 3) pa_nil)) (pe_glob (v := .int (6)) rfl T.c_MOST_CLAIMS ⟨_, rfl⟩) (nomark _)) (pss_one (ps_ret pe_bl)) pss_nil)
  (pss_cons (ps_expr (pe_bm PySem.F.plainAttrs_list PySem.F.slot_list_append PySem.F.type_list_append mt_append (pv 3) (pa_cons (pv 1) pa_nil)))
  (pss_one (ps_ret pe_bl)))))), ?_⟩
  have e0 : stepC S [x, y, z, u] = if (isClaimD (.tuple [.tuple [optD x, optD y, optD z], optD u]) && !S.hs.isEmpty && decide ((lastQ S.hs).1.length < 6)) = true then some ⟨S.ts, S.hs.dropLast ++ [((lastQ S.hs).1 ++ [([g0 x, g0 y, g0 z], g0 u)], (lastQ S.hs).2)]⟩ else none := rfl
  generalize hD : PyData.tuple [.tuple [optD x, optD y, optD z], optD u] = D at tv e0
  have rep' := rep
  obtain ⟨vs, path, ws, l, l2, h1, h2, h3, h4, h5, h6, h7, h8, h9, h10⟩ := rep'
  have lw := h7.length
  refine q_when (b := !(isClaimD D) || S.hs.isEmpty) (fun H1 e1 Q1 q1 => (ev_pv (ea_cons (ev_var rfl) ea_nil) fun H3 e3 => ⟨v, D, rfl, tv.mono (Same.ts (Same.trans e1 e3)), rfl⟩) H1 (Ex.refl H1) _ fun H2 e2 => ⟨isClaimD D, rfl, ?_⟩) (fun z H1 e1 => ?_) (fun z H1 e1 => ?_)
  · cases hc : isClaimD D with
    | false => rw [hc] at q1; exact q1 H2 e2
    | true =>
      rw [hc] at q1
      refine ⟨.ref r, rfl, r, T.C_Reader, dx, _, .ref c, rfl, e2 _ _ (e1 _ _ h1), T.k_Reader.c, T.n_Reader_staff, rfl, !S.hs.isEmpty, .inl ⟨_, SqL.of (e2 _ _ (e1 _ _ h6)), ?_⟩, ?_⟩
      · cases hh : S.hs with
        | nil => rw [hh] at lw; rw [List.length_eq_zero_iff.mp lw]; rfl
        | cons q qs =>
          rw [hh] at lw
          cases ws with
          | nil => simp at lw
          | cons _ _ => rfl
      · show Q1 (!!S.hs.isEmpty) H2
        rw [Bool.not_not]
        exact q1 H2 e2
  · refine s_ret ev_c fun H2 e2 => out.2 ?_ H2 (e1.trans e2)
    rw [e0, if_neg]
    intro w
    rw [Bool.and_eq_true, Bool.and_eq_true] at w
    rw [w.1.1] at z
    rw [Bool.not_eq_true'] at w
    rw [w.1.2] at z
    cases z
  rw [Bool.or_eq_false_iff, Bool.not_eq_false'] at z
  obtain ⟨zc, ze⟩ := z
  subst hD
  obtain ⟨i, j, k, n, rfl, rfl, rfl, rfl, oc⟩ := claim_some zc
  obtain ⟨ts, hs⟩ := S
  dsimp only at ze l6 hz lw h7
  rcases List.eq_nil_or_concat hs with rfl | ⟨us, q, rfl⟩
  · cases ze
  rw [List.concat_eq_append] at *
  obtain ⟨cs, kk⟩ := q
  obtain ⟨xs, p, e, ys, hr0, hc, lx, hp, he, ly, em, rp⟩ := rep.addC (us := us) (cs := cs) (k := kk) rfl
  have el : lastQ (us ++ [(cs, kk)]) = (cs, kk) := by unfold lastQ; rw [List.getLast?_concat]; rfl
  dsimp only at e0 lx
  rw [el, List.dropLast_concat, zc, ze, Bool.true_and, Bool.not_false, Bool.true_and] at e0
  have hr1 := e1 _ _ hr0
  have hc1 := e1 _ _ hc
  have hp1 := hp.mono (Same.ts e1)
  refine g_seq ((ev_ixL (xs := xs ++ [V.ref p]) (v := V.ref p) (i := -1) (fun H2 e2 Q q => ⟨.ref r, rfl, r, T.C_Reader, dx, _, .ref c, rfl, e2 _ _ hr1, T.k_Reader.c, T.n_Reader_staff, rfl, q H2 (Ex.refl H2)⟩) (fun H2 _ Q q => ⟨1, rfl, q H2 (Ex.refl H2)⟩) (SqL.of hc1) (atI_last _ _)) H1 (Ex.refl H1) _ fun H2 e2 => ⟨p, _, rfl, (hp1.mono (Same.ts e2)).sq, rfl, ?_⟩)
  refine ⟨_, _, rfl, _, _, rfl, rfl, ?_⟩
  have he2 := e2 _ _ (e1 _ _ he)
  dsimp only [gName]
  refine q_when (b := decide ((6 : Int) ≤ (ys.length : Int))) (et_test (ev_op (ev_len (ev_var rfl) (SqL.of he2)) ev_c rv_I0)) (fun z H3 e3 => ?_) (fun z H3 e3 => ?_)
  · have z := of_decide_eq_true z
    refine s_ret ev_c fun H4 e4 => out.2 ?_ H4 (((e1.trans e2).trans e3).trans e4)
    rw [e0, if_neg]
    intro w
    have w : cs.length < 6 := of_decide_eq_true w
    omega
  have z := of_decide_eq_false z
  rw [decide_eq_true (show cs.length < 6 by omega), if_pos rfl] at e0
  have he3 := e3 _ _ he2
  have tv3 := tv.mono (Same.ts ((e1.trans e2).trans e3))
  refine g_seq ⟨.ref e, rfl, .inl ⟨rfl, ys, SqL.of he3⟩, v, rfl, e, ys, v, rfl, rfl, he3, sz_lt (by omega), ?_⟩
  have f : ∀ y u, y ≠ e → H y = some u → upd H3 e (.lst (ys ++ [v])) y = some u := fun y u hy hh => by
    rw [upd_ne hy]
    exact e3 _ _ (e2 _ _ (e1 _ _ hh))
  have k3 : ∀ y u, y ≠ e → H3 y = some u → upd H3 e (.lst (ys ++ [v])) y = some u := fun y u hy hh => by rw [upd_ne hy]; exact hh
  exact out.1 _ e0 _ a b c m (rp _ v ([i, j, k], n) (tv3.mono (tst_but1 k3 he3 fun _ _ => HO.noConfusion)) upd_same f) (fun y hy => .inl hy) fun y u _ hm hh => f y u (fun z => hm (z ▸ em)) hh


end
end Dm
namespace Dm
open PySem PySem.Spec PyProof.Rows L2 Evl
section
variable {P : Program} {w : World} {K : PySem.W.Frag} {mg : Str → Option Value} {base : Heap}
/-! ### take_thing, whatever the row -/
theorem dep_le : ∀ (n : Nat) (ts : List Th), depS n ts ≤ n
  | 0, ts => Nat.le_refl _
  | n + 1, ts => by
    rcases List.eq_nil_or_concat ts with rfl | ⟨us, t, rfl⟩
    · exact Nat.zero_le _
    · rw [List.concat_eq_append]
      obtain ⟨m, is⟩ := t
      rw [depS_snoc]
      have := dep_le n is
      omega
def spTakeTF (C : Addr) : Sp := fun vs H Q _ => ∃ (r dx a b c : Addr) (v : V) (d x y z : Option Int) (S : RdS) (m : List Addr), vs = [.ref r, optV d, v] ∧ Tp H v (.tuple [optD x, optD y, optD z]) ∧ RepP C r dx H a b c S m ∧ stepT S [d, x, y, z] = none ∧ ∀ H', Same H H' → Q (V.bl false) H'
theorem ok_take_thingF (T : Txt K mg) : FnOk P w K mg base CX0 5 T.Reader_take_thing.f T.Reader_take_thing.fd ["self", "deep", "marks"] (spTakeTF T.C_Reader) := by
  refine T.Reader_take_thing.F.ok sc_Reader_take_thing (fun vs H Q E h => ?_) (fun cdv A outer s H vs Q E hr h => ?_)
  · obtain ⟨r, dx, a, b, c, v, d, x, y, z, S, m, rfl, _⟩ := h ; rfl
  obtain ⟨r, dx, a, b, c, v, d, x, y, z, S, m, rfl, tv, rep, no, q⟩ := h
  refine ⟨_, (pss_cons (ps_if (PW.pt (pw_or (pt_not (pt_val (pe_call (ok_is_number T) (hr.mono (by decide)) rfl T.is_number.m T.is_number.F.kp T.is_number.b .nil pass0 (pa_cons (pv 1) (pa_cons pe_int (pa_cons (pe_glob (v := .int (2)) rfl T.c_MOST_DEEP ⟨_, rfl⟩) pa_nil)))))) (pw_or1 (pt_not (pt_val (pe_call (ok_is_marks T) (hr.mono (by decide)) rfl T.is_marks.m T.is_marks.F.kp T.is_marks.b .nil pass0 (pa_cons (pv 2) pa_nil))))))) (pss_one (ps_ret pe_bl)) pss_nil)
  (pss_cons (ps_if (PW.pt (pw_or (pt_truth (pe_fld (pv 0) rfl) (by intro _; rfl)) (pw_or1 (pt_cmpR op_gt (pv 1) (pe_callB (lenK (K := K) rfl) (by rfl) T.z_len PySem.boot_len (pa_cons (pe_fld (pv 0) rfl) pa_nil)) (nomark _))))) (pss_one (ps_ret pe_bl)) pss_nil)
  (pss_cons (ps_set (i := 3) sc_Reader_take_thing.nd rfl (by first | exact Or.inl rfl | exact Or.inr rfl) (pe_fld (pv 0) rfl))
  (pss_cut (ps_if (pt_cmpR op_gt (pv 1) pe_int (nomark _)) (pss_cons (ps_asg (pe_ix (ixK (K := K) rfl) (pe_fld (pv 0) rfl) (pe_op op_sub (pv 1) pe_int) (fun _ _ => rfl)) (pg_tupK (K := K) (n := 2) rfl rfl (pgs_cons (pg_name (i := 5) sc_Reader_take_thing.nd rfl (by first | exact Or.inl rfl | exact Or.inr rfl)) (pgs_cons (pg_name (i := 3) sc_Reader_take_thing.nd rfl (by first | exact Or.inl rfl | exact Or.inr rfl)) pgs_nil))))
  (pss_one (ps_if (pt_cmpR op_ge (pe_callB (lenK (K := K) rfl) (by rfl) T.z_len PySem.boot_len (pa_cons (pv 3) pa_nil)) (pe_glob (v := .int (3)) rfl T.c_MOST_WITHIN ⟨_, rfl⟩) (nomark _)) (pss_one (ps_ret pe_bl)) pss_nil))) pss_nil)
  (pss_cons (ps_set (i := 4) sc_Reader_take_thing.nd rfl (by first | exact Or.inl rfl | exact Or.inr rfl) (pe_tupF (pa_cons (pv 2) (pa_cons (pe_lst pa_nil) pa_nil))))
  (pss_cons (ps_expr (pe_bm PySem.F.plainAttrs_list PySem.F.slot_list_append PySem.F.type_list_append mt_append (pv 3) (pa_cons (pv 4) pa_nil)))
  (pss_cons (ps_fld (pv 0) (pe_op op_cat (pe_slice sl_list (pe_fld (pv 0) rfl) po_none (po_some (pv 1))) (pe_lst (pa_cons (pv 4) pa_nil))) rfl)
  (pss_one (ps_ret pe_bl))))))))), ?_⟩
  have e0 : stepT S [d, x, y, z] = if (isNum 0 2 (optD d) && isThree 0 (.tuple [optD x, optD y, optD z]) && S.hs.isEmpty && decide ((g0 d).toNat ≤ depS 3 S.ts) && (decide (g0 d = 0) || decide (wideAt (g0 d).toNat S.ts < 3))) = true then some ⟨addAt (g0 d).toNat [g0 x, g0 y, g0 z] S.ts, S.hs⟩ else none := rfl
  rw [e0] at no
  obtain ⟨vs, path, ws, l, l2, h1, h2, h3, h4, h5, h6, h7, h8, h9, h10⟩ := rep
  have lw := h7.length
  have lp := Spine.len h3 h5
  refine q_when (b := !(isNum 0 2 (optD d)) || !(isThree 0 (.tuple [optD x, optD y, optD z]))) (fun H1 e1 Q1 q1 => (ev_pv (ea_cons (ev_var rfl) (ea_cons ev_c (ea_cons ev_c ea_nil))) fun H3 e3 => ⟨optV d, optD d, 0, 2, rfl, tp_opt, rfl⟩) H1 (Ex.refl H1) _ fun H2 e2 => ⟨isNum 0 2 (optD d), rfl, ?_⟩) (fun _ H1 e1 => s_ret ev_c fun H2 e2 => q H2 (e1.trans e2)) (fun z' H1 e1 => ?_)
  · cases hc : isNum 0 2 (optD d) with
    | false => rw [hc] at q1; exact q1 H2 e2
    | true =>
      rw [hc] at q1
      exact (ev_pv (ea_cons (ev_var rfl) ea_nil) fun H3 e3 => ⟨v, _, rfl, tv.mono (Same.ts (e1.trans (e2.trans e3))), rfl⟩) H2 (Ex.refl H2) _ fun H3 e3 => ⟨_, rfl, q1 H3 (e2.trans e3)⟩
  rw [Bool.or_eq_false_iff, Bool.not_eq_false', Bool.not_eq_false'] at z'
  obtain ⟨zn, zt⟩ := z'
  rw [zn, zt, Bool.true_and, Bool.true_and] at no
  obtain ⟨i, rfl, i0, i2⟩ := num_some zn
  obtain ⟨k, rfl⟩ : ∃ k : Nat, i = (k : Int) := ⟨i.toNat, by omega⟩
  have eg : (g0 (some (k : Int))).toNat = k := rfl
  have eg' : g0 (some (k : Int)) = (k : Int) := rfl
  rw [eg, eg'] at no
  have hr1 := e1 _ _ h1
  have hc1 := e1 _ _ h6
  have hb1 := e1 _ _ h4
  refine q_when (b := (!S.hs.isEmpty) || decide ((path.length : Int) < (k : Int))) (fun H2 e2 Q1 q1 => ⟨.ref r, rfl, r, T.C_Reader, dx, _, .ref c, rfl, e2 _ _ hr1, T.k_Reader.c, T.n_Reader_staff, rfl, !S.hs.isEmpty, .inl ⟨_, SqL.of (e2 _ _ hc1), ?_⟩, ?_⟩) (fun _ H2 e2 => s_ret ev_c fun H3 e3 => q H3 ((e1.trans e2).trans e3)) (fun z' H2 e2 => ?_)
  · cases hh : S.hs with
    | nil => rw [hh] at lw; rw [List.length_eq_zero_iff.mp lw]; rfl
    | cons q qs =>
      rw [hh] at lw
      cases ws with
      | nil => simp at lw
      | cons _ _ => rfl
  · cases hc : S.hs.isEmpty with
    | false => rw [hc] at q1; exact q1 H2 (Ex.refl H2)
    | true =>
      rw [hc] at q1
      refine (et_test (ev_op (ev_var rfl) (ev_len (fun H3 e3 Q q => ⟨.ref r, rfl, r, T.C_Reader, dx, _, .ref b, rfl, e3 _ _ (e2 _ _ hr1), T.k_Reader.c, T.n_Reader_path, rfl, q H3 (Ex.refl H3)⟩) (SqL.of (e2 _ _ hb1))) rv_I0)) H2 (Ex.refl H2) _ fun H3 e3 => ?_
      exact q1 H3 e3
  rw [Bool.or_eq_false_iff, Bool.not_eq_false'] at z'
  obtain ⟨ze, zd⟩ := z'
  have zd := of_decide_eq_false zd
  rw [ze, Bool.true_and, decide_eq_true (show k ≤ depS 3 S.ts by omega), Bool.true_and] at no
  have E2 := e1.trans e2
  obtain ⟨j, rfl⟩ : ∃ j, k = j + 1 := by
    cases k with
    | zero => rw [decide_eq_true (by rfl), Bool.true_or, if_pos rfl] at no; cases no
    | succ j => exact ⟨j, rfl⟩
  rw [decide_eq_false (show ¬ (((j + 1 : Nat) : Int) = 0) by omega), Bool.false_or] at no
  have wide : ¬ wideAt (j + 1) S.ts < 3 := fun w => by rw [decide_eq_true w, if_pos rfl] at no; cases no
  obtain ⟨n1, n2⟩ := List.nodup_cons.mp (h8 ▸ h9)
  obtain ⟨n3, n4⟩ := List.nodup_cons.mp n2
  obtain ⟨n5, _, _⟩ := List.nodup_append.mp n4
  obtain ⟨p, x0, g, xs, b1, b2, b3, b4, b5, _⟩ := FA.grow j h3 n5 h5 (by omega) (by omega)
  refine q_asg (v := .ref a) (fun H3 e3 Q q => ⟨.ref r, rfl, r, T.C_Reader, dx, _, .ref a, rfl, e3 _ _ (e2 _ _ hr1), T.k_Reader.c, T.n_Reader_trees, rfl, q H3 (Ex.refl H3)⟩) fun H3 e3 => ?_
  have E3 := E2.trans e3
  refine q_cut (M := fun _ _ => False) ?_ (fun σ' H4 M => M.elim)
  refine (et_test (ev_op (ev_var rfl) ev_c rv_I0)) H3 (Ex.refl H3) _ fun H4 e4 => ?_
  have z : decide ((0 : Int) < ((j + 1 : Nat) : Int)) = true := decide_eq_true (by omega)
  rw [z]
  simp only [↓reduceIte]
  have E4 := E3.trans e4
  refine g_seq ((ev_ixL (xs := path) (v := .ref p) (i := (j : Int)) (fun H5 e5 Q q => ⟨.ref r, rfl, r, T.C_Reader, dx, _, .ref b, rfl, e5 _ _ (E4 _ _ h1), T.k_Reader.c, T.n_Reader_path, rfl, q H5 (Ex.refl H5)⟩) (fun H5 e5 Q q => ⟨.int ((j + 1 : Nat) : Int), rfl, _, _, rfl, rfl, by dsimp only; rw [show (((j + 1 : Nat) : Int) - 1) = (j : Int) by omega]; exact q H5 (Ex.refl H5)⟩) (SqL.of (E4 _ _ h4)) (atI_nat b1)) H4 (Ex.refl H4) _ fun H5 e5 => ⟨p, _, rfl, (b2.mono (Same.ts (E4.trans e5))).sq, rfl, ?_⟩)
  refine ⟨_, _, rfl, _, _, rfl, rfl, ?_⟩
  dsimp only [gName]
  have E5 := E4.trans e5
  refine (et_test (ev_op (ev_len (ev_var rfl) (SqL.of (E5 _ _ b3))) ev_c rv_I0)) H5 (Ex.refl H5) _ fun H6 e6 => ?_
  have z2 : decide ((3 : Int) ≤ (xs.length : Int)) = true := decide_eq_true (by omega)
  rw [z2]
  simp only [↓reduceIte]
  exact s_ret ev_c fun H7 e7 => q H7 ((E5.trans e6).trans e7)
def spTakeT (C : Addr) : Sp := fun vs H Q _ => ∃ (r dx a b c : Addr) (v : V) (d x y z : Option Int) (S : RdS) (m : List Addr), vs = [.ref r, optV d, v] ∧ Tp H v (.tuple [optD x, optD y, optD z]) ∧ RepP C r dx H a b c S m ∧ S.ts.length < 100000 ∧ Out C r dx H m (stepT S [d, x, y, z]) Q
theorem ok_Reader_take_thingG (T : Txt K mg) : FnOk P w K mg base CX0 5 T.Reader_take_thing.f T.Reader_take_thing.fd ["self", "deep", "marks"] (spTakeT T.C_Reader) := by
  refine (fn_or (ok_Reader_take_thing T) (ok_take_thingF T)).imp fun vs H Q E h => ?_
  obtain ⟨r, dx, a, b, c, v, d, x, y, z, S, m, rfl, tv, rep, ln, out⟩ := h
  cases hs : stepT S [d, x, y, z] with
  | none => exact .inr ⟨r, dx, a, b, c, v, d, x, y, z, S, m, rfl, tv, rep, hs, fun H' e => out.2 hs H' e⟩
  | some S' =>
    obtain ⟨k, i, j, n, en, k2, om, eh, kd, kw, rfl⟩ := stepT_some hs
    simp only [List.cons.injEq, and_true] at en
    obtain ⟨rfl, rfl, rfl, rfl⟩ := en
    obtain ⟨path, g, xs, hr, hb, lp, gr, gb, gm, rp⟩ := rep.addT k2 kd kw ln
    have hc : H c = some (.lst []) := by
      obtain ⟨vs, path, ws, l, l2, h1, h2, h3, h4, h5, h6, h7, h8, h9, h10⟩ := rep
      rw [eh] at h7
      rw [h6, List.length_eq_zero_iff.mp h7.length]
    refine .inl ⟨r, dx, a, b, c, g, v, [i, j, n], k, path, xs, rfl, hr, hc, hb, ?_, k2, gr, gb, tv, om, fun H' e p b' ne nb he hp hg hr' hb' f => ?_⟩
    · rw [lp]
      exact dep_le 3 S.ts
    · have ts : Tst H H' := tst_but f hr gr.1 (fun _ _ => HO.noConfusion) (fun _ _ => HO.noConfusion)
      obtain ⟨m', r1, r2⟩ := rp H' e p b' v [i, j, n] ne nb (tv.mono ts) he hp hg hr' hb' f
      exact out.1 _ hs H' a b' c m' r1 r2 fun y u hy hm hh => f y u hy (fun z => hm (z ▸ gm)) hh


end
end Dm
namespace Dm
open PySem PySem.Spec PyProof.Rows L2 Evl
section
variable {P : Program} {w : World} {K : PySem.W.Frag} {mg : Str → Option Value} {base : Heap}
/-! ### take_row, whatever the row -/
theorem spl_len (S : List Nat) : ∀ (l : List Nat) (k : Nat) (acc : List Nat), 1 ≤ (TL.spl S k acc l).length ∧ (TL.spl S k acc l).length ≤ l.length + 1
  | [], k, acc => by rw [TL.spl_nil]; exact ⟨Nat.le_refl _, by simp⟩
  | c :: r, 0, acc => by
    cases h : TL.pre S (c :: r) with
    | true =>
      rw [TL.spl_hit h, List.length_cons, List.length_cons]
      have := spl_len S r (S.length - 1) []
      omega
    | false =>
      rw [TL.spl_miss h, List.length_cons]
      have := spl_len S r 0 (acc ++ [c])
      omega
  | c :: r, k + 1, acc => by
    rw [show TL.spl S (k + 1) acc (c :: r) = TL.spl S k acc r from rfl, List.length_cons]
    have := spl_len S r k acc
    omega
theorem split_len (x y : Str) (h1 : TL.tl y ≠ []) (h2 : y.cps.all (· < 256) = true) : 1 ≤ (Txt.split x y).length ∧ (Txt.split x y).length ≤ x.length + 1 := by
  have := spl_len (TL.tl y) (TL.tl x) 0 []
  rw [← TL.split_spl x y h1 (TL.kind_ok h2), List.length_map, ← TL.len_tl] at this
  exact this
theorem split_blank (x : Str) : ∃ h ws, Txt.split x (" " : Str) = h :: ws ∧ ws.length ≤ x.length := by
  have := split_len x (" " : Str) (by decide +kernel) (by decide +kernel)
  cases e : Txt.split x (" " : Str) with
  | nil => rw [e] at this; exact absurd this.1 (by decide)
  | cons h ws =>
    rw [e, List.length_cons] at this
    exact ⟨h, ws, rfl, by omega⟩
structure FigW (K : PySem.W.Frag) (w : World) (D : Addr) : Prop where
  fig : KFig K w D
  val : ∀ z, KVal K D z (optV (Dm.fig z))
theorem len4 {ns : List (Option Int)} : ns.length = 4 → ∃ a b c d, ns = [a, b, c, d] := by
  intro h
  match ns, h with
  | [a, b, c, d], _ => exact ⟨a, b, c, d, rfl⟩
theorem stepT_len {S : RdS} {ns : List (Option Int)} (h : ns.length ≠ 4) : stepT S ns = none := by
  unfold stepT
  split
  · exact absurd rfl h
  · rfl
theorem stepC_len {S : RdS} {ns : List (Option Int)} (h : ns.length ≠ 4) : stepC S ns = none := by
  unfold stepC
  split
  · exact absurd rfl h
  · rfl
theorem stepH_len {S : RdS} {ns : List (Option Int)} (h : ns.length ≠ 1) : stepH S ns = none := by
  unfold stepH
  split
  · exact absurd rfl h
  · rfl
def spRowG (C : Addr) : Sp := fun vs H Q _ => ∃ (r dx a b c : Addr) (row : Str) (S : RdS) (m : List Addr), vs = [.ref r, .str row] ∧ row.length ≤ 90000 ∧ RepP C r dx H a b c S m ∧ S.ts.length < 100000 ∧ S.hs.length < 100000 ∧ (∀ h ∈ S.hs, h.1.length ≤ 6) ∧ Out C r dx H m (stepRow S row) Q
theorem ok_Reader_take_row (T : Txt K mg) (hD : FigW K w T.D_FIGURES) : FnOk P w K mg base CX0 6 T.Reader_take_row.f T.Reader_take_row.fd ["self", "row"] (spRowG T.C_Reader) := by
  refine T.Reader_take_row.F.ok sc_Reader_take_row (fun vs H Q E h => ?_) (fun cdv A outer s H vs Q E hr h => ?_)
  · obtain ⟨r, dx, a, b, c, row, S, m, rfl, _⟩ := h ; rfl
  obtain ⟨r, dx, a, b, c, row, S, m, rfl, lr, rep, lt, lh, l6, out⟩ := h
  refine ⟨_, (pss_cons (ps_set (i := 2) sc_Reader_take_row.nd rfl (by first | exact Or.inl rfl | exact Or.inr rfl) (pe_split (pv 1) pe_str))
  (pss_cons (ps_set (i := 3) sc_Reader_take_row.nd rfl (by first | exact Or.inl rfl | exact Or.inr rfl) (pe_callTy (tupleK (K := K) rfl) (by rfl) T.z_tuple (by decide +kernel) (pa_cons (pe_lc (own := [("word", 4)]) rfl sc_Reader_take_row.nd (pi_listK (K := K) rfl (pe_slice sl_list (pv 2) (po_some pe_int) po_none)) (blkOk_by (own := [("word", 4)]) (N := ["self", "row", "words", "numbers", "word"]) (sc := defScope s_Reader_take_row) (by decide +kernel)) (fun _ _ _ _ _ => by exact (pg_name (i := 4) sc_Reader_take_row.nd rfl (by first | exact Or.inl rfl | exact Or.inr rfl))) (fun _ _ _ _ _ => pts_nil) (fun _ _ _ _ _ => (pe_kget (K := K) (w := w) rfl rfl (pe_glob (v := .ref T.D_FIGURES) rfl T.d_FIGURES rfl) (pv 4) ⟨rfl, rfl, rfl, rfl⟩))) pa_nil)))
  (pss_cons (ps_if (pt_cmpR op_eq (pe_ix (ixK (K := K) rfl) (pv 2) pe_int (fun _ _ => rfl)) pe_str (nomark _)) (pss_one (ps_ret (pe_and (pe_cmpR op_eq (pe_callB (lenK (K := K) rfl) (by rfl) T.z_len PySem.boot_len (pa_cons (pv 3) pa_nil)) pe_int (nomark _)) (pe_one (pe_meth (pv 0) T.k_Reader.c T.Reader_take_thing.M (ok_Reader_take_thingG T) (hr.mono (by decide)) T.Reader_take_thing.b .nil pass0 (pa_cons (pe_ix (ixK (K := K) rfl) (pv 3) pe_int (fun _ _ => rfl)) (pa_cons (pe_slice (sl_tupF (K := K) rfl) (pv 3) (po_some pe_int) po_none) pa_nil))))))) pss_nil)
  (pss_cons (ps_if (pt_cmpR op_eq (pe_ix (ixK (K := K) rfl) (pv 2) pe_int (fun _ _ => rfl)) pe_str (nomark _)) (pss_one (ps_ret (pe_and (pe_cmpR op_eq (pe_callB (lenK (K := K) rfl) (by rfl) T.z_len PySem.boot_len (pa_cons (pv 3) pa_nil)) pe_int (nomark _)) (pe_one (pe_meth (pv 0) T.k_Reader.c T.Reader_take_helper.M (ok_Reader_take_helper T) (hr.mono (by decide)) T.Reader_take_helper.b .nil pass0 (pa_cons (pe_ix (ixK (K := K) rfl) (pv 3) pe_int (fun _ _ => rfl)) pa_nil)))))) pss_nil)
  (pss_cons (ps_if (pt_cmpR op_eq (pe_ix (ixK (K := K) rfl) (pv 2) pe_int (fun _ _ => rfl)) pe_str (nomark _)) (pss_one (ps_ret (pe_and (pe_cmpR op_eq (pe_callB (lenK (K := K) rfl) (by rfl) T.z_len PySem.boot_len (pa_cons (pv 3) pa_nil)) pe_int (nomark _)) (pe_one (pe_meth (pv 0) T.k_Reader.c T.Reader_take_claim.M (ok_Reader_take_claim T) (hr.mono (by decide)) T.Reader_take_claim.b .nil pass0 (pa_cons (pe_tupF (pa_cons (pe_slice (sl_tupF (K := K) rfl) (pv 3) po_none (po_some pe_int)) (pa_cons (pe_ix (ixK (K := K) rfl) (pv 3) pe_int (fun _ _ => rfl)) pa_nil))) pa_nil)))))) pss_nil)
  (pss_one (ps_ret pe_bl))))))), ?_⟩
  obtain ⟨hd, ws, sp, lw⟩ := split_blank row
  have est : stepRow S row = stepW S hd (ws.map fig) := by unfold stepRow; rw [sp]
  rw [est] at out
  refine g_seq ?_
  refine ⟨.str row, rfl, ⟨_, rfl⟩, row, (" " : Str), rfl, rfl, by decide +kernel, by rw [sizeLine_eq]; omega, fun L hL => ?_⟩
  rw [sp]
  refine g_name ?_
  generalize hH1 : upd H L (.lst ((hd :: ws).map V.str)) = H1
  have e1 : Same H H1 := by rw [← hH1]; exact Same.new hL
  have hL1 : H1 L = some (.lst ((hd :: ws).map V.str)) := by rw [← hH1]; exact upd_same
  dsimp only
  refine g_seq ?_
  refine (el_sl (lo := some 1) (hi := none) (a := L) (xs := (hd :: ws).map V.str) (ev_var rfl) (fun H8 e8 Q q => ⟨1, rfl, q H8 (Ex.refl H8)⟩) (fun H8 e8 Q q => q H8 (Ex.refl H8)) (SqL.of hL1)) H1 (Ex.refl H1) _ fun S0 H2 nS e2 hS => ⟨S0, rfl, ⟨_, SqL.of hS⟩, fun M hM => ?_⟩
  rw [List.map_cons, cutV_tail] at hS
  refine lc_list (xs := ws.map V.str) (fun i H' => Same H2 H' ∧ H' M = some (.lst (((ws.map fig).take i).map optV))) ⟨Same.new hM, by rw [List.take_zero]; exact upd_same⟩ (fun i H' _ p => ex_l p.1 (SqL.of hS)) (fun i y H' hy p => ?_) (fun H3 p => ?_)
  · obtain ⟨e3, h3⟩ := p
    rw [List.getElem?_map, Option.map_eq_some_iff] at hy
    obtain ⟨z, hz, rfl⟩ := hy
    have hi : i < ws.length := (List.getElem?_eq_some_iff.mp hz).1
    refine ⟨rfl, ?_⟩
    refine ⟨T.D_FIGURES, rfl, hD.fig, .str z, rfl, z, optV (fig z), rfl, hD.val z, ?_⟩
    refine ⟨_, h3, sz_lt (by rw [List.length_map, List.length_take, List.length_map]; omega), fun b u hb => by rw [upd_ne (ne_of_none hb hM)]; exact e3 b u hb, ?_⟩
    rw [upd_same, List.take_add_one, List.getElem?_map, hz] ; simp
  obtain ⟨e3, h3⟩ := p
  rw [List.length_map, ← List.length_map (f := fig), List.take_length] at h3
  refine ⟨M, _, rfl, .inl ⟨SqL.of h3, fun N o hN hd' => ?_⟩⟩
  refine g_name ?_
  generalize hns : ws.map fig = ns at h3 out ⊢
  generalize hH4 : upd H3 N (.frz o (.tup (ns.map optV))) = H4
  have e4 : Same H3 H4 := by rw [← hH4]; exact Same.new hN
  have tN : TupAt H4 N (ns.map optV) := by rw [← hH4]; exact ⟨o, hd', upd_same⟩
  have E4 : Same H H4 := (e1.trans e2).trans (e3.trans e4)
  have hL4 := (e2.trans (e3.trans e4)) _ _ hL1
  dsimp only
  have dV : ∀ {x y : Str}, decide (V.str x = V.str y) = decide (x = y) := fun {x y} => by rw [Bool.eq_iff_iff, decide_eq_true_iff, decide_eq_true_iff]; exact ⟨fun z => by injection z, fun z => by rw [z]⟩
  have lnt : ∀ (k : Nat) {H5 : Hp}, Same H4 H5 → decide (((ns.map optV).length : Int) = (k : Int)) = decide (ns.length = k) := fun k H5 e5 => by
    rw [List.length_map, Bool.eq_iff_iff, decide_eq_true_iff, decide_eq_true_iff] ; omega
  -- thing
  refine q_when (b := decide (V.str hd = V.str "thing")) (et_test (ev_op (ev_ixL (i := 0) (ev_var rfl) ev_c (SqL.of hL4) (atI_nat (j := 0) rfl)) ev_c (rv_eq rfl))) (fun z H5 e5 => ?_) (fun z H5 e5 => ?_)
  · rw [dV] at z
    have z := of_decide_eq_true z
    subst z
    have eo : stepW S "thing" ns = stepT S ns := by unfold stepW; rw [if_pos rfl]
    rw [eo] at out
    refine g_ret (g_andV ((ev_op (ev_lenT (ev_var rfl) (tN.mono (Same.ts e5))) ev_c rv_eqI) H5 (Ex.refl H5) _ fun H6 e6 => ⟨decide (ns.length = 4), congrArg V.bl (lnt 4 e5), ?_⟩))
    have E6 := E4.trans (e5.trans e6)
    have tN6 := tN.mono (Same.ts (e5.trans e6))
    by_cases h4 : ns.length = 4
    · rw [decide_eq_true h4]
      simp only [↓reduceIte]
      obtain ⟨d, x, y, z, rfl⟩ := len4 h4
      have rep' := rep
      obtain ⟨_, _, _, _, _, hr0, _⟩ := rep'
      refine ⟨.ref r, rfl, r, dx, _, rfl, E6 _ _ hr0, rfl, ?_⟩
      refine (ev_ixT (i := 0) (ev_var rfl) ev_c tN6 (atI_nat (j := 0) rfl)) H6 (Ex.refl H6) _ fun H7 e7 => ?_
      refine ⟨.ref N, rfl, 1, rfl, N, _, rfl, (tN6.mono (Same.ts e7)).sq, fun z => absurd (show HT.sIx 4 0 (some 1) = 0 from z.1) (by decide +kernel), fun _ p o' hp hd' => ?_⟩
      have E8 : Same H (upd H7 p (.frz o' (.tup [optV x, optV y, optV z]))) := (E6.trans e7).trans (Same.new hp)
      exact ⟨r, dx, a, b, c, .ref p, d, x, y, z, S, m, rfl, .tup ⟨o', hd', upd_same⟩ (.cons tp_opt (.cons tp_opt (.cons tp_opt .nil))), rep.same E8, lt, out.same E8⟩
    · rw [decide_eq_false h4]
      simp only [Bool.false_eq_true, ↓reduceIte]
      exact out.2 (stepT_len h4) H6 E6
  rw [dV] at z
  have z1 := of_decide_eq_false z
  -- helper
  refine q_when (b := decide (V.str hd = V.str "helper")) (et_test (ev_op (ev_ixL (i := 0) (ev_var rfl) ev_c (SqL.of (e5 _ _ hL4)) (atI_nat (j := 0) rfl)) ev_c (rv_eq rfl))) (fun z H5' e5' => ?_) (fun z H5' e5' => ?_)
  · rw [dV] at z
    have z := of_decide_eq_true z
    subst z
    have eo : stepW S "helper" ns = stepH S ns := by unfold stepW; rw [if_neg z1, if_pos rfl]
    rw [eo] at out
    have e5 := e5.trans e5'
    refine g_ret (g_andV ((ev_op (ev_lenT (ev_var rfl) (tN.mono (Same.ts e5))) ev_c rv_eqI) H5' (Ex.refl H5') _ fun H6 e6 => ⟨decide (ns.length = 1), congrArg V.bl (lnt 1 e5), ?_⟩))
    have E6 := E4.trans (e5.trans e6)
    have tN6 := tN.mono (Same.ts (e5.trans e6))
    by_cases h4 : ns.length = 1
    · rw [decide_eq_true h4]
      simp only [↓reduceIte]
      obtain ⟨k, rfl⟩ := List.length_eq_one_iff.mp h4
      have rep' := rep
      obtain ⟨_, _, _, _, _, hr0, _⟩ := rep'
      refine ⟨.ref r, rfl, r, dx, _, rfl, E6 _ _ hr0, rfl, ?_⟩
      refine (ev_ixT (i := 0) (ev_var rfl) ev_c tN6 (atI_nat (j := 0) rfl)) H6 (Ex.refl H6) _ fun H7 e7 => ?_
      have E7 := E6.trans e7
      exact ⟨r, dx, a, b, c, k, S, m, rfl, rep.same E7, lh, out.same E7⟩
    · rw [decide_eq_false h4]
      simp only [Bool.false_eq_true, ↓reduceIte]
      exact out.2 (stepH_len h4) H6 E6
  rw [dV] at z
  have z2 := of_decide_eq_false z
  have e5a := e5.trans e5'
  -- claim
  refine q_when (b := decide (V.str hd = V.str "claim")) (et_test (ev_op (ev_ixL (i := 0) (ev_var rfl) ev_c (SqL.of (e5a _ _ hL4)) (atI_nat (j := 0) rfl)) ev_c (rv_eq rfl))) (fun z H5 e5' => ?_) (fun z H5 e5' => ?_)
  · rw [dV] at z
    have z := of_decide_eq_true z
    subst z
    have eo : stepW S "claim" ns = stepC S ns := by unfold stepW; rw [if_neg z1, if_neg z2, if_pos rfl]
    rw [eo] at out
    have e5 := e5a.trans e5'
    refine g_ret (g_andV ((ev_op (ev_lenT (ev_var rfl) (tN.mono (Same.ts e5))) ev_c rv_eqI) H5 (Ex.refl H5) _ fun H6 e6 => ⟨decide (ns.length = 4), congrArg V.bl (lnt 4 e5), ?_⟩))
    have E6 := E4.trans (e5.trans e6)
    have tN6 := tN.mono (Same.ts (e5.trans e6))
    by_cases h4 : ns.length = 4
    · rw [decide_eq_true h4]
      simp only [↓reduceIte]
      obtain ⟨x, y, z, u, rfl⟩ := len4 h4
      have rep' := rep
      obtain ⟨_, _, _, _, _, hr0, _⟩ := rep'
      refine ⟨.ref r, rfl, r, dx, _, rfl, E6 _ _ hr0, rfl, ?_⟩
      refine ⟨.ref N, rfl, 3, rfl, N, _, rfl, tN6.sq, fun z => absurd (show HT.sIx 4 4 (some 3) = 4 from z.2) (by decide +kernel), fun _ p1 o1 hp1 hd1 => ?_⟩
      generalize hH7 : upd H6 p1 (.frz o1 (.tup (cutV ([x, y, z, u].map optV) none (some 3)))) = H7
      have e7 : Same H6 H7 := by rw [← hH7]; exact Same.new hp1
      have t7 : TupAt H7 p1 [optV x, optV y, optV z] := by rw [← hH7]; exact ⟨o1, hd1, upd_same⟩
      refine (ev_ixT (i := 3) (ev_var rfl) ev_c (tN6.mono (Same.ts e7)) (atI_nat (j := 3) rfl)) H7 (Ex.refl H7) _ fun H8 e8 => ?_
      refine ⟨sz_of (by show 2 ≤ 100000; decide), fun p2 o2 hp2 hd2 => ?_⟩
      have t9 : TupAt (upd H8 p2 (.frz o2 (.tup [.ref p1, optV u]))) p2 [.ref p1, optV u] := ⟨o2, hd2, upd_same⟩
      have e9 : Same H8 (upd H8 p2 (.frz o2 (.tup [.ref p1, optV u]))) := Same.new hp2
      have E9 := ((E6.trans e7).trans e8).trans e9
      exact ⟨r, dx, a, b, c, .ref p2, x, y, z, u, S, m, rfl, .tup t9 (.cons (.tup (t7.mono (Same.ts (e8.trans e9))) (.cons tp_opt (.cons tp_opt (.cons tp_opt .nil)))) (.cons tp_opt .nil)), rep.same E9, lh, l6, out.same E9⟩
    · rw [decide_eq_false h4]
      simp only [Bool.false_eq_true, ↓reduceIte]
      exact out.2 (stepC_len h4) H6 E6
  rw [dV] at z
  have z3 := of_decide_eq_false z
  have eo : stepW S hd ns = none := by unfold stepW; rw [if_neg z1, if_neg z2, if_neg z3]
  exact s_ret ev_c fun H6 e6 => out.2 eo H6 ((E4.trans e5a).trans (e5'.trans e6))


end
end Dm
namespace Dm
open PySem PySem.Spec PyProof.Rows L2 Evl
section
variable {P : Program} {w : World} {K : PySem.W.Frag} {mg : Str → Option Value} {base : Heap}
/-! ### read -/
theorem su_BadText : SupScope ["self", "line"] ["self", "line"] (defScope s_BadText) := ⟨rfl, rfl, rfl, by decide +kernel, rfl, by decide +kernel, by decide +kernel, by decide +kernel, rfl, rfl⟩
theorem okE_BadText (T : Txt K mg) (hP : ProgF P T.fileN) : ErrOk P w K mg base "BadText" "line" T.C_BadText := by
  obtain ⟨fI, cc, cda, oc, od, an, osl, dV, kV, doc, pm, ct, iC, tI, lk, hcd, su⟩ := T.e_BadText.fn
  refine ⟨T.g_BadText, su.oex, fI, _, iC, tI, .all fun us hl => match us, hl with | [_, _], _ => rfl, ok_err lk hcd su hP T.e_BadText.noN (w1 := "line ") (w2 := " cannot stand there") rfl su_BadText rfl rfl (by decide +kernel) (by decide +kernel) (by decide) (by decide)⟩
def numG {α : Type} (is : List α) : List (Int × α) := ((List.range is.length).map fun (i : Nat) => (i : Int)).zip is
theorem numG_len {α : Type} (is : List α) : (numG is).length = is.length := by unfold numG; rw [List.length_zip, List.length_map, List.length_range, Nat.min_self]
theorem numG_fst {α : Type} (is : List α) : (numG is).map (·.1) = (List.range is.length).map fun (i : Nat) => (i : Int) := by
  unfold numG; exact List.map_fst_zip (by rw [List.length_map, List.length_range]; exact Nat.le_refl _)
theorem numG_snd {α : Type} (is : List α) : (numG is).map (·.2) = is := by
  unfold numG; exact List.map_snd_zip (by rw [List.length_map, List.length_range]; exact Nat.le_refl _)
theorem numG_from {α : Type} (is : List α) : From0 ((numG is).map (·.1)) := by
  unfold From0
  rw [List.length_map, numG_len, numG_fst]
theorem numG_get {α : Type} {is : List α} {i : Nat} {x : α} (h : is[i]? = some x) : (numG is)[i]? = some ((i : Int), x) := by
  have hi : i < is.length := (List.getElem?_eq_some_iff.mp h).1
  unfold numG
  exact List.getElem?_zip_eq_some.mpr ⟨by rw [List.getElem?_map, List.getElem?_range hi]; rfl, h⟩
theorem FA.get {H : Hp} {n : Nat} {vs : List V} {ts : List Th} {l : List Addr} (h : FA H n vs ts l) : All2 (RT (fun _ => True) H n) vs ts := by
  induction h with
  | nil => trivial
  | cons h1 h2 h3 h4 h5 i1 i2 => exact ⟨⟨_, _, _, _, rfl, trivial, h1, h2, h3, i1⟩, i2⟩
theorem HA.get {H : Hp} {vs : List V} {hs : List Hq} {l : List Addr} (h : HA H vs hs l) : ∀ {i : Nat} {x : V}, vs[i]? = some x → ∃ cs k p e zs, hs[i]? = some (cs, k) ∧ x = .ref p ∧ TupAt H p [.int k, .ref e] ∧ H e = some (.lst zs) ∧ Tps H zs (cs.map clD) := by
  induction h with
  | nil => exact fun h => by cases h
  | cons h1 h2 h3 h4 ih =>
    intro i x hx
    cases i with
    | zero => cases hx; exact ⟨_, _, _, _, _, rfl, rfl, h1, h2, h3⟩
    | succ i => exact ih hx
/-- the rows of a text -/
def rowsOf (x : Str) : List Str := if x = "" then [] else Txt.split x ("\n" : Str)
theorem spl_part (S : List Nat) : ∀ (l : List Nat) (k : Nat) (acc : List Nat), ∀ p ∈ TL.spl S k acc l, p.length ≤ acc.length + l.length
  | [], k, acc, p, hp => by
    rw [TL.spl_nil] at hp
    rw [List.mem_singleton.mp hp] ; exact Nat.le_add_right _ _
  | c :: r, 0, acc, p, hp => by
    rw [List.length_cons]
    cases h : TL.pre S (c :: r) with
    | true =>
      rw [TL.spl_hit h] at hp
      rcases List.mem_cons.mp hp with rfl | hp
      · omega
      · have := spl_part S r (S.length - 1) [] p hp
        rw [List.length_nil] at this
        omega
    | false =>
      rw [TL.spl_miss h] at hp
      have := spl_part S r 0 (acc ++ [c]) p hp
      rw [List.length_append, List.length_singleton] at this
      omega
  | c :: r, k + 1, acc, p, hp => by
    have := spl_part S r k acc p hp
    rw [List.length_cons]
    omega
theorem rowsOf_len (x : Str) : (rowsOf x).length ≤ x.length + 1 ∧ ∀ r ∈ rowsOf x, r.length ≤ x.length := by
  unfold rowsOf
  by_cases h : x = ""
  · rw [if_pos h] ; exact ⟨Nat.zero_le _, fun r z => nomatch z⟩
  · rw [if_neg h]
    refine ⟨(split_len x ("\n" : Str) (by decide +kernel) (by decide +kernel)).2, fun r hr => ?_⟩
    have hm : TL.tl r ∈ TL.spl (TL.tl ("\n" : Str)) 0 [] (TL.tl x) := by
      rw [← TL.split_spl x ("\n" : Str) (by decide +kernel) (TL.kind_ok (by decide +kernel))]
      exact List.mem_map.mpr ⟨r, hr, rfl⟩
    have := spl_part _ _ _ _ _ hm
    rw [List.length_nil, Nat.zero_add, ← TL.len_tl, ← TL.len_tl] at this
    exact this
/-- between two rows -/
def RdInv (C : Addr) (H : Hp) (rws : List Str) (res : Nat ⊕ RdS) (r Z : Addr) (i : Nat) (H' : Hp) : Prop := ∃ (dx a b c : Addr) (S : RdS) (m : List Addr), RepP C r dx H' a b c S m ∧ SOk i S ∧ runRows i S (rws.drop i) = res ∧ Z ∉ m ∧ (∀ y, y = r ∨ y ∈ m → H y = none) ∧ Same H H' ∧ H' Z = some (.lst (rws.map V.str))
theorem RdInv.inst {C : Addr} {H : Hp} {rws : List Str} {res : Nat ⊕ RdS} {r Z : Addr} {i : Nat} {H' : Hp} (h : RdInv C H rws res r Z i H') : ∃ dx a b c, H' r = some (.ins C dx (rdF a b c)) := by
  obtain ⟨dx, a, b, c, S, m, ⟨vs, path, ws, l, l2, h1, _⟩, _⟩ := h
  exact ⟨_, _, _, _, h1⟩
theorem RdInv.turn {C : Addr} {H : Hp} {rws : List Str} {res : Nat ⊕ RdS} {r Z : Addr} {i : Nat} {H' H1 : Hp} (h : RdInv C H rws res r Z i H') {row : Str} (hr : rws[i]? = some row) (l1 : row.length ≤ 90000) (l2 : rws.length ≤ 90000) (e1 : Same H' H1) {Q : VK} {E : XK}
    (qt : ∀ H2, RdInv C H rws res r Z (i + 1) H2 → Q (V.bl true) H2) (qf : res = .inl i → ∀ H2, Same H H2 → Q (V.bl false) H2) : spRowG C [.ref r, .str row] H1 Q E := by
  obtain ⟨dx, a, b, c, S, m, rep, ok, run, zm, fr, sm, hz⟩ := h
  have hi : i < rws.length := (List.getElem?_eq_some_iff.mp hr).1
  have dr : rws.drop i = row :: rws.drop (i + 1) := by
    rw [List.drop_eq_getElem_cons hi] ; congr 1 ; exact (List.getElem?_eq_some_iff.mp hr).2
  rw [dr] at run
  have zr : Z ≠ r := by
    obtain ⟨vs, path, ws, l, l2, h1, _⟩ := rep
    intro z
    rw [z, h1] at hz ; cases hz
  have lt := ok.lt
  have lh := ok.lh
  refine ⟨r, dx, a, b, c, row, S, m, rfl, l1, rep.same e1, by omega, by omega, fun q hq => (ok.oh q hq).1.1, fun S' hs H2 a' b' c' m' rep' m1 f => qt H2 ?_, fun hs H2 e2 => qf ?_ H2 (sm.trans (e1.trans e2))⟩
  · have run' : runRows (i + 1) S' (rws.drop (i + 1)) = res := by
      rw [← run]
      show _ = match stepRow S row with | none => Sum.inl i | some S' => runRows (i + 1) S' (rws.drop (i + 1))
      rw [hs]
    have ok' : SOk (i + 1) S' := by
      unfold stepRow at hs
      split at hs
      · cases hs
      · exact ok.step hs
    refine ⟨dx, a', b', c', S', m', rep', ok', run', fun z => ?_, fun y hy => ?_, fun y u hy => f y u (fun z => ?_) (fun z => ?_) (e1 _ _ (sm _ _ hy)), f Z _ zr zm (e1 _ _ hz)⟩
    · rcases m1 Z z with z | z
      · exact zm z
      · rw [e1 _ _ hz] at z ; cases z
    · rcases hy with rfl | hy
      · exact fr _ (.inl rfl)
      rcases m1 y hy with z | z
      · exact fr y (.inr z)
      · exact ex_free (sm.trans e1) z
    · rw [z, fr r (.inl rfl)] at hy ; cases hy
    · rw [fr y (.inr z)] at hy ; cases hy
  · rw [← run]
    show (match stepRow S row with | none => Sum.inl i | some S' => runRows (i + 1) S' (rws.drop (i + 1))) = _
    rw [hs]
theorem RdInv.start {C : Addr} {H H1 H2 : Hp} {rws : List Str} {res : Nat ⊕ RdS} {r Z dx a b c : Addr} (E1 : Same H H1) (hr1 : H1 r = some (.ins C dx (rdF a b c))) (ha1 : H1 a = some (.lst [])) (hb1 : H1 b = some (.lst [])) (hc1 : H1 c = some (.lst [])) (ab : a ≠ b) (ac : a ≠ c) (bc : b ≠ c) (nr : H r = none) (na : H a = none) (nc : H c = none) (nZ : H1 Z = none) (e2 : Same H1 H2) (hZ : H2 Z = some (.lst (rws.map V.str))) (run : runRows 0 ⟨[], []⟩ rws = res) : RdInv C H rws res r Z 0 H2 := by
  refine ⟨dx, a, b, c, ⟨[], []⟩, [a, c], ⟨[], [], [], [], [], e2 _ _ hr1, e2 _ _ ha1, .nil 3, e2 _ _ hb1, .nil, e2 _ _ hc1, .nil, rfl, by simp [ac], by simp [Ne.symm ab, bc]⟩, ⟨by simp, by simp, Nat.zero_le _, Nat.zero_le _⟩, run, ?_, fun y hy => ?_, E1.trans e2, hZ⟩
  · intro z
    simp only [List.mem_cons, List.not_mem_nil, or_false] at z
    rcases z with rfl | rfl
    · rw [ha1] at nZ ; cases nZ
    · rw [hc1] at nZ ; cases nZ
  · simp only [List.mem_cons, List.not_mem_nil, or_false] at hy
    rcases hy with rfl | rfl | rfl
    · exact nr
    · exact na
    · exact nc
/-- the rows, as the first two statements make them -/
theorem rows_made {σ : L2.St} {H1 : Hp} {x : Str} (hx : σ[0]? = some (some (.str x))) (lx : x.length ≤ 80000) :
    EvL (tIf (fun σ H Q => tVar 0 σ H fun x H' => ∃ k, TruV K x H' k ∧ Q k H') (tM1 (fun x xs H Q => ∃ a b, x = V.str a ∧ xs = [V.str b] ∧ (b.length == 0) = false ∧ a.length + 2 ≤ sizeLine ∧ rNewStrs (Txt.split a b) H Q) (tVar 0) (tC (V.str (Str.ofString "\n")))) (tLst tNil)) σ H1 ((rowsOf x).map V.str) := by
  intro H' e' Q' q'
  unfold rowsOf at q'
  by_cases hn : x = ""
  · subst hn
    rw [if_pos rfl] at q'
    refine ⟨.str "", hx, false, ⟨by decide +kernel, rfl⟩, ?_⟩
    exact (el_lst ea_nil (by decide)) H' (Ex.refl H') _ q'
  · rw [if_neg hn] at q'
    have pos : x.length ≠ 0 := fun z => hn (by
      apply Str.ext'
      have z : x.cps.size = 0 := z
      rw [Array.size_eq_zero_iff] at z
      rw [z] ; decide +kernel)
    refine ⟨.str x, hx, true, ⟨by rw [sizeLine_eq]; omega, ?_⟩, ?_⟩
    · rw [bne_iff_ne.mpr (show ((x.length : Nat) : Int) ≠ 0 by omega)]
    · exact ⟨.str x, hx, ⟨_, rfl⟩, x, ("\n" : Str), rfl, rfl, by decide +kernel, by rw [sizeLine_eq]; omega, fun L hL => q' L _ hL (Same.new hL) upd_same⟩
def spReadG : Sp := fun vs H Q _ => ∃ (x : Str) (S : RdS), vs = [.str x] ∧ x.length ≤ 80000 ∧ runRows 0 ⟨[], []⟩ (rowsOf x) = .inr S ∧
  ∀ (H' : Hp) (p a b : Addr) (xs ys : List V), Same H H' → TupAt H' p [.ref a, .ref b] → H a = none → H b = none → H' a = some (.lst xs) → H' b = some (.lst ys) → Tps H' xs ((numG S.ts).map tgD) → Tps H' ys ((numG S.hs).map hpD) → SOk 90000 S → Q (.ref p) H'
theorem ok_read (T : Txt K mg) (hD : FigW K w T.D_FIGURES) : FnOk P w K mg base CX0 7 T.read.f T.read.fd ["text"] spReadG := by
  refine T.read.F.ok sc_read (fun vs H Q E h => ?_) (fun cdv A outer s H vs Q E hr h => ?_)
  · obtain ⟨x, S, rfl, _⟩ := h ; rfl
  obtain ⟨x, S, rfl, lx, run, q⟩ := h
  refine ⟨_, (pss_cons (ps_set (i := 1) sc_read.nd rfl (by first | exact Or.inl rfl | exact Or.inr rfl) (pe_make0 ⟨T.k_Reader.mks, T.Reader___init__.M.at_, T.Reader___init__.M.fn, T.k_Reader.kp⟩ (ok_Reader___init__ T) (hr.mono (by decide)) rfl T.k_Reader.g T.Reader___init__.b .nil pass0))
  (pss_cons (ps_set (i := 2) sc_read.nd rfl (by first | exact Or.inl rfl | exact Or.inr rfl) (pe_ifExp (pt_truth (pv 0) (by intro _; rfl)) (pe_split (pv 0) pe_str) (pe_lst pa_nil)))
  (pss_cons (ps_for PassesOwn.never rfl (pi_enum rfl T.z_enumerate (pa_cons (pv 2) pa_nil)) (pg_tupK (K := K) (n := 2) rfl rfl (pgs_cons (pg_name (i := 5) sc_read.nd rfl (by first | exact Or.inl rfl | exact Or.inr rfl)) (pgs_cons (pg_name (i := 6) sc_read.nd rfl (by first | exact Or.inl rfl | exact Or.inr rfl)) pgs_nil)))
  (pss_one (ps_if (pt_not (pt_val (pe_meth (pv 1) T.k_Reader.c T.Reader_take_row.M (ok_Reader_take_row T hD) (hr.mono (by decide)) T.Reader_take_row.b .nil pass0 (pa_cons (pv 6) pa_nil)))) (pss_one ps_never) pss_nil)))
  (pss_cons (ps_setLc (i := 3) (own := [("number", 7), ("tree", 8)]) rfl sc_read.nd rfl rfl (sw_true rfl rfl rfl (by decide +kernel)) (pi_enum rfl T.z_enumerate (pa_cons (pe_fld (pv 1) rfl) pa_nil)) (blkOk_by (own := [("number", 7), ("tree", 8)]) (N := ["text", "reader", "rows", "things", "helpers", "line", "row", "number", "tree", "room", "claims"]) (sc := defScope s_read) (by decide +kernel)) (fun _ _ _ _ _ => by exact (pg_tupK (K := K) (n := 2) rfl rfl (pgs_cons (pg_name (i := 7) sc_read.nd rfl (by first | exact Or.inl rfl | exact Or.inr rfl)) (pgs_cons (pg_name (i := 8) sc_read.nd rfl (by first | exact Or.inl rfl | exact Or.inr rfl)) pgs_nil)))) (fun _ _ _ _ _ => pts_nil) (fun _ _ _ _ _ => (pe_tupF (pa_cons (pv 7) (pa_cons (pe_call (ok_closed T 3) (hr.mono (by decide)) rfl T.closed.m T.closed.F.kp T.closed.b .nil pass0 (pa_cons (pv 8) pa_nil)) pa_nil)))))
  (pss_cons (ps_setLc (i := 4) (own := [("number", 7), ("room", 9), ("claims", 10)]) rfl sc_read.nd rfl rfl (sw_true rfl rfl rfl (by decide +kernel)) (pi_enum rfl T.z_enumerate (pa_cons (pe_fld (pv 1) rfl) pa_nil)) (blkOk_by (own := [("number", 7), ("room", 9), ("claims", 10)]) (N := ["text", "reader", "rows", "things", "helpers", "line", "row", "number", "tree", "room", "claims"]) (sc := defScope s_read) (by decide +kernel)) (fun _ _ _ _ _ => by exact (pg_tupK (K := K) (n := 2) rfl rfl (pgs_cons (pg_name (i := 7) sc_read.nd rfl (by first | exact Or.inl rfl | exact Or.inr rfl)) (pgs_cons (pg_tupK (K := K) (n := 2) rfl rfl (pgs_cons (pg_name (i := 9) sc_read.nd rfl (by first | exact Or.inl rfl | exact Or.inr rfl)) (pgs_cons (pg_name (i := 10) sc_read.nd rfl (by first | exact Or.inl rfl | exact Or.inr rfl)) pgs_nil))) pgs_nil)))) (fun _ _ _ _ _ => pts_nil) (fun _ _ _ _ _ => (pe_tupF (pa_cons (pv 7) (pa_cons (pe_callTy (tupleK (K := K) rfl) (by rfl) T.z_tuple (by decide +kernel) (pa_cons (pv 10) pa_nil)) (pa_cons (pv 9) pa_nil))))))
  (pss_one (ps_ret (pe_tupF (pa_cons (pv 3) (pa_cons (pv 4) pa_nil)))))))))), ?_⟩
  obtain ⟨lr, lrr⟩ := rowsOf_len x
  refine g_seq fun r dx nr nd ne => ⟨r, dx, rfl, upd_same, fun H1 a b c k1 hr1 ha1 hb1 hc1 ab ac bc na nb nc => ⟨rfl, ?_⟩⟩
  have h0 : ∀ y o, H y = some o → upd (upd H dx (.own r)) r (.ins T.C_Reader dx []) y = some o := fun y o h => by
    rw [upd_ne (ne_of_none h nr), upd_ne (ne_of_none h nd)] ; exact h
  have E1 : Same H H1 := fun y o h => k1 y o (ne_of_none h nr) (h0 y o h)
  refine g_name ?_
  dsimp only
  refine q_asgL (xs := (rowsOf x).map V.str) (rows_made rfl lx) fun Z H2 nZ e2 hZ => ?_
  have st := RdInv.start (C := T.C_Reader) (res := .inr S) E1 hr1 ha1 hb1 hc1 ab ac bc nr (ex_free h0 na) (ex_free h0 nc) nZ e2 hZ run
  generalize hrw : rowsOf x = rws at lr lrr hZ st
  refine g_seq ?_
  refine ⟨.ref Z, rfl, Z, _, rfl, SqL.of hZ, for_enumL (K := K) (xs := rws.map V.str) (fun i σ H' => (∃ y5 y6 : Option V, σ = [some (.str x), some (.ref r), some (.ref Z), none, none, y5, y6, none, none, none, none]) ∧ RdInv T.C_Reader H rws (.inr S) r Z i H') ⟨⟨_, _, rfl⟩, st⟩ (fun i σ H' _ p => by obtain ⟨_, _, _, _, _, _, _, _, _, _, _, _, _, hz⟩ := p; exact SqL.of hz) (fun i u S0 σ H' hx p hS => ?_) (fun σ H' p => ?_)⟩
  · obtain ⟨⟨y5, y6, rfl⟩, inv⟩ := p
    rw [List.getElem?_map, Option.map_eq_some_iff] at hx
    obtain ⟨row, hrow, rfl⟩ := hx
    refine g_un2 (SqT.of upd_same) ?_
    have e5 : Same H' (upd H' S0 (.tup [.int (i : Nat), .str row])) := Same.new hS
    obtain ⟨dx', a', b', c', hr'⟩ := inv.inst
    refine ⟨.ref r, rfl, r, dx', _, rfl, e5 _ _ hr', rfl, ?_⟩
    refine ⟨.str row, rfl, ?_⟩
    have lrow := lrr row (List.mem_of_getElem? hrow)
    refine inv.turn (E := E0) hrow (by omega) (by omega) e5 (fun H3 h3 => ⟨true, rfl, ⟨_, _, rfl⟩, h3⟩) (fun z => nomatch z)
  obtain ⟨⟨y5, y6, rfl⟩, dx', a', b', c', S', m, rep, ok, run', zm, fr, E3, hz⟩ := p
  rw [List.length_map, List.drop_length] at run'
  have eS : S' = S := by
    have : (Sum.inr S' : Nat ⊕ RdS) = Sum.inr S := run'
    injection this
  subst eS
  rw [List.length_map] at ok
  obtain ⟨vs, path, ws, l, l2, hr3, ha3, fa, hb3, spn, hc3, hha, _⟩ := rep
  have al1 := fa.get
  have lv := fa.length
  have lw := hha.length
  have f1 := numG_from S'.ts
  have f2 := numG_from S'.hs
  have lt := ok.lt
  have lh := ok.lh
  refine g_seq ?_
  refine ⟨.ref r, rfl, r, T.C_Reader, dx', _, .ref a', rfl, hr3, T.k_Reader.c, T.n_Reader_trees, rfl, a', vs, rfl, SqL.of ha3, fun L1 hL1 => ?_⟩
  refine lc_enumL (K := K) (xs := vs) (fun i H4 => Same H' H4 ∧ ∃ acc, H4 L1 = some (.lst acc) ∧ acc.length = i ∧ Tps H4 acc (((numG S'.ts).take i).map tgD)) ⟨Same.new hL1, [], upd_same, rfl, .nil⟩ (fun i H4 _ p => ex_l p.1 (SqL.of ha3)) (fun i u S0 H4 hx p hS => ?_) (fun H4 p => ?_)
  · obtain ⟨e4, acc, h4, la, tps⟩ := p
    obtain ⟨t, ht, rt⟩ := al1.get hx
    have hi : i < S'.ts.length := (List.getElem?_eq_some_iff.mp ht).1
    have e5 : Same H4 (upd H4 S0 (.tup [.int (i : Nat), u])) := Same.new hS
    refine g_un2 (SqT.of upd_same) ⟨rfl, ?_⟩
    refine ⟨.int (i : Nat), rfl, ?_⟩
    refine ⟨u, rfl, ?_⟩
    refine ⟨_, u, t, rfl, rt.mono (fun _ h => h) (fun _ _ _ h => e5 _ _ (e4 _ _ h)) (Same.ts (e4.trans e5)), ok.ok t (List.mem_of_getElem? ht), fun H6 z e6 tz => ?_⟩
    refine ⟨sz_of (by show 2 ≤ 100000; decide), fun p2 o2 hp2 hd2 => ?_⟩
    have e7 : Same H6 (upd H6 p2 (.frz o2 (.tup [.int (i : Nat), z]))) := Same.new hp2
    have h7 := e7 _ _ (e6 _ _ (e5 _ _ h4))
    generalize hH7 : upd H6 p2 (.frz o2 (.tup [.int (i : Nat), z])) = H7 at e7 h7 ⊢
    have t7 : TupAt H7 p2 [.int (i : Nat), z] := by rw [← hH7]; exact ⟨o2, hd2, upd_same⟩
    have k8 : ∀ (u : Addr) (o : HO), u ≠ L1 → H7 u = some o → upd H7 L1 (.lst (acc ++ [.ref p2])) u = some o := fun u o hu h => by rw [upd_ne hu]; exact h
    have ts8 := tst_but1 k8 h7 fun _ _ => HO.noConfusion
    refine ⟨acc, h7, sz_lt (by omega), Same.put (e4.trans (e5.trans (e6.trans e7))) hL1, acc ++ [.ref p2], upd_same, by rw [List.length_append, la, List.length_singleton], ?_⟩
    rw [List.take_add_one, numG_get ht, Option.toList_some, List.map_append]
    refine ((tps.mono (Same.ts (e5.trans (e6.trans e7)))).mono ts8).append (.cons ?_ .nil)
    exact (Tp.tup t7 (.cons (.int _) (.cons (tz.mono (Same.ts e7)) .nil))).mono ts8
  obtain ⟨e4, acc, h4, la, tps⟩ := p
  rw [lv, ← numG_len S'.ts, List.take_length] at tps
  refine g_name ?_
  dsimp only
  have hr4 := e4 _ _ hr3
  have hc4 := e4 _ _ hc3
  have E4 := E3.trans e4
  refine g_seq ?_
  refine ⟨.ref r, rfl, r, T.C_Reader, dx', _, .ref c', rfl, hr4, T.k_Reader.c, T.n_Reader_staff, rfl, c', ws, rfl, SqL.of hc4, fun L2 hL2 => ?_⟩
  refine lc_enumL (K := K) (xs := ws) (fun i H5 => Same H4 H5 ∧ ∃ acc, H5 L2 = some (.lst acc) ∧ acc.length = i ∧ Tps H5 acc (((numG S'.hs).take i).map hpD)) ⟨Same.new hL2, [], upd_same, rfl, .nil⟩ (fun i H5 _ p => ex_l p.1 (SqL.of hc4)) (fun i u S0 H5 hx p hS => ?_) (fun H5 p => ?_)
  · obtain ⟨e5, bcc, h5, la, tpb⟩ := p
    obtain ⟨cs, k, p, e, zs, hh, rfl, tp, he, tz⟩ := hha.get hx
    have hi : i < S'.hs.length := (List.getElem?_eq_some_iff.mp hh).1
    have e6 : Same H5 (upd H5 S0 (.tup [.int (i : Nat), .ref p])) := Same.new hS
    have E6 := (e4.trans e5).trans e6
    refine ⟨S0, [.int (i : Nat), .ref p], rfl, SqT.of upd_same, rfl, .int (i : Nat), [.ref p], rfl, .ref p, [], rfl, p, [.int k, .ref e], rfl, (tp.mono (Same.ts E6)).sq, rfl, .int k, [.ref e], rfl, .ref e, [], rfl, rfl, rfl, rfl, ?_⟩
    refine ⟨.int (i : Nat), rfl, .ref e, rfl, e, zs, rfl, .inl ⟨SqL.of (E6 _ _ he), fun S2 o2 hS2 hd2 => ⟨.int k, rfl, sz_of (by show 3 ≤ 100000; decide), fun p3 o3 hp3 hd3 => ?_⟩⟩⟩
    have e7 : Same (upd H5 S0 (.tup [.int (i : Nat), .ref p])) _ := Same.new (o := .frz o2 (.tup zs)) hS2
    have e8 := Same.new (o := .frz o3 (.tup [.int (i : Nat), .ref S2, .int k])) hp3
    have t7 : TupAt (upd (upd H5 S0 (.tup [.int (i : Nat), .ref p])) S2 (.frz o2 (.tup zs))) S2 zs := ⟨o2, hd2, upd_same⟩
    have t8 : TupAt (upd (upd (upd H5 S0 (.tup [.int (i : Nat), .ref p])) S2 (.frz o2 (.tup zs))) p3 (.frz o3 (.tup [.int (i : Nat), .ref S2, .int k]))) p3 [.int (i : Nat), .ref S2, .int k] := ⟨o3, hd3, upd_same⟩
    have h8 := e8 _ _ (e7 _ _ (e6 _ _ h5))
    have t78 := t7.mono (Same.ts e8)
    have tz8 := tz.mono (Same.ts ((E6.trans e7).trans e8))
    have tpb8 := tpb.mono (Same.ts ((e6.trans e7).trans e8))
    have sm := (e5.trans e6).trans (e7.trans e8)
    generalize upd (upd (upd H5 S0 (.tup [.int (i : Nat), .ref p])) S2 (.frz o2 (.tup zs))) p3 (.frz o3 (.tup [.int (i : Nat), .ref S2, .int k])) = H8 at h8 t8 t78 tz8 tpb8 sm ⊢
    have k9 : ∀ (u : Addr) (o : HO), u ≠ L2 → H8 u = some o → upd H8 L2 (.lst (bcc ++ [.ref p3])) u = some o := fun u o hu h => by rw [upd_ne hu]; exact h
    have ts9 := tst_but1 k9 h8 fun _ _ => HO.noConfusion
    refine ⟨bcc, h8, sz_lt (by omega), Same.put sm hL2, bcc ++ [.ref p3], upd_same, by rw [List.length_append, la, List.length_singleton], ?_⟩
    rw [List.take_add_one, numG_get hh, Option.toList_some, List.map_append]
    refine (tpb8.mono ts9).append (.cons ?_ .nil)
    exact (Tp.tup t8 (.cons (.int _) (.cons (.tup t78 tz8) (.cons (.int _) .nil)))).mono ts9
  obtain ⟨e5, bcc, h5, lb, tpb⟩ := p
  rw [lw, ← numG_len S'.hs, List.take_length] at tpb
  refine g_name ?_
  dsimp only
  refine g_ret ?_
  refine ⟨.ref L1, rfl, .ref L2, rfl, sz_of (by show 2 ≤ 100000; decide), fun p o hp hd => ?_⟩
  have e6 : Same H5 (upd H5 p (.frz o (.tup [.ref L1, .ref L2]))) := Same.new hp
  exact q _ p L1 L2 acc bcc (E4.trans (e5.trans e6)) ⟨o, hd, upd_same⟩ (ex_free E3 hL1) (ex_free E4 hL2) (e6 _ _ (e5 _ _ h4)) (e6 _ _ h5) (tps.mono (Same.ts (e5.trans e6))) (tpb.mono (Same.ts e6)) ⟨ok.ok, ok.oh, by omega, by omega⟩
def spReadX (C : Addr) : Sp := fun vs H Q E => ∃ (x : Str) (k : Nat), vs = [.str x] ∧ x.length ≤ 80000 ∧ runRows 0 ⟨[], []⟩ (rowsOf x) = .inl k ∧ ∀ (H' : Hp) (e : Addr), Same H H' → H' e = some (.xd [("line", .int (k : Int))]) → E (.ref C) (some e) H'
theorem log90 {k : Nat} (h : k ≤ 100000) : ((k : Int)).natAbs.log2 < 1920 := by
  rw [Int.natAbs_natCast]
  by_cases z : k = 0
  · subst z ; decide
  · exact (Nat.log2_lt z).mpr (Nat.lt_of_le_of_lt h (Nat.lt_of_lt_of_le (by decide : 100000 < 2 ^ 17) (Nat.pow_le_pow_right (by decide) (by decide))))
theorem run_end : ∀ {rs : List Str} {i : Nat} {S : RdS} {k : Nat}, runRows i S rs = .inl k → i ≤ k ∧ k < i + rs.length
  | [], i, S, k, h => by cases h
  | r :: rs, i, S, k, h => by
    have h : (match stepRow S r with | none => Sum.inl i | some S' => runRows (i + 1) S' rs) = Sum.inl k := h
    cases e : stepRow S r with
    | none =>
      rw [e] at h
      have : i = k := by injection h
      rw [List.length_cons]
      omega
    | some S' =>
      rw [e] at h
      have := run_end (rs := rs) h
      rw [List.length_cons]
      omega
theorem ok_readX (T : Txt K mg) (hP : ProgF P T.fileN) (hD : FigW K w T.D_FIGURES) : FnOk P w K mg base (L2.CX P w) 7 T.read.f T.read.fd ["text"] (spReadX T.C_BadText) := by
  refine T.read.F.okX sc_read (fun vs H Q E h => ?_) (fun cdv A outer s H vs Q E hr h => ?_)
  · obtain ⟨x, k, rfl, _⟩ := h ; rfl
  obtain ⟨x, k, rfl, lx, run, q⟩ := h
  refine ⟨_, (pss_cons (ps_set (i := 1) sc_read.nd rfl (by first | exact Or.inl rfl | exact Or.inr rfl) (pe_make0 ⟨T.k_Reader.mks, T.Reader___init__.M.at_, T.Reader___init__.M.fn, T.k_Reader.kp⟩ (ok_Reader___init__ T) (hr.mono (by decide)) rfl T.k_Reader.g T.Reader___init__.b .nil pass0))
  (pss_cons (ps_set (i := 2) sc_read.nd rfl (by first | exact Or.inl rfl | exact Or.inr rfl) (pe_ifExp (pt_truth (pv 0) (by intro _; rfl)) (pe_split (pv 0) pe_str) (pe_lst pa_nil)))
  (pss_cons (ps_for (passes_of rfl) rfl (pi_enum rfl T.z_enumerate (pa_cons (pv 2) pa_nil)) (pg_tupK (K := K) (n := 2) rfl rfl (pgs_cons (pg_name (i := 5) sc_read.nd rfl (by first | exact Or.inl rfl | exact Or.inr rfl)) (pgs_cons (pg_name (i := 6) sc_read.nd rfl (by first | exact Or.inl rfl | exact Or.inr rfl)) pgs_nil)))
  (pss_one (ps_if (pt_not (pt_val (pe_meth (pv 1) T.k_Reader.c T.Reader_take_row.M (ok_Reader_take_row T hD) (hr.mono (by decide)) T.Reader_take_row.b .nil pass0 (pa_cons (pv 6) pa_nil)))) (pss_one (ps_raiseE rfl (okE_BadText T hP) (hr.mono (by decide)) (takes_of rfl rfl rfl rfl) rfl (pv 5))) pss_nil)))
  (pss_cons (ps_setLc (i := 3) (own := [("number", 7), ("tree", 8)]) rfl sc_read.nd rfl rfl (sw_true rfl rfl rfl (by decide +kernel)) (pi_enum rfl T.z_enumerate (pa_cons (pe_fld (pv 1) rfl) pa_nil)) (blkOk_by (own := [("number", 7), ("tree", 8)]) (N := ["text", "reader", "rows", "things", "helpers", "line", "row", "number", "tree", "room", "claims"]) (sc := defScope s_read) (by decide +kernel)) (fun _ _ _ _ _ => by exact (pg_tupK (K := K) (n := 2) rfl rfl (pgs_cons (pg_name (i := 7) sc_read.nd rfl (by first | exact Or.inl rfl | exact Or.inr rfl)) (pgs_cons (pg_name (i := 8) sc_read.nd rfl (by first | exact Or.inl rfl | exact Or.inr rfl)) pgs_nil)))) (fun _ _ _ _ _ => pts_nil) (fun _ _ _ _ _ => (pe_tupF (pa_cons (pv 7) (pa_cons (pe_call (ok_closed T 3) (hr.mono (by decide)) rfl T.closed.m T.closed.F.kp T.closed.b .nil pass0 (pa_cons (pv 8) pa_nil)) pa_nil)))))
  (pss_cons (ps_setLc (i := 4) (own := [("number", 7), ("room", 9), ("claims", 10)]) rfl sc_read.nd rfl rfl (sw_true rfl rfl rfl (by decide +kernel)) (pi_enum rfl T.z_enumerate (pa_cons (pe_fld (pv 1) rfl) pa_nil)) (blkOk_by (own := [("number", 7), ("room", 9), ("claims", 10)]) (N := ["text", "reader", "rows", "things", "helpers", "line", "row", "number", "tree", "room", "claims"]) (sc := defScope s_read) (by decide +kernel)) (fun _ _ _ _ _ => by exact (pg_tupK (K := K) (n := 2) rfl rfl (pgs_cons (pg_name (i := 7) sc_read.nd rfl (by first | exact Or.inl rfl | exact Or.inr rfl)) (pgs_cons (pg_tupK (K := K) (n := 2) rfl rfl (pgs_cons (pg_name (i := 9) sc_read.nd rfl (by first | exact Or.inl rfl | exact Or.inr rfl)) (pgs_cons (pg_name (i := 10) sc_read.nd rfl (by first | exact Or.inl rfl | exact Or.inr rfl)) pgs_nil))) pgs_nil)))) (fun _ _ _ _ _ => pts_nil) (fun _ _ _ _ _ => (pe_tupF (pa_cons (pv 7) (pa_cons (pe_callTy (tupleK (K := K) rfl) (by rfl) T.z_tuple (by decide +kernel) (pa_cons (pv 10) pa_nil)) (pa_cons (pv 9) pa_nil))))))
  (pss_one (ps_ret (pe_tupF (pa_cons (pv 3) (pa_cons (pv 4) pa_nil)))))))))), ?_⟩
  obtain ⟨lr, lrr⟩ := rowsOf_len x
  have ke := run_end run
  refine g_seq fun r dx nr nd ne => ⟨r, dx, rfl, upd_same, fun H1 a b c k1 hr1 ha1 hb1 hc1 ab ac bc na nb nc => ⟨rfl, ?_⟩⟩
  have h0 : ∀ y o, H y = some o → upd (upd H dx (.own r)) r (.ins T.C_Reader dx []) y = some o := fun y o h => by
    rw [upd_ne (ne_of_none h nr), upd_ne (ne_of_none h nd)] ; exact h
  have E1 : Same H H1 := fun y o h => k1 y o (ne_of_none h nr) (h0 y o h)
  refine g_name ?_
  dsimp only
  refine q_asgL (xs := (rowsOf x).map V.str) (rows_made rfl lx) fun Z H2 nZ e2 hZ => ?_
  have st := RdInv.start (C := T.C_Reader) (res := .inl k) E1 hr1 ha1 hb1 hc1 ab ac bc nr (ex_free h0 na) (ex_free h0 nc) nZ e2 hZ run
  generalize hrw : rowsOf x = rws at lr lrr hZ st ke
  refine g_seq ?_
  refine ⟨.ref Z, rfl, Z, _, rfl, SqL.of hZ, for_enumL (K := K) (xs := rws.map V.str) (fun i σ H' => (∃ y5 y6 : Option V, σ = [some (.str x), some (.ref r), some (.ref Z), none, none, y5, y6, none, none, none, none]) ∧ RdInv T.C_Reader H rws (.inl k) r Z i H') ⟨⟨_, _, rfl⟩, st⟩ (fun i σ H' _ p => by obtain ⟨_, _, _, _, _, _, _, _, _, _, _, _, _, hz⟩ := p; exact SqL.of hz) (fun i u S0 σ H' hx p hS => ?_) (fun σ H' p => ?_)⟩
  · obtain ⟨⟨y5, y6, rfl⟩, inv⟩ := p
    rw [List.getElem?_map, Option.map_eq_some_iff] at hx
    obtain ⟨row, hrow, rfl⟩ := hx
    refine g_un2 (SqT.of upd_same) ?_
    have e5 : Same H' (upd H' S0 (.tup [.int (i : Nat), .str row])) := Same.new hS
    obtain ⟨dx', a', b', c', hr'⟩ := inv.inst
    refine ⟨.ref r, rfl, r, dx', _, rfl, e5 _ _ hr', rfl, ?_⟩
    refine ⟨.str row, rfl, ?_⟩
    have lrow := lrr row (List.mem_of_getElem? hrow)
    refine inv.turn (E := E0) hrow (by omega) (by omega) e5 (fun H3 h3 => ⟨true, rfl, ⟨_, _, rfl⟩, h3⟩) (fun z H3 e3 => ⟨false, rfl, ?_⟩)
    have ek : k = i := by injection z
    subst ek
    exact ⟨.int (k : Nat), rfl, (k : Int), rfl, log90 (by omega), fun d nd => q _ d (e3.trans (Same.new nd)) upd_same⟩
  obtain ⟨⟨y5, y6, rfl⟩, dx', a', b', c', S', m, rep, ok, run', zm, fr, E3, hz⟩ := p
  rw [List.length_map, List.drop_length] at run'
  cases run'


end
end Dm
namespace Dm
open PySem PySem.Spec PyProof.Rows L2 Evl
section
variable {P : Program} {w : World} {K : PySem.W.Frag} {mg : Str → Option Value} {base : Heap}
/-! ### _law_numbers -/
theorem one_sign {z : Str} (h : z.length = 1) : ∃ c, z = ⟨#[c]⟩ := by
  obtain ⟨⟨l⟩⟩ := z
  match l, h with
  | [c], _ => exact ⟨c, rfl⟩
theorem digits_eq : ("0123456789" : Str).cps.toList = [48, 49, 50, 51, 52, 53, 54, 55, 56, 57] := by decide +kernel
theorem fig_digit {c : Nat} (h : c ∈ ("0123456789" : Str).cps.toList) : (fig ⟨#[c]⟩).isSome = true := by
  rw [digits_eq] at h
  simp only [List.mem_cons, List.not_mem_nil, or_false] at h
  rcases h with rfl | rfl | rfl | rfl | rfl | rfl | rfl | rfl | rfl | rfl <;> decide +kernel
theorem fig_some {z : Str} {n : Int} (h : fig z = some n) : (z = "-1" ∨ ∃ c, z = ⟨#[c]⟩ ∧ c ∈ ("0123456789" : Str).cps.toList) ∧ PySem.intText? z = some n ∧ z.length ≤ 640 ∧ -1 ≤ n ∧ n ≤ 9 := by
  unfold fig at h
  repeat' split at h
  all_goals (rename_i e; first | (subst e; cases h) | cases h)
  · exact ⟨.inl rfl, by decide +kernel, by decide +kernel, by decide, by decide⟩
  · exact ⟨.inr ⟨48, by decide +kernel, by decide +kernel⟩, by decide +kernel, by decide +kernel, by decide, by decide⟩
  · exact ⟨.inr ⟨49, by decide +kernel, by decide +kernel⟩, by decide +kernel, by decide +kernel, by decide, by decide⟩
  · exact ⟨.inr ⟨50, by decide +kernel, by decide +kernel⟩, by decide +kernel, by decide +kernel, by decide, by decide⟩
  · exact ⟨.inr ⟨51, by decide +kernel, by decide +kernel⟩, by decide +kernel, by decide +kernel, by decide, by decide⟩
  · exact ⟨.inr ⟨52, by decide +kernel, by decide +kernel⟩, by decide +kernel, by decide +kernel, by decide, by decide⟩
  · exact ⟨.inr ⟨53, by decide +kernel, by decide +kernel⟩, by decide +kernel, by decide +kernel, by decide, by decide⟩
  · exact ⟨.inr ⟨54, by decide +kernel, by decide +kernel⟩, by decide +kernel, by decide +kernel, by decide, by decide⟩
  · exact ⟨.inr ⟨55, by decide +kernel, by decide +kernel⟩, by decide +kernel, by decide +kernel, by decide, by decide⟩
  · exact ⟨.inr ⟨56, by decide +kernel, by decide +kernel⟩, by decide +kernel, by decide +kernel, by decide, by decide⟩
  · exact ⟨.inr ⟨57, by decide +kernel, by decide +kernel⟩, by decide +kernel, by decide +kernel, by decide, by decide⟩
theorem fig_m1 : fig "-1" = some (-1) := by decide +kernel
def spNums (K : PySem.W.Frag) : Sp := fun vs H Q _ => ∃ (a : Addr) (ws : List Str), vs = [.ref a] ∧ SqL K H a (ws.map V.str) ∧ ws.length ≤ 90000 ∧ (∀ z ∈ ws, z.length ≤ 90000) ∧
  ((∃ z ∈ ws, fig z = none) → ∀ H', Same H H' → Q .non H') ∧ (∀ ns : List Int, ws.map fig = ns.map some → ∀ (H' : Hp) (p : Addr), Same H H' → H p = none → H' p = some (.lst (ns.map V.int)) → Q (.ref p) H')
theorem ok__law_numbers (T : Txt K mg) : FnOk P w K mg base CX0 1 T._law_numbers.f T._law_numbers.fd ["_law_words"] (spNums K) := by
  refine T._law_numbers.F.ok sc__law_numbers (fun vs H Q E h => ?_) (fun cdv A outer s H vs Q E hr h => ?_)
  · obtain ⟨a, ws, rfl, _⟩ := h ; rfl
  obtain ⟨a, ws, rfl, ha, lw, lz, q1, q2⟩ := h
  refine ⟨_, (pss_cons (ps_set (i := 1) sc__law_numbers.nd rfl (by first | exact Or.inl rfl | exact Or.inr rfl) (pe_lst pa_nil))
  (pss_cons (ps_for PassesOwn.never rfl (pi_listK (K := K) rfl (pv 0)) (pg_name (i := 2) sc__law_numbers.nd rfl (by first | exact Or.inl rfl | exact Or.inr rfl))
  (pss_cons (ps_if (PW.pt (pw_and (pt_cmpR op_ne (pv 2) pe_str (nomark _)) (pw_and1 (PW.pt (pw_or (pt_cmpR op_ne (pe_callB call_len_str (by rfl) T.z_len PySem.boot_len (pa_cons (pv 2) pa_nil)) pe_int (nomark _)) (pw_or1 (pt_cmpR op_notIn_sign (pv 2) pe_str (by with_unfolding_all rfl)))))))) (pss_one (ps_ret pe_non)) pss_nil)
  (pss_one (ps_expr (pe_bm PySem.F.plainAttrs_list PySem.F.slot_list_append PySem.F.type_list_append mt_append (pv 1) (pa_cons (pe_callTy call_int_str (by rfl) T.z_int (by decide +kernel) (pa_cons (pv 2) pa_nil)) pa_nil))))))
  (pss_one (ps_ret (pv 1))))), ?_⟩
  refine q_asgL (el_lst ea_nil (by decide)) fun L H1 nL e1 h1 => ?_
  refine q_forL (K := K) (a := a) (xs := ws.map V.str) (ev_var rfl) (ex_l e1 ha) (fun i σ H' => ∃ (y2 : Option V) (ns : List Int), σ = [some (.ref a), some (.ref L), y2] ∧ Same H H' ∧ H' L = some (.lst (ns.map V.int)) ∧ (ws.take i).map fig = ns.map some) (fun H2 e2 => ⟨_, [], rfl, e1.trans e2, e2 _ _ h1, rfl⟩) (fun i σ H' _ p => by obtain ⟨_, _, _, e, _⟩ := p; exact ex_l e ha) (fun i x σ H' hx p => ?_) (fun σ H' p => ?_)
  · obtain ⟨y2, ns, rfl, e, hL, hn⟩ := p
    rw [List.getElem?_map, Option.map_eq_some_iff] at hx
    obtain ⟨z, hz, rfl⟩ := hx
    have hi : i < ws.length := (List.getElem?_eq_some_iff.mp hz).1
    have hzm := List.mem_of_getElem? hz
    have lzz := lz z hzm
    have ln : ns.length = i := by have := congrArg List.length hn; rw [List.length_map, List.length_map, List.length_take] at this; omega
    refine g_name ?_
    have dm : decide (V.str z = V.str "-1") = decide (z = "-1") := by rw [Bool.eq_iff_iff, decide_eq_true_iff, decide_eq_true_iff]; exact ⟨fun y => by injection y, fun y => by rw [y]⟩
    have t1 : ∀ H2, Same H' H2 → EvT (tTest (tOp rNe (tVar 2) (tC (V.str (Str.ofString "-1"))))) [some (.ref a), some (.ref L), some (.str z)] H2 (!decide (z = "-1")) := fun H2 e2 => by
      rw [← dm]
      exact et_test (ev_op (ev_var rfl) ev_c (rv_ne rfl))
    have dl : decide ((z.length : Int) = 1) = decide (z.length = 1) := by rw [Bool.eq_iff_iff, decide_eq_true_iff, decide_eq_true_iff]; omega
    have t2 : ∀ H2, Same H' H2 → EvT (tTest (tOp rNe (tCB (fun xs H Q => ∃ z, xs = [V.str z] ∧ z.length ≤ sizeLine ∧ Q (V.int z.length) H) (tCons (tVar 2) tNil)) (tC (V.int 1)))) [some (.ref a), some (.ref L), some (.str z)] H2 (!decide (z.length = 1)) := fun H2 e2 => by
      rw [← dl]
      exact et_test (ev_op (ev_cb (ea_cons (ev_var rfl) ea_nil) fun H3 e3 Q q => ⟨z, rfl, by rw [sizeLine_eq]; omega, q H3 (Ex.refl H3)⟩) ev_c rv_neI)
    cases hf : fig z with
    | none =>
      have ne1 : z ≠ "-1" := fun y => by rw [y, fig_m1] at hf; cases hf
      refine q_when (b := true) (fun H2 e2 Q2 k2 => t1 H' (Same.refl H') H2 e2 _ fun H3 e3 => ?_) (fun _ H2 e2 => s_ret ev_c fun H3 e3 => q1 ⟨z, hzm, hf⟩ H3 (e.trans (e2.trans e3))) (fun y => nomatch y)
      rw [decide_eq_false ne1]
      simp only [Bool.not_false, ↓reduceIte]
      refine t2 H' (Same.refl H') H3 (e2.trans e3) _ fun H4 e4 => ?_
      by_cases l1 : z.length = 1
      · rw [decide_eq_true l1]
        obtain ⟨c, rfl⟩ := one_sign l1
        have nc : c ∉ ("0123456789" : Str).cps.toList := fun y => by have := fig_digit y; rw [hf] at this; cases this
        refine (et_test (b := !decide (c ∈ ("0123456789" : Str).cps.toList)) (ev_op (ev_var rfl) ev_c fun H5 e5 Q q => ⟨c, _, rfl, rfl, q H5 (Ex.refl H5)⟩)) H4 (Ex.refl H4) _ fun H5 e5 => ?_
        rw [decide_eq_false nc]
        exact k2 H5 ((e3.trans e4).trans e5)
      · rw [decide_eq_false l1]
        exact k2 H4 (e3.trans e4)
    | some n =>
      obtain ⟨hc, hi1, hl6, _⟩ := fig_some hf
      refine q_when (b := false) (fun H2 e2 Q2 k2 => t1 H' (Same.refl H') H2 e2 _ fun H3 e3 => ?_) (fun y => nomatch y) (fun _ H2 e2 => ?_)
      · rcases hc with rfl | ⟨c, rfl, hd⟩
        · rw [decide_eq_true rfl]
          exact k2 H3 e3
        · have nm : (⟨#[c]⟩ : Str) ≠ "-1" := fun y => by
            have := congrArg Str.length y
            have : (1 : Nat) = ("-1" : Str).length := this
            rw [show ("-1" : Str).length = 2 by decide +kernel] at this
            cases this
          rw [decide_eq_false nm]
          simp only [Bool.not_false, ↓reduceIte]
          refine t2 H' (Same.refl H') H3 (e2.trans e3) _ fun H4 e4 => ?_
          rw [decide_eq_true (show (⟨#[c]⟩ : Str).length = 1 from rfl)]
          refine (et_test (b := !decide (c ∈ ("0123456789" : Str).cps.toList)) (ev_op (ev_var rfl) ev_c fun H5 e5 Q q => ⟨c, _, rfl, rfl, q H5 (Ex.refl H5)⟩)) H4 (Ex.refl H4) _ fun H5 e5 => ?_
          rw [decide_eq_true hd]
          exact k2 H5 ((e3.trans e4).trans e5)
      · refine s_app (l := L) (xs := ns.map V.int) (v := .int n) (e2 _ _ hL) (ev_var rfl) (ev_cb (ea_cons (ev_var rfl) ea_nil) fun H5 e5 Q q => ⟨z, n, rfl, hi1, hl6, q H5 (Ex.refl H5)⟩) (by rw [List.length_map]; omega) fun H3 e3 => ?_
        refine ⟨_, ns ++ [n], rfl, Same.put (e.trans (e2.trans e3)) nL, by rw [upd_same, List.map_append]; rfl, ?_⟩
        rw [List.take_add_one, hz, Option.toList_some, List.map_append, hn, List.map_append]
        show _ ++ [fig z] = _
        rw [hf] ; rfl
  · obtain ⟨y2, ns, rfl, e, hL, hn⟩ := p
    rw [List.length_map, List.take_length] at hn
    exact s_ret (ev_var rfl) fun H3 e3 => q2 ns hn H3 L (e.trans e3) nL (e3 _ _ hL)
def spKept : Nat → Sp
  | 0 => fun _ _ _ _ => False
  | n + 1 => fun vs H Q _ => ∃ (N : Addr → Prop) (v : V) (t : Th), vs = [v] ∧ RT N H (n + 1) v t ∧ Th.ok n t ∧ ∀ (H' : Hp) (x : V), Same H H' → Tp H' x (Th.d t) → Q x H'
theorem kept_step (T : Txt K mg) {n : Nat} (ih : FnOk P w K mg base CX0 n T._law_kept.f T._law_kept.fd ["_law_one"] (spKept n)) : FnOk P w K mg base CX0 (n + 1) T._law_kept.f T._law_kept.fd ["_law_one"] (spKept (n + 1)) := by
  refine T._law_kept.F.ok sc__law_kept (fun vs H Q E h => ?_) (fun cdv A outer s H vs Q E hr h => ?_)
  · obtain ⟨N, v, t, rfl, _⟩ := h ; rfl
  obtain ⟨N, v, ⟨m, is⟩, rfl, rt, ok, q⟩ := h
  refine ⟨_, (pss_one (ps_ret (pe_tupF (pa_cons (pe_ix (ixK (K := K) rfl) (pv 0) pe_int (fun _ _ => rfl)) (pa_cons (pe_callTy (tupleK (K := K) rfl) (by rfl) T.z_tuple (by decide +kernel) (pa_cons (pe_lc (own := [("_law_inner", 1)]) rfl sc__law_kept.nd (pi_listK (K := K) rfl (pe_ix (ixK (K := K) rfl) (pv 0) pe_int (fun _ _ => rfl))) (blkOk_by (own := [("_law_inner", 1)]) (N := ["_law_one", "_law_inner"]) (sc := defScope s__law_kept) (by decide +kernel)) (fun _ _ _ _ _ => by exact (pg_name (i := 1) sc__law_kept.nd rfl (by first | exact Or.inl rfl | exact Or.inr rfl))) (fun _ _ _ _ _ => pts_nil) (fun _ _ _ _ _ => (pe_call ih hr rfl T._law_kept.m T._law_kept.F.kp T._law_kept.b .nil pass0 (pa_cons (pv 1) pa_nil)))) pa_nil)) pa_nil))))), ?_⟩
  obtain ⟨p, e, x, vs, rfl, _, tp, hx, he, al⟩ := rt
  have li := al.length
  have few := ok.few
  refine g_ret ?_
  refine (ev_ixT (i := 0) (ev_var rfl) ev_c tp (atI_nat (j := 0) rfl)) H (Ex.refl H) _ fun H1 e1 => ?_
  refine (ev_ixT (i := 1) (ev_var rfl) ev_c (tp.mono (Same.ts e1)) (atI_nat (j := 1) rfl)) H1 (Ex.refl H1) _ fun H2 e2 => ?_
  have E2 := e1.trans e2
  refine ⟨e, rfl, ⟨vs, SqL.of (E2 _ _ he)⟩, fun M hM => ?_⟩
  refine lc_list (xs := vs) (fun i H' => Same H2 H' ∧ ∃ acc, H' M = some (.lst acc) ∧ acc.length = i ∧ Tps H' acc ((is.take i).map Th.d)) ⟨Same.new hM, [], upd_same, rfl, .nil⟩ (fun i H' _ p => ex_l p.1 (SqL.of (E2 _ _ he))) (fun i y H' hy p => ?_) (fun H3 p => ?_)
  · obtain ⟨e3, acc, h3, la, tps⟩ := p
    obtain ⟨t, ht, rt'⟩ := al.get hy
    have hi : i < is.length := (List.getElem?_eq_some_iff.mp ht).1
    refine ⟨rfl, ?_⟩
    refine ⟨y, rfl, ?_⟩
    cases n with
    | zero => exact rt'.elim
    | succ k =>
      refine ⟨N, y, t, rfl, rt'.mono (fun _ h => h) (fun _ _ _ h => e3 _ _ (E2 _ _ h)) (Same.ts (E2.trans e3)), ok.2.2 t (List.mem_of_getElem? ht), fun H4 z e4 tz => ?_⟩
      have h4 := e4 _ _ h3
      have k5 : ∀ (u : Addr) (o : HO), u ≠ M → H4 u = some o → upd H4 M (.lst (acc ++ [z])) u = some o := fun u o hu h => by rw [upd_ne hu]; exact h
      have ts := tst_but1 k5 h4 fun _ _ => HO.noConfusion
      refine ⟨acc, h4, sz_lt (by omega), Same.put (e3.trans e4) hM, acc ++ [z], upd_same, by rw [List.length_append, la, List.length_singleton], ?_⟩
      rw [List.take_add_one, ht, Option.toList_some, List.map_append]
      exact ((tps.mono (Same.ts e4)).mono ts).append (.cons (tz.mono ts) .nil)
  obtain ⟨e3, acc, h3, la, tps⟩ := p
  rw [li, List.take_length] at tps
  refine ⟨M, _, rfl, .inl ⟨SqL.of h3, fun S o hS hd => ?_⟩⟩
  refine ⟨sz_of (by show 2 ≤ 100000; decide), fun p2 o2 hp2 hd2 => ?_⟩
  have e4 : Same H3 (upd H3 S (.frz o (.tup acc))) := Same.new hS
  have e5 : Same (upd H3 S (.frz o (.tup acc))) (upd (upd H3 S (.frz o (.tup acc))) p2 (.frz o2 (.tup [x, .ref S]))) := Same.new hp2
  have E := ((E2.trans e3).trans e4).trans e5
  refine q _ (.ref p2) E ?_
  rw [Th.d_mk]
  exact .tup ⟨o2, hd2, upd_same⟩ (.cons (hx.mono (Same.ts E)) (.cons (.tup (TupAt.mono (Same.ts e5) ⟨o, hd, upd_same⟩) (tps.mono (Same.ts (e4.trans e5)))) .nil))
theorem ok__law_kept (T : Txt K mg) : ∀ n, FnOk P w K mg base CX0 n T._law_kept.f T._law_kept.fd ["_law_one"] (spKept n)
  | 0 => ⟨fun vs H Q E h => h.elim, fun A outer s H args us vs Q E _ _ _ _ h => h.elim⟩
  | n + 1 => kept_step T (ok__law_kept T n)


end
end Dm
namespace Dm
open PySem PySem.Spec PyProof.Rows L2 Evl
section
variable {P : Program} {w : World} {K : PySem.W.Frag} {mg : Str → Option Value} {base : Heap}
/-! ### what the law's reader holds -/
def Sib (H : Hp) (a : Addr) (bs : List V) (k : Nat) (g : Addr) (xs : List V) : Prop :=
  H g = some (.lst xs) ∧ ((k = 0 ∧ g = a) ∨ (∃ (j : Nat) (p : Addr) (m : V), k = j + 1 ∧ bs[j]? = some (.ref p) ∧ TupAt H p [m, .ref g]))
theorem forest_add {H : Hp} {a b : Addr} {vs path : List V} {l : List Addr} {ts : List Th} {d : Nat} (ha : H a = some (.lst vs)) (fa : FA H 3 vs ts l) (sp : Spine H vs path) (nd : (a :: l).Nodup) (hd2 : d ≤ 2) (hd : d ≤ depS 3 ts) :
    ∃ g xs, g ∈ a :: l ∧ Sib H a path d g xs ∧ xs.length = wideAt d ts ∧
      ∀ (H' : Hp) (e p : Addr) (x : V) (mk : List Int), H e = none → Tp H' x (mkD mk) → H' e = some (.lst []) → TupAt H' p [x, .ref e] → H' g = some (.lst (xs ++ [.ref p])) → Tst H H' → (∀ y ∈ a :: l, y ≠ g → ∀ o, H y = some o → H' y = some o) →
        ∃ vs' l', H' a = some (.lst vs') ∧ FA H' 3 vs' (addAt d mk ts) l' ∧ Spine H' vs' (path.take d ++ [.ref p]) ∧ l'.Nodup ∧ (∀ y, y ∈ l' ↔ y ∈ l ∨ y = e) := by
  obtain ⟨n1, n5⟩ := List.nodup_cons.mp nd
  have lp := Spine.len fa sp
  have fresh : ∀ e, H e = none → e ∉ a :: l := fun e he z => by
    rcases List.mem_cons.mp z with rfl | z
    · rw [ha] at he ; cases he
    · obtain ⟨o, ho⟩ := FA.there fa z
      rw [he] at ho ; cases ho
  cases d with
  | zero =>
    refine ⟨a, vs, by simp, ⟨ha, .inl ⟨rfl, rfl⟩⟩, fa.length, fun H' e p x mk he hx he' hp hg ts' f => ?_⟩
    have ne := fresh e he
    refine ⟨_, l ++ [e], hg, (fa.keep ts' fun y hy o ho => f y (by simp [hy]) (fun z => n1 (by rw [← z]; exact hy)) o ho).app (FA.leaf (n := 2) hp hx he'), ?_, List.nodup_append.mpr ⟨n5, by simp, fun y hy y' hy' z => ne (by rw [List.mem_singleton.mp hy'] at z; rw [← z]; simp [hy])⟩, fun y => by simp⟩
    rw [List.take_zero, List.nil_append]
    exact .last hp he' .nil
  | succ d =>
    obtain ⟨p0, x0, g, xs, b1, b2, b3, b4, b5, b6⟩ := FA.grow d fa n5 sp (by rw [lp]; exact hd) (by omega)
    refine ⟨g, xs, by simp [b4], ⟨b3, .inr ⟨d, p0, x0, rfl, b1, b2⟩⟩, b5, fun H' e p x mk he hx he' hp hg ts' f => ?_⟩
    have ne := fresh e he
    have ag : a ≠ g := fun z => n1 (by rw [z]; exact b4)
    obtain ⟨l', c1, c2, c3, c4⟩ := b6 H' p e x mk (fun y o hy hn ho => f y (by simp [hy]) hn o ho) ts' hg hp hx he' fun z => ne (by simp [z])
    exact ⟨vs, l', f a (by simp) ag _ ha, c1, c4, c2, c3⟩
def hqD (q : Hq) : PyData := .list [.int q.2, .list (q.1.map clD)]
/-- helpers as lists [room, claims] -/
inductive HB (H : Hp) : List V → List Hq → List Addr → Prop
  | nil : HB H [] [] []
  | cons {p e : Addr} {k : Int} {zs vs : List V} {cs : List (List Int × Int)} {hs : List Hq} {l : List Addr} : H p = some (.lst [.int k, .ref e]) → H e = some (.lst zs) → Tps H zs (cs.map clD) → HB H vs hs l → HB H (.ref p :: vs) ((cs, k) :: hs) (p :: e :: l)
theorem HB.length {H : Hp} {vs : List V} {hs : List Hq} {l : List Addr} (h : HB H vs hs l) : vs.length = hs.length := by
  induction h with
  | nil => rfl
  | cons _ _ _ _ ih => rw [List.length_cons, List.length_cons, ih]
theorem HB.keep {H H' : Hp} {vs : List V} {hs : List Hq} {l : List Addr} (h : HB H vs hs l) (t : Tst H H') : (∀ y ∈ l, ∀ o, H y = some o → H' y = some o) → HB H' vs hs l := by
  induction h with
  | nil => exact fun _ => .nil
  | cons h1 h2 h3 h4 i1 =>
    intro k
    exact .cons (k _ (by simp) _ h1) (k _ (by simp) _ h2) (h3.mono t) (i1 fun y hy => k y (by simp [hy]))
theorem HB.app {H : Hp} {vs : List V} {hs : List Hq} {l : List Addr} (h : HB H vs hs l) : ∀ {vs2 : List V} {hs2 : List Hq} {l2 : List Addr}, HB H vs2 hs2 l2 → HB H (vs ++ vs2) (hs ++ hs2) (l ++ l2) := by
  induction h with
  | nil => exact fun h2 => h2
  | cons h1 h2 h3 h4 i1 => exact fun k => .cons h1 h2 h3 (i1 k)
theorem HB.snoc {H : Hp} : ∀ {us : List Hq} {vs : List V} {cs : List (List Int × Int)} {k : Int} {l : List Addr}, HB H vs (us ++ [(cs, k)]) l → ∃ vs1 p e zs l1, vs = vs1 ++ [.ref p] ∧ HB H vs1 us l1 ∧ H p = some (.lst [.int k, .ref e]) ∧ H e = some (.lst zs) ∧ Tps H zs (cs.map clD) ∧ l = l1 ++ [p, e]
  | [], vs, cs, k, l, h => by
    cases h with
    | cons h1 h2 h3 h4 =>
      cases h4
      exact ⟨[], _, _, _, [], rfl, .nil, h1, h2, h3, rfl⟩
  | u :: us, vs, cs, k, l, h => by
    cases h with
    | cons h1 h2 h3 h4 =>
      obtain ⟨vs1, p, e, zs, l1, rfl, k1, k2, k3, k4, rfl⟩ := HB.snoc h4
      exact ⟨_, p, e, zs, _, rfl, .cons h1 h2 h3 k1, k2, k3, k4, rfl⟩
theorem HB.there {H : Hp} {vs : List V} {hs : List Hq} {l : List Addr} (h : HB H vs hs l) : ∀ {y : Addr}, y ∈ l → ∃ zs, H y = some (.lst zs) := by
  induction h with
  | nil => exact fun z => nomatch z
  | cons h1 h2 h3 h4 i1 =>
    intro y hy
    rcases List.mem_cons.mp hy with rfl | hy
    · exact ⟨_, h1⟩
    rcases List.mem_cons.mp hy with rfl | hy
    · exact ⟨_, h2⟩
    · exact i1 hy
theorem HB.get {H : Hp} {vs : List V} {hs : List Hq} {l : List Addr} (h : HB H vs hs l) : ∀ {i : Nat} {x : V}, vs[i]? = some x → ∃ cs k p e zs, hs[i]? = some (cs, k) ∧ x = .ref p ∧ H p = some (.lst [.int k, .ref e]) ∧ H e = some (.lst zs) ∧ Tps H zs (cs.map clD) := by
  induction h with
  | nil => exact fun h => by cases h
  | cons h1 h2 h3 h4 ih =>
    intro i x hx
    cases i with
    | zero => cases hx; exact ⟨_, _, _, _, _, rfl, rfl, h1, h2, h3⟩
    | succ i => exact ih hx
theorem HB.dp {H : Hp} {vs : List V} {hs : List Hq} {l : List Addr} (h : HB H vs hs l) : DpAll K H vs (hs.map hqD) := by
  induction h with
  | nil => exact .nil
  | cons h1 h2 h3 h4 ih => exact .cons (.lst (SqL.of h1) (.cons (.int _) (.cons (.lst (SqL.of h2) h3.dp) .nil))) ih
theorem shaped_hq {hs : List Hq} (h1 : hs.length ≤ 40000) (h2 : ∀ q ∈ hs, okClaims q.1) : SeqAt.shaped (.list (hs.map hqD)) = true := by
  refine Fint.shaped (n := 5) (.list (by rw [List.length_map]; exact h1) fun d hd => ?_) (by decide)
  obtain ⟨q, hq, rfl⟩ := List.mem_map.mp hd
  refine .list (by show 2 ≤ 40000; decide) fun d hd => ?_
  simp only [List.mem_cons, List.not_mem_nil, or_false] at hd
  rcases hd with rfl | rfl
  · exact .int _ _
  · have ok := h2 q hq
    refine .list (by rw [List.length_map]; have := ok.1; omega) fun d hd => ?_
    obtain ⟨c, hc, rfl⟩ := List.mem_map.mp hd
    refine .tuple (by show 2 ≤ 40000; decide) fun d hd => ?_
    simp only [List.mem_cons, List.not_mem_nil, or_false] at hd
    rcases hd with rfl | rfl
    · exact fine_mk (by rw [(ok.2 c hc).1]; decide)
    · exact .int _ _
section
variable {σ : L2.St} {H : Hp} {te : TE} {p : Addr} {ds : List PyData}
theorem et_neNilP (h : Ev te σ H (.ref p)) (tx : ∀ H1, Same H H1 → Dp K H1 (.ref p) (.list ds)) (sh : SeqAt.shaped (.list ds) = true) : EvT (tTest (tOp (rNeD K) te (tLst tNil))) σ H (!decide (ds = [])) := fun H1 e Q q =>
  h H1 e _ fun H2 e2 => (el_lst ea_nil (by decide)) H2 (e.trans e2) _ fun r H3 hr e3 h3 => ⟨.list ds, .list [], tx H3 ((e.trans e2).trans e3), .lst (SqL.of h3) .nil, sh, (show SeqAt.shaped (.list []) = true by decide), _, rfl, by rw [eqv_nilL]; exact q H3 (e2.trans e3)⟩
theorem et_eqNilP (h : Ev te σ H (.ref p)) (tx : ∀ H1, Same H H1 → Dp K H1 (.ref p) (.list ds)) (sh : SeqAt.shaped (.list ds) = true) : EvT (tTest (tOp (rEqD K) te (tLst tNil))) σ H (decide (ds = [])) := fun H1 e Q q =>
  h H1 e _ fun H2 e2 => (el_lst ea_nil (by decide)) H2 (e.trans e2) _ fun r H3 hr e3 h3 => ⟨.list ds, .list [], tx H3 ((e.trans e2).trans e3), .lst (SqL.of h3) .nil, sh, (show SeqAt.shaped (.list []) = true by decide), _, rfl, by rw [eqv_nilL]; exact q H3 (e2.trans e3)⟩
end
def RepW (H : Hp) (t pa hp : Addr) (S : RdS) (m : List Addr) : Prop := ∃ (vs path ws : List V) (l l2 : List Addr), H t = some (.lst vs) ∧ FA H 3 vs S.ts l ∧ H pa = some (.lst path) ∧ Spine H vs path ∧ H hp = some (.lst ws) ∧ HB H ws S.hs l2 ∧ m = t :: hp :: (l ++ l2) ∧ m.Nodup ∧ pa ∉ m
theorem RepW.same {H H' : Hp} {t pa hp : Addr} {S : RdS} {m : List Addr} (h : RepW H t pa hp S m) (e : Same H H') : RepW H' t pa hp S m := by
  obtain ⟨vs, path, ws, l, l2, h2, h3, h4, h5, h6, h7, h8, h9, h10⟩ := h
  exact ⟨vs, path, ws, l, l2, e _ _ h2, h3.keep (Same.ts e) fun y _ o ho => e _ _ ho, e _ _ h4, h5.keep e, e _ _ h6, h7.keep (Same.ts e) fun y _ o ho => e _ _ ho, h8, h9, h10⟩
theorem RepW.there {H : Hp} {t pa hp : Addr} {S : RdS} {m : List Addr} (h : RepW H t pa hp S m) {y : Addr} (hy : y ∈ m) : ∃ zs, H y = some (.lst zs) := by
  obtain ⟨vs, path, ws, l, l2, h2, h3, h4, h5, h6, h7, rfl, h9, h10⟩ := h
  rcases List.mem_cons.mp hy with rfl | z
  · exact ⟨_, h2⟩
  rcases List.mem_cons.mp z with rfl | z
  · exact ⟨_, h6⟩
  rcases List.mem_append.mp z with z | z
  · exact FA.lists h3 z
  · exact HB.there h7 z
theorem RepW.addT {H : Hp} {t pa hp : Addr} {S : RdS} {m : List Addr} (h : RepW H t pa hp S m) {d : Nat} (hd2 : d ≤ 2) (hd : d ≤ depS 3 S.ts) :
    ∃ path g xs, H pa = some (.lst path) ∧ path.length = depS 3 S.ts ∧ Sib H t path d g xs ∧ g ≠ pa ∧ g ∈ m ∧ xs.length = wideAt d S.ts ∧
      ∀ (H' : Hp) (e p pa' : Addr) (x : V) (mk : List Int), H e = none → H pa' = none → Tp H' x (mkD mk) → H' e = some (.lst []) → TupAt H' p [x, .ref e] → H' g = some (.lst (xs ++ [.ref p])) → H' pa' = some (.lst (path.take d ++ [.ref p])) → (∀ y o, y ≠ g → H y = some o → H' y = some o) →
        ∃ m', RepW H' t pa' hp ⟨addAt d mk S.ts, S.hs⟩ m' ∧ (∀ y ∈ m', y ∈ m ∨ H y = none) := by
  have there := fun y hy => RepW.there h (y := y) hy
  obtain ⟨vs, path, ws, l, l2, h2, h3, h4, h5, h6, h7, rfl, h9, h10⟩ := h
  have lp := Spine.len h3 h5
  obtain ⟨n1, n2⟩ := List.nodup_cons.mp h9
  obtain ⟨n3, n4⟩ := List.nodup_cons.mp n2
  obtain ⟨n5, n6, n7⟩ := List.nodup_append.mp n4
  have nd : (t :: l).Nodup := List.nodup_cons.mpr ⟨fun z => n1 (by simp [z]), n5⟩
  obtain ⟨g, xs, gm, gr, lx, fin⟩ := forest_add (b := pa) h2 h3 h5 nd hd2 hd
  have gm' : g ∈ t :: hp :: (l ++ l2) := by
    rcases List.mem_cons.mp gm with z | z
    · simp [z]
    · simp [z]
  refine ⟨path, g, xs, h4, lp, gr, fun z => h10 (z ▸ gm'), gm', lx, fun H' e p pa' x mk he hpa hx he' hp' hg hpa' f => ?_⟩
  have ts : Tst H H' := tst_but1 f gr.1 fun _ _ => HO.noConfusion
  obtain ⟨vs', l', c1, c2, c3, c4, c5⟩ := fin H' e p x mk he hx he' hp' hg ts fun y _ hn o ho => f y o hn ho
  have old : ∀ {z : Addr}, H z = none → z ∉ t :: hp :: (l ++ l2) := fun {z} hz w => by
    obtain ⟨zs, hzs⟩ := there z w
    rw [hz] at hzs ; cases hzs
  have ne := old he
  have npa := old hpa
  have hg' : hp ≠ g := fun z => by
    rcases List.mem_cons.mp gm with w | w
    · exact n1 (by rw [← w, ← z]; simp)
    · exact n3 (by rw [z]; simp [w])
  have l2g : ∀ y ∈ l2, y ≠ g := fun y hy z => by
    rcases List.mem_cons.mp gm with w | w
    · exact n1 (by rw [← w, ← z]; simp [hy])
    · exact n7 g w y hy z.symm
  have eb : e ≠ pa' := fun z => by
    subst z
    have w := HO.lst.inj (Option.some.inj (he'.symm.trans hpa'))
    exact absurd (congrArg List.length w) (by rw [List.length_append]; exact Nat.ne_of_lt (Nat.lt_of_lt_of_le Nat.zero_lt_one (Nat.le_add_left _ _)))
  refine ⟨t :: hp :: (l' ++ l2), ⟨vs', _, ws, l', l2, c1, c2, hpa', c3, f _ _ hg' h6, h7.keep ts fun y hy o ho => f y o (l2g y hy) ho, rfl, ?_, ?_⟩, fun y hy => ?_⟩
  · refine List.nodup_cons.mpr ⟨fun z => ?_, List.nodup_cons.mpr ⟨fun z => ?_, List.nodup_append.mpr ⟨c4, n6, fun y hy y' hy' z => ?_⟩⟩⟩
    · rcases List.mem_cons.mp z with z | z
      · exact n1 (by simp [z])
      rcases List.mem_append.mp z with z | z
      · rcases (c5 t).mp z with z | z
        · exact n1 (by simp [z])
        · exact ne (by simp [z])
      · exact n1 (by simp [z])
    · rcases List.mem_append.mp z with z | z
      · rcases (c5 hp).mp z with z | z
        · exact n3 (by simp [z])
        · exact ne (by simp [z])
      · exact n3 (by simp [z])
    · rcases (c5 y).mp hy with hy | hy
      · exact n7 y hy y' hy' z
      · exact ne (by rw [← hy, z]; simp [hy'])
  · intro z
    rcases List.mem_cons.mp z with z | z
    · exact npa (by simp [z])
    rcases List.mem_cons.mp z with z | z
    · exact npa (by simp [z])
    rcases List.mem_append.mp z with z | z
    · rcases (c5 pa').mp z with z | z
      · exact npa (by simp [z])
      · exact eb z.symm
    · exact npa (by simp [z])
  · rcases List.mem_cons.mp hy with rfl | hy
    · exact .inl (by simp)
    rcases List.mem_cons.mp hy with rfl | hy
    · exact .inl (by simp)
    rcases List.mem_append.mp hy with hy | hy
    · rcases (c5 y).mp hy with hy | rfl
      · exact .inl (by simp [hy])
      · exact .inr he
    · exact .inl (by simp [hy])
theorem RepW.addH {H : Hp} {t pa hp : Addr} {S : RdS} {m : List Addr} (h : RepW H t pa hp S m) : ∃ ws, H hp = some (.lst ws) ∧ ws.length = S.hs.length ∧ hp ∈ m ∧
    ∀ (H' : Hp) (e p : Addr) (k : Int), H e = none → H p = none → e ≠ p → H' e = some (.lst []) → H' p = some (.lst [V.int k, V.ref e]) → H' hp = some (.lst (ws ++ [V.ref p])) → (∀ y o, y ≠ hp → H y = some o → H' y = some o) →
      ∃ m', RepW H' t pa hp ⟨S.ts, S.hs ++ [([], k)]⟩ m' ∧ (∀ y ∈ m', y ∈ m ∨ H y = none) := by
  have there := fun y hy => RepW.there h (y := y) hy
  obtain ⟨vs, path, ws, l, l2, h2, h3, h4, h5, h6, h7, rfl, h9, h10⟩ := h
  refine ⟨ws, h6, h7.length, by simp, fun H' e p k he hpp ep he' hp' hc f => ?_⟩
  obtain ⟨n1, n2⟩ := List.nodup_cons.mp h9
  obtain ⟨n3, n4⟩ := List.nodup_cons.mp n2
  have tc : t ≠ hp := fun z => n1 (by simp [z])
  have bc : pa ≠ hp := fun z => h10 (by simp [z])
  have ts : Tst H H' := tst_but1 f h6 fun _ _ => HO.noConfusion
  have cl : ∀ y ∈ l ++ l2, y ≠ hp := fun y hy z => n3 (z ▸ hy)
  have old : ∀ {z : Addr}, H z = none → z ∉ t :: hp :: (l ++ l2) := fun {z} hz w => by
    obtain ⟨zs, hzs⟩ := there z w
    rw [hz] at hzs ; cases hzs
  refine ⟨t :: hp :: (l ++ (l2 ++ [p, e])), ⟨vs, path, ws ++ [.ref p], l, l2 ++ [p, e], f _ _ tc h2, h3.keep ts fun y hy o ho => f y o (cl y (List.mem_append_left _ hy)) ho, f _ _ bc h4, h3.spine h5 ts fun y hy o ho => f y o (cl y (List.mem_append_left _ hy)) ho, hc, (h7.keep ts fun y hy o ho => f y o (cl y (List.mem_append_right _ hy)) ho).app (.cons hp' he' .nil .nil), rfl, ?_, ?_⟩, fun y hy => ?_⟩
  · rw [← List.append_assoc, ← List.cons_append, ← List.cons_append]
    refine List.nodup_append.mpr ⟨h9, by simp [Ne.symm ep], fun x hx y hy z => ?_⟩
    simp only [List.mem_cons, List.not_mem_nil, or_false] at hy
    rcases hy with rfl | rfl
    · exact old hpp (z ▸ hx)
    · exact old he (z ▸ hx)
  · rw [← List.append_assoc, ← List.cons_append, ← List.cons_append]
    intro z
    rcases List.mem_append.mp z with z | z
    · exact h10 z
    · simp only [List.mem_cons, List.not_mem_nil, or_false] at z
      rcases z with rfl | rfl
      · rw [hpp] at h4 ; cases h4
      · rw [he] at h4 ; cases h4
  · rw [← List.append_assoc, ← List.cons_append, ← List.cons_append] at hy
    rcases List.mem_append.mp hy with z | z
    · exact .inl z
    · simp only [List.mem_cons, List.not_mem_nil, or_false] at z
      rcases z with rfl | rfl
      · exact .inr hpp
      · exact .inr he
theorem RepW.addC {H : Hp} {t pa hp : Addr} {S : RdS} {m : List Addr} (h : RepW H t pa hp S m) {us : List Hq} {cs : List (List Int × Int)} {k : Int} (eh : S.hs = us ++ [(cs, k)]) :
    ∃ ws p e zs, H hp = some (.lst (ws ++ [V.ref p])) ∧ H p = some (.lst [V.int k, V.ref e]) ∧ H e = some (.lst zs) ∧ zs.length = cs.length ∧ e ∈ m ∧
      ∀ (H' : Hp) (x : V) (cl : List Int × Int), Tp H' x (clD cl) → H' e = some (.lst (zs ++ [x])) → (∀ y o, y ≠ e → H y = some o → H' y = some o) → RepW H' t pa hp ⟨S.ts, us ++ [(cs ++ [cl], k)]⟩ m := by
  obtain ⟨vs, path, ws, l, l2, h2, h3, h4, h5, h6, h7, rfl, h9, h10⟩ := h
  rw [eh] at h7
  obtain ⟨ws1, p, e, zs, l3, rfl, k1, k2, k3, k4, rfl⟩ := h7.snoc
  have lz : zs.length = cs.length := by rw [k4.length, List.length_map]
  refine ⟨ws1, p, e, zs, h6, k2, k3, lz, by simp, fun H' x cl hx he f => ?_⟩
  obtain ⟨n1, n2⟩ := List.nodup_cons.mp h9
  obtain ⟨n3, n4⟩ := List.nodup_cons.mp n2
  obtain ⟨n5, n6, n7⟩ := List.nodup_append.mp n4
  obtain ⟨n8, n9, n10⟩ := List.nodup_append.mp n6
  have ae : t ≠ e := fun z => n1 (by simp [z])
  have ce : hp ≠ e := fun z => n3 (by simp [z])
  have be : pa ≠ e := fun z => h10 (by simp [z])
  have pe : p ≠ e := fun z => by subst z; simp at n9
  have ts : Tst H H' := tst_but1 f k3 fun _ _ => HO.noConfusion
  have fl : ∀ y ∈ l, ∀ o, H y = some o → H' y = some o := fun y hy o ho => f y o (n7 y hy e (by simp)) ho
  refine ⟨vs, path, ws1 ++ [.ref p], l, l3 ++ [p, e], f _ _ ae h2, h3.keep ts fl, f _ _ be h4, h3.spine h5 ts fl, f _ _ ce h6, ?_, rfl, h9, h10⟩
  refine (k1.keep ts fun y hy o ho => f y o (n10 y hy e (by simp)) ho).app (.cons (f _ _ pe k2) he ?_ .nil)
  rw [List.map_append]
  exact (k4.mono ts).append (.cons hx .nil)
theorem wide_le : ∀ {d n : Nat} {ts : List Th}, (∀ t ∈ ts, Th.ok n t) → d + 1 ≤ depS (n + 1) ts → wideAt (d + 1) ts ≤ 3
  | d, n, ts, ok, hd => by
    rcases List.eq_nil_or_concat ts with rfl | ⟨us, t, rfl⟩
    · simp [depS] at hd
    rw [List.concat_eq_append] at *
    obtain ⟨m, is⟩ := t
    rw [depS_snoc] at hd
    rw [wideAt_snoc]
    have o := ok (.mk m is) (by simp)
    cases d with
    | zero => exact o.few
    | succ d =>
      cases n with
      | zero => rw [o.2] at hd; simp [depS] at hd
      | succ n => exact wide_le o.2.2 (by omega)


end
end Dm
namespace Dm
open PySem PySem.Spec PyProof.Rows L2 Evl
section
variable {P : Program} {w : World} {K : PySem.W.Frag} {mg : Str → Option Value} {base : Heap}
/-! ### _law_due: what is reckoned -/
theorem all_some {ns : List (Option Int)} {vs : List Int} (h : ns = vs.map some) : ∀ o ∈ ns, o ≠ none := fun o ho z => by
  subst h
  obtain ⟨i, _, e⟩ := List.mem_map.mp ho
  rw [z] at e ; cases e
theorem stepW_all {S S' : RdS} {h : Str} {ns : List (Option Int)} (e : stepW S h ns = some S') : ∀ o ∈ ns, o ≠ none := by
  unfold stepW at e
  split at e
  · obtain ⟨d, x, y, z, rfl, _⟩ := stepT_some e
    exact all_some (vs := [(d : Int), x, y, z]) rfl
  split at e
  · obtain ⟨k, rfl, _⟩ := stepH_some e
    exact all_some (vs := [k]) rfl
  split at e
  · obtain ⟨x, y, z, u, us, cs, k, rfl, _⟩ := stepC_some e
    exact all_some (vs := [x, y, z, u]) rfl
  · cases e
def lenW (h : Str) : Int := if h = "thing" then 4 else if h = "helper" then 1 else if h = "claim" then 4 else -1
theorem stepW_len {S : RdS} {h : Str} {ns : List (Option Int)} (hl : (ns.length : Int) ≠ lenW h) : stepW S h ns = none := by
  unfold lenW at hl
  unfold stepW
  split
  · rename_i e
    rw [if_pos e] at hl
    exact stepT_len (by omega)
  rename_i e1
  rw [if_neg e1] at hl
  split
  · rename_i e
    rw [if_pos e] at hl
    exact stepH_len (by omega)
  rename_i e2
  rw [if_neg e2] at hl
  split
  · rename_i e
    rw [if_pos e] at hl
    exact stepC_len (by omega)
  · rfl
theorem stepT_mk {S : RdS} {d : Nat} {x y z : Int} (d2 : d ≤ 2) (om : okMarks [x, y, z]) (hs : S.hs = []) (dd : d ≤ depS 3 S.ts) (dw : d = 0 ∨ wideAt d S.ts < 3) : stepT S [some (d : Int), some x, some y, some z] = some ⟨addAt d [x, y, z] S.ts, S.hs⟩ := by
  have e0 : stepT S [some (d : Int), some x, some y, some z] = if (isNum 0 2 (.int (d : Int)) && isThree 0 (mkD [x, y, z]) && S.hs.isEmpty && decide (d ≤ depS 3 S.ts) && (decide ((d : Int) = 0) || decide (wideAt d S.ts < 3))) = true then some ⟨addAt d [x, y, z] S.ts, S.hs⟩ else none := rfl
  have n1 : isNum 0 2 (.int (d : Int)) = true := by
    show (decide (0 ≤ (d : Int)) && decide ((d : Int) ≤ 2)) = true
    rw [decide_eq_true (by omega), decide_eq_true (by omega)] ; rfl
  rw [e0, if_pos]
  rw [n1, om.three, hs, decide_eq_true dd]
  rcases dw with rfl | dw
  · rfl
  · rw [decide_eq_true dw, Bool.or_true] ; rfl
theorem stepH_mk {S : RdS} {k : Int} (k0 : 0 ≤ k) (k4 : k ≤ 4) : stepH S [some k] = some ⟨S.ts, S.hs ++ [([], k)]⟩ := by
  have e0 : stepH S [some k] = if isNum 0 4 (.int k) = true then some ⟨S.ts, S.hs ++ [([], k)]⟩ else none := rfl
  rw [e0, if_pos]
  show (decide (0 ≤ k) && decide (k ≤ 4)) = true
  rw [decide_eq_true k0, decide_eq_true k4] ; rfl
theorem stepC_mk {S : RdS} {x y z u k : Int} {us : List Hq} {cs : List (List Int × Int)} (oc : okClaim ([x, y, z], u)) (eh : S.hs = us ++ [(cs, k)]) (lc : cs.length < 6) : stepC S [some x, some y, some z, some u] = some ⟨S.ts, us ++ [(cs ++ [([x, y, z], u)], k)]⟩ := by
  obtain ⟨ts, hs⟩ := S
  dsimp only at eh
  subst eh
  have el : lastQ (us ++ [(cs, k)]) = (cs, k) := by unfold lastQ; rw [List.getLast?_concat]; rfl
  have e0 : stepC ⟨ts, us ++ [(cs, k)]⟩ [some x, some y, some z, some u] = if (isClaimD (clD ([x, y, z], u)) && !(us ++ [(cs, k)]).isEmpty && decide ((lastQ (us ++ [(cs, k)])).1.length < 6)) = true then some ⟨ts, (us ++ [(cs, k)]).dropLast ++ [((lastQ (us ++ [(cs, k)])).1 ++ [([x, y, z], u)], (lastQ (us ++ [(cs, k)])).2)]⟩ else none := rfl
  rw [e0, el, List.dropLast_concat, if_pos]
  rw [oc.is, decide_eq_true lc]
  cases us <;> rfl
theorem any_min {ns : List Int} {m : Int} (hm : m ∈ ns) (hl : ∀ y ∈ ns, m ≤ y) : decide (m < 0) = ns.any fun n => decide (n < 0) := by
  rw [Bool.eq_iff_iff, decide_eq_true_iff, List.any_eq_true]
  constructor
  · exact fun h => ⟨m, hm, decide_eq_true h⟩
  · rintro ⟨n, hn, h⟩
    have h := of_decide_eq_true h
    have := hl n hn
    omega
section
variable {σ : L2.St} {H : Hp} {ty tx te : TE} {hd : Str} {p : Addr} {ns : List Int}
theorem ev_lenW (hy : ∀ H1, Same H H1 → Ev ty σ H1 (.str hd)) (hx : ∀ H1, Same H H1 → Ev tx σ H1 (.int (-1))) : Ev (tDGet2 (tDisp [(tC (.str (Str.ofString "thing")), tC (.int 4)), (tC (.str (Str.ofString "helper")), tC (.int 1)), (tC (.str (Str.ofString "claim")), tC (.int 4))]) ty tx) σ H (.int (lenW hd)) := fun H1 e Q q => by
  intro d hd0
  refine ⟨upd_same, [(Sum.inr (Str.ofString "thing"), .int 4), (Sum.inr (Str.ofString "helper"), .int 1), (Sum.inr (Str.ofString "claim"), .int 4)], rfl, by decide, ?_⟩
  have e2 : Same H1 (upd (upd H1 d (.dK [])) d (.dK (mergeK [] [(Sum.inr (Str.ofString "thing"), .int 4), (Sum.inr (Str.ofString "helper"), .int 1), (Sum.inr (Str.ofString "claim"), .int 4)]))) := Same.put (Same.new hd0) hd0
  have h2 : (upd (upd H1 d (.dK [])) d (.dK (mergeK [] [(Sum.inr (Str.ofString "thing"), .int 4), (Sum.inr (Str.ofString "helper"), .int 1), (Sum.inr (Str.ofString "claim"), .int 4)]))) d = some (.dK (mergeK [] [(Sum.inr (Str.ofString "thing"), .int 4), (Sum.inr (Str.ofString "helper"), .int 1), (Sum.inr (Str.ofString "claim"), .int 4)])) := upd_same
  generalize (upd (upd H1 d (.dK [])) d (.dK (mergeK [] [(Sum.inr (Str.ofString "thing"), .int 4), (Sum.inr (Str.ofString "helper"), .int 1), (Sum.inr (Str.ofString "claim"), .int 4)]))) = H2 at e2 h2 ⊢
  refine ⟨d, rfl, .inl ⟨_, .inl h2⟩, ?_⟩
  refine hy H2 (e.trans e2) H2 (Ex.refl H2) _ fun H3 e3 => ?_
  refine hx H3 (e.trans (e2.trans e3)) H3 (Ex.refl H3) _ fun H4 e4 => ⟨_, DGet.k (k := Sum.inr hd) ((e3.trans e4) _ _ h2), ?_⟩
  have ev : (valV (mergeK [] [((Sum.inr (Str.ofString "thing") : Key), V.int 4), (Sum.inr (Str.ofString "helper"), V.int 1), (Sum.inr (Str.ofString "claim"), V.int 4)]) (Sum.inr hd)).getD (.int (-1)) = .int (lenW hd) := by
    show (valV (putK (putK (putK [] (Sum.inr (Str.ofString "thing") : Key) (V.int 4)) (Sum.inr (Str.ofString "helper")) (V.int 1)) (Sum.inr (Str.ofString "claim")) (V.int 4)) (Sum.inr hd)).getD (.int (-1)) = _
    rw [valV_put, valV_put, valV_put]
    unfold lenW
    by_cases a : hd = "thing"
    · subst a
      rw [if_neg (by decide +kernel), if_neg (by decide +kernel), if_pos rfl, if_pos rfl] ; rfl
    by_cases b : hd = "helper"
    · subst b
      rw [if_neg (by decide +kernel), if_pos rfl, if_neg a, if_pos rfl] ; rfl
    by_cases c : hd = "claim"
    · subst c
      rw [if_pos rfl, if_neg a, if_neg b, if_pos rfl] ; rfl
    · rw [if_neg (fun z => c (by injection z)), if_neg (fun z => b (by injection z)), if_neg (fun z => a (by injection z)), if_neg a, if_neg b, if_neg c] ; rfl
  rw [ev]
  exact q H4 (e2.trans (e3.trans e4))
theorem et_min (h : Ev te σ H (.ref p)) (hp : H p = some (.lst (ns.map V.int))) (h0 : 0 < ns.length) : EvT (tTest (tOp (rI0 fun i j => V.bl (decide (i < j))) (tCB (rMin K) (tCons te tNil)) (tC (.int 0)))) σ H (ns.any fun n => decide (n < 0)) := fun H1 e Q q =>
  h H1 e _ fun H2 e2 => ⟨p, ns, rfl, SqL.of ((e.trans e2) _ _ hp), h0, fun m hm hl => ⟨m, 0, rfl, rfl, _, rfl, by rw [any_min hm hl]; exact q H2 e2⟩⟩
end


end
end Dm
namespace Dm
open PySem PySem.Spec PyProof.Rows L2 Evl
section
variable {P : Program} {w : World} {K : PySem.W.Frag} {mg : Str → Option Value} {base : Heap}
/-! ### _law_due -/
def DuInv (H : Hp) (rws : List Str) (res : Nat ⊕ RdS) (Z t hp : Addr) (i : Nat) (pa : Addr) (H' : Hp) : Prop := ∃ (S : RdS) (m : List Addr), RepW H' t pa hp S m ∧ SOk i S ∧ runRows i S (rws.drop i) = res ∧ Z ∉ m ∧ (∀ y ∈ m, H y = none) ∧ Same H H' ∧ H' Z = some (.lst (rws.map V.str))
abbrev Rw0 (x : Str) : Str := x
theorem run_step {i : Nat} {S : RdS} {rws : List Str} {res : Nat ⊕ RdS} {row : Str} (hr : rws[i]? = some row) (run : runRows i S (rws.drop i) = res) : (stepRow S row = none → res = .inl i) ∧ ∀ S', stepRow S row = some S' → runRows (i + 1) S' (rws.drop (i + 1)) = res := by
  have hi : i < rws.length := (List.getElem?_eq_some_iff.mp hr).1
  have dr : rws.drop i = row :: rws.drop (i + 1) := by
    rw [List.drop_eq_getElem_cons hi] ; congr 1 ; exact (List.getElem?_eq_some_iff.mp hr).2
  rw [dr] at run
  have run : (match stepRow S row with | none => Sum.inl i | some S' => runRows (i + 1) S' (rws.drop (i + 1))) = res := run
  exact ⟨fun h => by rw [h] at run; exact run.symm, fun S' h => by rw [h] at run; exact run⟩
theorem SOk.row {n : Nat} {S S' : RdS} {row : Str} (o : SOk n S) (e : stepRow S row = some S') : SOk (n + 1) S' := by
  unfold stepRow at e
  split at e
  · cases e
  · exact o.step e
theorem Tps.of_get {H : Hp} : ∀ {vs : List V} {ds : List PyData}, vs.length = ds.length → (∀ (j : Nat) v d, vs[j]? = some v → ds[j]? = some d → Tp H v d) → Tps H vs ds
  | [], [], _, _ => .nil
  | v :: vs, d :: ds, hl, h => .cons (h 0 v d rfl rfl) (Tps.of_get (by simpa using hl) fun j v' d' h1 h2 => h (j + 1) v' d' h1 h2)
  | [], _ :: _, hl, _ => by cases hl
  | _ :: _, [], hl, _ => by cases hl
theorem DuInv.next {H H1 H2 : Hp} {rws : List Str} {res : Nat ⊕ RdS} {Z t hp pa' : Addr} {i : Nat} {S S' : RdS} {m m' : List Addr} {row : Str} (hr : rws[i]? = some row) (run : runRows i S (rws.drop i) = res) (ok : SOk i S) (st : stepRow S row = some S') (zm : Z ∉ m) (fr : ∀ y ∈ m, H y = none) (E1 : Same H H1) (hz : H1 Z = some (.lst (rws.map V.str)))
    (rep : RepW H2 t pa' hp S' m') (mm : ∀ y ∈ m', y ∈ m ∨ H1 y = none) (f : ∀ y o, y ∉ m → H1 y = some o → H2 y = some o) : DuInv H rws res Z t hp (i + 1) pa' H2 :=
  ⟨S', m', rep, ok.row st, (run_step hr run).2 S' st, (fun z => (mm Z z).elim zm fun z => by rw [hz] at z; cases z), (fun y hy => (mm y hy).elim (fr y) fun z => ex_free E1 z), (fun y o hy => f y o (fun z => by rw [fr y z] at hy; cases hy) (E1 _ _ hy)), f Z _ zm hz⟩
def spDue : Sp := fun vs H Q _ => ∃ (x : Str) (res : Nat ⊕ RdS), vs = [.str x] ∧ x.length ≤ 30000 ∧ runRows 0 ⟨[], []⟩ (rowsOf x) = res ∧
  (∀ k, res = .inl k → ∀ (H' : Hp) (p : Addr), Same H H' → TupAt H' p [.str "BadText", .int (k : Int)] → Q (.ref p) H') ∧
  (∀ S, res = .inr S → SOk 30001 S → ∀ (H' : Hp) (p a b : Addr) (xs ys : List V), Same H H' → H p = none → H' p = some (.lst [.ref a, .ref b]) → H' a = some (.lst xs) → H' b = some (.lst ys) → Tps H' xs ((numG S.ts).map tgD) → Tps H' ys ((numG S.hs).map hpD) → Q (.ref p) H')
theorem rows_made2 {σ : L2.St} {H1 : Hp} {x : Str} (hx : σ[0]? = some (some (.str x))) (lx : x.length ≤ 80000) :
    EvL (tIf (tTest (tOp rNe (tVar 0) (tC (V.str (Str.ofString ""))))) (tM1 (fun x xs H Q => ∃ a b, x = V.str a ∧ xs = [V.str b] ∧ (b.length == 0) = false ∧ a.length + 2 ≤ sizeLine ∧ rNewStrs (Txt.split a b) H Q) (tVar 0) (tC (V.str (Str.ofString "\n")))) (tLst tNil)) σ H1 ((rowsOf x).map V.str) := by
  intro H' e' Q' q'
  have dm : decide (V.str x = V.str "") = decide (x = "") := by rw [Bool.eq_iff_iff, decide_eq_true_iff, decide_eq_true_iff]; exact ⟨fun y => by injection y, fun y => by rw [y]⟩
  refine (et_test (b := !decide (V.str x = V.str "")) (ev_op (ev_var hx) ev_c (rv_ne rfl))) H' (Ex.refl H') _ fun H2 e2 => ?_
  rw [dm]
  unfold rowsOf at q'
  by_cases hn : x = ""
  · rw [if_pos hn] at q'
    rw [decide_eq_true hn]
    simp only [Bool.not_true, Bool.false_eq_true, ↓reduceIte]
    exact (el_lst ea_nil (by decide)) H2 (Ex.refl H2) _ fun l H3 nl e3 h3 => q' l H3 (ex_free e2 nl) (e2.trans e3) h3
  · rw [if_neg hn] at q'
    rw [decide_eq_false hn]
    simp only [Bool.not_false, ↓reduceIte]
    exact ⟨.str x, hx, ⟨_, rfl⟩, x, ("\n" : Str), rfl, rfl, by decide +kernel, by rw [sizeLine_eq]; omega, fun L hL => q' L _ (ex_free e2 hL) (e2.trans (Same.new hL)) upd_same⟩
theorem ok__law_due (T : Txt K mg) : FnOk P w K mg base CX0 4 T._law_due.f T._law_due.fd ["_law_text"] spDue := by
  refine T._law_due.F.ok sc__law_due (fun vs H Q E h => ?_) (fun cdv A outer s H vs Q E hr h => ?_)
  · obtain ⟨x, res, rfl, _⟩ := h ; rfl
  obtain ⟨x, res, rfl, lx, run0, qb, qg⟩ := h
  refine ⟨_, (pss_cons (ps_asg (pe_tupF (pa_cons (pe_lst pa_nil) (pa_cons (pe_lst pa_nil) (pa_cons (pe_lst pa_nil) pa_nil)))) (pg_tupK (K := K) (n := 3) rfl rfl (pgs_cons (pg_name (i := 4) sc__law_due.nd rfl (by first | exact Or.inl rfl | exact Or.inr rfl)) (pgs_cons (pg_name (i := 5) sc__law_due.nd rfl (by first | exact Or.inl rfl | exact Or.inr rfl)) (pgs_cons (pg_name (i := 6) sc__law_due.nd rfl (by first | exact Or.inl rfl | exact Or.inr rfl)) pgs_nil)))))
  (pss_cons (ps_set (i := 1) sc__law_due.nd rfl (by first | exact Or.inl rfl | exact Or.inr rfl) (pe_ifExp (pt_cmpR op_ne (pv 0) pe_str (nomark _)) (pe_split (pv 0) pe_str) (pe_lst pa_nil)))
  (pss_cons (ps_for PassesOwn.never rfl (pi_range1 rfl T.z_range (pa_cons (pe_callB (lenK (K := K) rfl) (by rfl) T.z_len PySem.boot_len (pa_cons (pv 1) pa_nil)) pa_nil)) (pg_name (i := 2) sc__law_due.nd rfl (by first | exact Or.inl rfl | exact Or.inr rfl))
  (pss_cons (ps_set (i := 7) sc__law_due.nd rfl (by first | exact Or.inl rfl | exact Or.inr rfl) (pe_split (pe_ix (ixK (K := K) rfl) (pv 1) (pv 2) (fun _ _ => rfl)) pe_str))
  (pss_cons (ps_set (i := 8) sc__law_due.nd rfl (by first | exact Or.inl rfl | exact Or.inr rfl) (pe_call (ok__law_numbers T) (hr.mono (by decide)) rfl T._law_numbers.m T._law_numbers.F.kp T._law_numbers.b .nil pass0 (pa_cons (pe_slice sl_list (pv 7) (po_some pe_int) po_none) pa_nil)))
  (pss_cons (ps_set (i := 9) sc__law_due.nd rfl (by first | exact Or.inl rfl | exact Or.inr rfl) (pe_tupF (pa_cons pe_str (pa_cons (pv 2) pa_nil))))
  (pss_cons (ps_if (PW.pt (pw_or (pt_cmp (pc_isN (pv 8))) (pw_or1 (pt_cmpR op_ne (pe_callB (lenK (K := K) rfl) (by rfl) T.z_len PySem.boot_len (pa_cons (pv 8) pa_nil)) (pe_dget2 hr.u1 (pe_disp (pps_cons pe_str pe_int (pps_cons pe_str pe_int (pps_cons pe_str pe_int pps_nil))) rfl rfl (by intro z; cases z) (by decide)) (pe_ix (ixK (K := K) rfl) (pv 7) pe_int (fun _ _ => rfl)) (pe_un un_neg pe_int) ⟨rfl, rfl, rfl, rfl⟩) (nomark _))))) (pss_one (ps_ret (pv 9))) pss_nil)
  (pss_cons (ps_if (PW.pt (pw_or (PW.pt (pw_and (pt_cmpR op_ne (pe_ix (ixK (K := K) rfl) (pv 7) pe_int (fun _ _ => rfl)) pe_str (nomark _)) (pw_and1 (pt_cmpR op_lt (pe_callB (cr_min rfl) (by rfl) T.z_min (by decide +kernel) (pa_cons (pv 8) pa_nil)) pe_int (nomark _))))) (pw_or1 (PW.pt (pw_and (pt_cmpR op_eq (pe_ix (ixK (K := K) rfl) (pv 7) pe_int (fun _ _ => rfl)) pe_str (nomark _)) (pw_and1 (pt_cmpR op_lt (pe_ix (ixK (K := K) rfl) (pv 8) pe_int (fun _ _ => rfl)) pe_int (nomark _)))))))) (pss_one (ps_ret (pv 9))) pss_nil)
  (pss_one (ps_if (pt_cmpR op_eq (pe_ix (ixK (K := K) rfl) (pv 7) pe_int (fun _ _ => rfl)) pe_str (nomark _)) (pss_cons (ps_if (PW.pt (pw_or (pt_cmpR (neDK (K := K) rfl hr.units) (pv 6) (pe_lst pa_nil) (nomark _)) (pw_or (pt_cmpR op_gt (pe_ix (ixK (K := K) rfl) (pv 8) pe_int (fun _ _ => rfl)) (pe_callB (lenK (K := K) rfl) (by rfl) T.z_len PySem.boot_len (pa_cons (pv 4) pa_nil)) (nomark _)) (pw_or1 (pt_cmpR op_gt (pe_ix (ixK (K := K) rfl) (pv 8) pe_int (fun _ _ => rfl)) pe_int (nomark _)))))) (pss_one (ps_ret (pv 9))) pss_nil)
  (pss_cons (ps_set (i := 10) sc__law_due.nd rfl (by first | exact Or.inl rfl | exact Or.inr rfl) (pe_ifExp (pt_cmpR op_eq (pe_ix (ixK (K := K) rfl) (pv 8) pe_int (fun _ _ => rfl)) pe_int (nomark _)) (pv 5) (pe_ix (ixK (K := K) rfl) (pe_ix (ixK (K := K) rfl) (pv 4) (pe_op op_sub (pe_ix (ixK (K := K) rfl) (pv 8) pe_int (fun _ _ => rfl)) pe_int) (fun _ _ => rfl)) pe_int (fun _ _ => rfl))))
  (pss_cons (ps_if (PW.pt (pw_and (pt_cmpR op_gt (pe_ix (ixK (K := K) rfl) (pv 8) pe_int (fun _ _ => rfl)) pe_int (nomark _)) (pw_and1 (pt_cmpR op_eq (pe_callB (lenK (K := K) rfl) (by rfl) T.z_len PySem.boot_len (pa_cons (pv 10) pa_nil)) pe_int (nomark _))))) (pss_one (ps_ret (pv 9))) pss_nil)
  (pss_cons (ps_expr (pe_bm PySem.F.plainAttrs_list PySem.F.slot_list_append PySem.F.type_list_append mt_append (pv 10) (pa_cons (pe_tupF (pa_cons (pe_callTy (tupleK (K := K) rfl) (by rfl) T.z_tuple (by decide +kernel) (pa_cons (pe_slice sl_list (pv 8) (po_some pe_int) po_none) pa_nil)) (pa_cons (pe_lst pa_nil) pa_nil))) pa_nil)))
  (pss_one (ps_set (i := 4) sc__law_due.nd rfl (by first | exact Or.inl rfl | exact Or.inr rfl) (pe_op op_cat (pe_slice sl_list (pv 4) po_none (po_some (pe_ix (ixK (K := K) rfl) (pv 8) pe_int (fun _ _ => rfl)))) (pe_lst (pa_cons (pe_ix (ixK (K := K) rfl) (pv 10) (pe_un un_neg pe_int) (fun _ _ => rfl)) pa_nil))))))))) (pss_one (ps_if (pt_cmpR op_eq (pe_ix (ixK (K := K) rfl) (pv 7) pe_int (fun _ _ => rfl)) pe_str (nomark _)) (pss_cons (ps_if (pt_cmpR op_gt (pe_ix (ixK (K := K) rfl) (pv 8) pe_int (fun _ _ => rfl)) pe_int (nomark _)) (pss_one (ps_ret (pv 9))) pss_nil)
  (pss_one (ps_expr (pe_bm PySem.F.plainAttrs_list PySem.F.slot_list_append PySem.F.type_list_append mt_append (pv 6) (pa_cons (pe_lst (pa_cons (pe_ix (ixK (K := K) rfl) (pv 8) pe_int (fun _ _ => rfl)) (pa_cons (pe_lst pa_nil) pa_nil))) pa_nil))))) (pss_cons (ps_if (PW.pt (pw_or (pt_cmpR (eqDK (K := K) rfl hr.units) (pv 6) (pe_lst pa_nil) (nomark _)) (pw_or1 (pt_cmpR op_eq (pe_callB (lenK (K := K) rfl) (by rfl) T.z_len PySem.boot_len (pa_cons (pe_ix (ixK (K := K) rfl) (pe_ix (ixK (K := K) rfl) (pv 6) (pe_un un_neg pe_int) (fun _ _ => rfl)) pe_int (fun _ _ => rfl)) pa_nil)) pe_int (nomark _))))) (pss_one (ps_ret (pv 9))) pss_nil)
  (pss_one (ps_expr (pe_bm PySem.F.plainAttrs_list PySem.F.slot_list_append PySem.F.type_list_append mt_append (pe_ix (ixK (K := K) rfl) (pe_ix (ixK (K := K) rfl) (pv 6) (pe_un un_neg pe_int) (fun _ _ => rfl)) pe_int (fun _ _ => rfl)) (pa_cons (pe_tupF (pa_cons (pe_callTy (tupleK (K := K) rfl) (by rfl) T.z_tuple (by decide +kernel) (pa_cons (pe_slice sl_list (pv 8) po_none (po_some pe_int)) pa_nil)) (pa_cons (pe_ix (ixK (K := K) rfl) (pv 8) pe_int (fun _ _ => rfl)) pa_nil))) pa_nil)))))))))))))))
  (pss_cons (ps_setLc (i := 3) (own := [("_law_k", 2)]) rfl sc__law_due.nd rfl rfl (sw_true rfl rfl rfl (by decide +kernel)) (pi_range1 rfl T.z_range (pa_cons (pe_callB (lenK (K := K) rfl) (by rfl) T.z_len PySem.boot_len (pa_cons (pv 6) pa_nil)) pa_nil)) (blkOk_by (own := [("_law_k", 2)]) (N := ["_law_text", "_law_rows", "_law_k", "_law_found", "_law_paths", "_law_tops", "_law_helpers", "_law_words", "_law_numbers_here", "_law_bad", "_law_siblings", "_law_one"]) (sc := defScope s__law_due) (by decide +kernel)) (fun _ _ _ _ _ => by exact (pg_name (i := 2) sc__law_due.nd rfl (by first | exact Or.inl rfl | exact Or.inr rfl))) (fun _ _ _ _ _ => pts_nil) (fun _ _ _ _ _ => (pe_tupF (pa_cons (pv 2) (pa_cons (pe_callTy (tupleK (K := K) rfl) (by rfl) T.z_tuple (by decide +kernel) (pa_cons (pe_ix (ixK (K := K) rfl) (pe_ix (ixK (K := K) rfl) (pv 6) (pv 2) (fun _ _ => rfl)) pe_int (fun _ _ => rfl)) pa_nil)) (pa_cons (pe_ix (ixK (K := K) rfl) (pe_ix (ixK (K := K) rfl) (pv 6) (pv 2) (fun _ _ => rfl)) pe_int (fun _ _ => rfl)) pa_nil))))))
  (pss_one (ps_ret (pe_lst (pa_cons (pe_listEnum (K := K) rfl rfl (by rfl) T.z_list (by rfl) T.z_enumerate (pa_cons (pe_lc (own := [("_law_one", 11)]) rfl sc__law_due.nd (pi_listK (K := K) rfl (pv 5)) (blkOk_by (own := [("_law_one", 11)]) (N := ["_law_text", "_law_rows", "_law_k", "_law_found", "_law_paths", "_law_tops", "_law_helpers", "_law_words", "_law_numbers_here", "_law_bad", "_law_siblings", "_law_one"]) (sc := defScope s__law_due) (by decide +kernel)) (fun _ _ _ _ _ => by exact (pg_name (i := 11) sc__law_due.nd rfl (by first | exact Or.inl rfl | exact Or.inr rfl))) (fun _ _ _ _ _ => pts_nil) (fun _ _ _ _ _ => (pe_call (ok__law_kept T 3) (hr.mono (by decide)) rfl T._law_kept.m T._law_kept.F.kp T._law_kept.b .nil pass0 (pa_cons (pv 11) pa_nil)))) pa_nil)) (pa_cons (pv 3) pa_nil))))))))), ?_⟩
  obtain ⟨lr, lrr⟩ := rowsOf_len x
  -- three empty lists
  refine ⟨by show 0 ≤ sizeLine; decide, fun pa0 npa => ⟨by show 0 ≤ sizeLine; decide, fun t nt => ⟨by show 0 ≤ sizeLine; decide, fun hp nhp => ⟨sz_of (by show 3 ≤ 100000; decide), fun p3 o3 hp3 hd3 => ?_⟩⟩⟩⟩
  have e1 : Same H (upd H pa0 (.lst [])) := Same.new npa
  have h1 : (upd H pa0 (.lst [])) pa0 = some (.lst []) := upd_same
  generalize upd H pa0 (.lst []) = H1 at e1 h1 nt nhp hp3 ⊢
  have e2 : Same H1 (upd H1 t (.lst [])) := Same.new nt
  have h2 : (upd H1 t (.lst [])) t = some (.lst []) := upd_same
  generalize upd H1 t (.lst []) = H2 at e2 h2 nhp hp3 ⊢
  have e3 : Same H2 (upd H2 hp (.lst [])) := Same.new nhp
  have h3 : (upd H2 hp (.lst [])) hp = some (.lst []) := upd_same
  generalize upd H2 hp (.lst []) = H3 at e3 h3 hp3 ⊢
  have e4 : Same H3 (upd H3 p3 (.frz o3 (.tup [.ref pa0, .ref t, .ref hp]))) := Same.new hp3
  refine g_un3 (show SqT K _ p3 _ from TupAt.sq ⟨o3, hd3, upd_same⟩) ?_
  generalize upd H3 p3 (.frz o3 (.tup [.ref pa0, .ref t, .ref hp])) = H4 at e4 ⊢
  have E4 := (e1.trans e2).trans (e3.trans e4)
  have hpa4 := (e2.trans (e3.trans e4)) _ _ h1
  have ht4 := (e3.trans e4) _ _ h2
  have hhp4 := e4 _ _ h3
  have n_t : H t = none := ex_free e1 nt
  have n_hp : H hp = none := ex_free (e1.trans e2) nhp
  have tpa : t ≠ pa0 := fun z => by subst z; rw [h1] at nt; cases nt
  have thp : t ≠ hp := fun z => by subst z; rw [h2] at nhp; cases nhp
  have pahp : pa0 ≠ hp := fun z => by subst z; rw [e2 _ _ h1] at nhp; cases nhp
  try dsimp only
  refine q_asgL (xs := (rowsOf x).map V.str) (rows_made2 rfl (by omega)) fun Z H5 nZ e5 hZ => ?_
  have E5 := E4.trans e5
  have zm : Z ∉ [t, hp] := fun z => by
    simp only [List.mem_cons, List.not_mem_nil, or_false] at z
    rcases z with rfl | rfl
    · rw [ht4] at nZ ; cases nZ
    · rw [hhp4] at nZ ; cases nZ
  have fr0 : ∀ y ∈ [t, hp], H y = none := fun y hy => by
    simp only [List.mem_cons, List.not_mem_nil, or_false] at hy
    rcases hy with rfl | rfl
    · exact n_t
    · exact n_hp
  have st : DuInv H (rowsOf x) res Z t hp 0 pa0 H5 := ⟨⟨[], []⟩, [t, hp], ⟨[], [], [], [], [], e5 _ _ ht4, .nil 3, e5 _ _ hpa4, .nil, e5 _ _ hhp4, .nil, rfl, by simp [thp], by simp [Ne.symm tpa, pahp]⟩, ⟨by simp, by simp, Nat.zero_le _, Nat.zero_le _⟩, run0, zm, fr0, E5, hZ⟩
  generalize hrw : rowsOf x = rws at lr lrr hZ st
  refine q_forR1 (n := (rws.length : Int)) (ea_cons (ev_is (ev_len (ev_var rfl) (SqL.of hZ)) (by rw [List.length_map])) ea_nil) ⟨by omega, by omega⟩ (fun i σ H' => (∃ (y2 y7 y8 y9 y10 : Option V) (pa : Addr), σ = [some (.str x), some (.ref Z), y2, none, some (.ref pa), some (.ref t), some (.ref hp), y7, y8, y9, y10, none] ∧ DuInv H rws res Z t hp i pa H')) (fun H6 e6 => ⟨_, _, _, _, _, pa0, rfl, by
    obtain ⟨S, m, r1, r2, r3, r4, r5, r6, r7⟩ := st
    exact ⟨S, m, r1.same e6, r2, r3, r4, r5, r6.trans e6, e6 _ _ r7⟩⟩) (fun i σ H' hi p => ?_) (fun σ H' p => ?_)
  · obtain ⟨y2, y7, y8, y9, y10, pa, rfl, S, m, rep, ok, run, zmm, fr, sm, hz⟩ := p
    have hi' : i < rws.length := by omega
    have hrow := List.getElem?_eq_getElem hi'
    generalize rws[i] = row at hrow
    have lrow := lrr row (List.mem_of_getElem? hrow)
    obtain ⟨hd, ws, sp, lw⟩ := split_blank row
    have est : stepRow S row = stepW S hd (ws.map fig) := by unfold stepRow; rw [sp]
    obtain ⟨rbad, rgood⟩ := run_step hrow run
    -- the words
    refine g_seq ?_
    refine (ev_ixL (xs := (rws.map Rw0).map V.str) (i := (i : Int)) (v := .str row) (ev_var rfl) (ev_var rfl) (SqL.of (by rw [show rws.map Rw0 = rws from List.map_id' rws]; exact hz)) (atI_nat (by rw [List.getElem?_map, List.getElem?_map, hrow]; rfl))) H' (Ex.refl H') _ fun H6 e6 => ?_
    refine ⟨⟨_, rfl⟩, row, (" " : Str), rfl, rfl, by decide +kernel, by rw [sizeLine_eq]; omega, fun L hL => ?_⟩
    rw [sp]
    refine g_name ?_
    have e7 : Same H6 (upd H6 L (.lst ((hd :: ws).map V.str))) := Same.new hL
    have hL7 : (upd H6 L (.lst ((hd :: ws).map V.str))) L = some (.lst ((hd :: ws).map V.str)) := upd_same
    generalize upd H6 L (.lst ((hd :: ws).map V.str)) = H7 at e7 hL7 ⊢
    have E7 : Same H' H7 := e6.trans e7
    try dsimp only
    -- their numbers
    refine g_seq ?_
    refine (el_sl (lo := some 1) (hi := none) (a := L) (xs := (hd :: ws).map V.str) (ev_var rfl) (fun H8 e8 Q q => ⟨1, rfl, q H8 (Ex.refl H8)⟩) (fun H8 e8 Q q => q H8 (Ex.refl H8)) (SqL.of hL7)) H7 (Ex.refl H7) _ fun S0 H8 nS e8 hS => ?_
    rw [List.map_cons, cutV_tail] at hS
    have E8 := E7.trans e8
    have hL8 := e8 _ _ hL7
    have lws : ∀ z ∈ ws, z.length ≤ 90000 := fun z hz => by
      have hm : TL.tl z ∈ TL.spl (TL.tl (" " : Str)) 0 [] (TL.tl row) := by
        rw [← TL.split_spl row (" " : Str) (by decide +kernel) (TL.kind_ok (by decide +kernel)), sp]
        exact List.mem_map.mpr ⟨z, List.mem_cons_of_mem _ hz, rfl⟩
      have := spl_part _ _ _ _ _ hm
      rw [List.length_nil, Nat.zero_add, ← TL.len_tl, ← TL.len_tl] at this
      omega
    refine ⟨S0, ws, rfl, SqL.of hS, by omega, lws, fun hbad H9 e9 => ?_, fun ns hns H9 p9 e9 np9 h9 => ?_⟩
    · -- a word that is none
      have hst : stepRow S row = none := by
        rw [est]
        obtain ⟨z, hz, hf⟩ := hbad
        cases hs : stepW S hd (ws.map fig) with
        | none => rfl
        | some S' => exact absurd hf (stepW_all hs _ (List.mem_map.mpr ⟨z, hz, rfl⟩))
      refine g_name ?_
      try dsimp only
      refine g_seq ?_
      refine ⟨.int (i : Nat), rfl, sz_of (by show 2 ≤ 100000; decide), fun pb ob hpb hob => ?_⟩
      refine g_name ?_
      have eb : Same H9 (upd H9 pb (.frz ob (.tup [.str "BadText", .int (i : Nat)]))) := Same.new hpb
      have tb : TupAt (upd H9 pb (.frz ob (.tup [.str "BadText", .int (i : Nat)]))) pb [.str "BadText", .int (i : Nat)] := ⟨ob, hob, upd_same⟩
      generalize upd H9 pb (.frz ob (.tup [.str "BadText", .int (i : Nat)])) = HB at eb tb ⊢
      try dsimp only
      refine q_when (b := true) (fun H10 e10 Q1 q1 => (et_B (b := true) (ev_is (ev_isN (ev_var rfl)) rfl)) H10 (Ex.refl H10) _ fun H11 e11 => q1 H11 e11) (fun _ H10 e10 => s_ret (ev_var rfl) fun H11 e11 => ?_) (fun z => nomatch z)
      exact qb i (rbad hst) H11 pb (((sm.trans E8).trans e9).trans (eb.trans (e10.trans e11))) (tb.mono (Same.ts (e10.trans e11)))
    refine g_name ?_
    try dsimp only
    refine g_seq ?_
    refine ⟨.int (i : Nat), rfl, sz_of (by show 2 ≤ 100000; decide), fun pb ob hpb hob => ?_⟩
    refine g_name ?_
    have eb : Same H9 (upd H9 pb (.frz ob (.tup [.str "BadText", .int (i : Nat)]))) := Same.new hpb
    have tb : TupAt (upd H9 pb (.frz ob (.tup [.str "BadText", .int (i : Nat)]))) pb [.str "BadText", .int (i : Nat)] := ⟨ob, hob, upd_same⟩
    generalize upd H9 pb (.frz ob (.tup [.str "BadText", .int (i : Nat)])) = HB at eb tb ⊢
    have EB : Same H' HB := (E8.trans e9).trans eb
    have hLB := eb _ _ (e9 _ _ hL8)
    have hNB := eb _ _ h9
    have leave : stepRow S row = none → ∀ {D : Ends} {σ : L2.St} {H10 : Hp}, Same HB H10 → σ[9]? = some (some (.ref pb)) → D.rt = Q → tRet (tVar 9) D σ H10 := fun hst {D σ H10} e10 hσ hD => by
      refine s_ret (ev_var hσ) fun H11 e11 => ?_
      rw [hD]
      exact qb i (rbad hst) H11 pb ((sm.trans EB).trans (e10.trans e11)) (tb.mono (Same.ts (e10.trans e11)))
    have repB := rep.same EB
    have smB := sm.trans EB
    have hzB := EB _ _ hz
    rw [hns] at est
    have small : ∀ n ∈ ns, -1 ≤ n ∧ n ≤ 9 := fun n hn => by
      have : some n ∈ ws.map fig := by rw [hns]; exact List.mem_map.mpr ⟨n, hn, rfl⟩
      obtain ⟨z, _, hf⟩ := List.mem_map.mp this
      exact (fig_some hf).2.2.2
    refine (show tSeq _ _ _ [some (.str x), some (.ref Z), some (.int (i : Nat)), none, some (.ref pa), some (.ref t), some (.ref hp), some (.ref L), some (.ref p9), some (.ref pb), y10, none] HB from ?_)
    have w0 : ∀ H1, Same HB H1 → Ev (tOp (rIx K) (tVar 7) (tC (V.int 0))) [some (.str x), some (.ref Z), some (.int (i : Nat)), none, some (.ref pa), some (.ref t), some (.ref hp), some (.ref L), some (.ref p9), some (.ref pb), y10, none] H1 (.str hd) := fun H1 e1 => ev_ixL (i := 0) (ev_var rfl) ev_c (SqL.of (e1 _ _ hLB)) (atI_nat (j := 0) rfl)
    refine q_when (b := false || !decide ((ns.length : Int) = lenW hd)) (et_or (et_B (ev_is (ev_isN (ev_var rfl)) rfl)) fun _ => et_test (ev_op (ev_is (ev_len (ev_var rfl) (SqL.of hNB)) (by rw [List.length_map])) (ev_lenW w0 (fun H1 e1 => ev_un ev_c ru_neg)) rv_neI)) (fun z H10 e10 => leave (by
      rw [est]
      refine stepW_len ?_
      rw [List.length_map]
      intro w
      rw [decide_eq_true w] at z ; cases z) e10 rfl rfl) (fun z H10 e10 => ?_)
    have hlen : (ns.length : Int) = lenW hd := by
      rw [Bool.false_or, Bool.not_eq_false'] at z
      exact of_decide_eq_true z
    have EX := EB.trans e10
    have hLX := e10 _ _ hLB
    have hNX := e10 _ _ hNB
    have repX := rep.same EX
    have smX := sm.trans EX
    have hzX := EX _ _ hz
    have hsl := ok.lh
    have htl := ok.lt
    by_cases c1 : hd = "thing"
    · subst c1
      have l4 : ns.length = 4 := by
        rw [show lenW "thing" = 4 from rfl] at hlen ; omega
      obtain ⟨d, m1, m2, m3, rfl⟩ : ∃ a b c d, ns = [a, b, c, d] := by
        match ns, l4 with
        | [a, b, c, d], _ => exact ⟨a, b, c, d, rfl⟩
      have est : stepRow S row = stepT S [some d, some m1, some m2, some m3] := by rw [est]; unfold stepW; rw [if_pos rfl]; rfl
      have wc : ∀ H1, Same HB H1 → EvT (tTest (tOp rNe (tOp (rIx K) (tVar 7) (tC (V.int 0))) (tC (V.str (Str.ofString "claim"))))) [some (.str x), some (.ref Z), some (.int (i : Nat)), none, some (.ref pa), some (.ref t), some (.ref hp), some (.ref L), some (.ref p9), some (.ref pb), y10, none] H1 true := fun H1 e1 => et_is (et_test (ev_op (w0 H1 e1) ev_c (rv_ne rfl))) (by decide +kernel)
      have wc2 : ∀ H1, Same HB H1 → EvT (tTest (tOp rEq (tOp (rIx K) (tVar 7) (tC (V.int 0))) (tC (V.str (Str.ofString "claim"))))) [some (.str x), some (.ref Z), some (.int (i : Nat)), none, some (.ref pa), some (.ref t), some (.ref hp), some (.ref L), some (.ref p9), some (.ref pb), y10, none] H1 false := fun H1 e1 => et_is (et_test (ev_op (w0 H1 e1) ev_c (rv_eq rfl))) (by decide +kernel)
      refine q_when (b := (true && [d, m1, m2, m3].any fun n => decide (n < 0)) || (false && false)) (et_or (et_and (wc H10 e10) fun _ => et_min (ev_var rfl) hNX (by show 0 < 4; decide)) fun _ => et_and (wc2 H10 e10) fun z => nomatch z) (fun z H11 e11 => leave (by
        rw [est]
        cases hs : stepT S [some d, some m1, some m2, some m3] with
        | none => rfl
        | some S' =>
          obtain ⟨d', a, b, c, en, _, om, _⟩ := stepT_some hs
          simp only [List.cons.injEq, Option.some.injEq, and_true] at en
          obtain ⟨rfl, rfl, rfl, rfl⟩ := en
          rw [Bool.true_and, Bool.false_and, Bool.or_false, List.any_eq_true] at z
          obtain ⟨n, hn, hneg⟩ := z
          have hneg := of_decide_eq_true hneg
          rcases List.mem_cons.mp hn with rfl | hn
          · omega
          · have := om.2 n hn
            omega) (e10.trans e11) rfl rfl) (fun z H11 e11 => ?_)
      have pos : ∀ n ∈ [d, m1, m2, m3], 0 ≤ n := fun n hn => by
        rw [Bool.true_and, Bool.false_and, Bool.or_false] at z
        have := List.any_eq_false.mp z n hn
        have : ¬ n < 0 := fun w => this (decide_eq_true w)
        omega
      have om : okMarks [m1, m2, m3] := ⟨rfl, fun n hn => ⟨pos n (List.mem_cons_of_mem _ hn), (small n (List.mem_cons_of_mem _ hn)).2⟩⟩
      obtain ⟨dn, rfl⟩ : ∃ dn : Nat, d = (dn : Int) := ⟨d.toNat, by have := pos d (by simp); omega⟩
      have E11 := EX.trans e11
      have eB11 := e10.trans e11
      have hN11 := e11 _ _ hNX
      have d0 : ∀ H1, Same H11 H1 → Ev (tOp (rIx K) (tVar 8) (tC (V.int 0))) [some (.str x), some (.ref Z), some (.int (i : Nat)), none, some (.ref pa), some (.ref t), some (.ref hp), some (.ref L), some (.ref p9), some (.ref pb), y10, none] H1 (.int (dn : Int)) := fun H1 e1 => ev_ixL (i := 0) (ev_var rfl) ev_c (SqL.of (e1 _ _ hN11)) (atI_nat (j := 0) rfl)
      refine s_if (b := decide (V.str "thing" = V.str "thing")) (et_test (ev_op (w0 H11 eB11) ev_c (rv_eq rfl))) (fun _ H12 e12 => ?_) (fun z => absurd z (by decide +kernel))
      have rep12 := rep.same (E11.trans e12)
      have rep12' := rep12
      obtain ⟨vs, path, wsH, l, l2, g2, g3, g4, g5, g6, g7, gm, g9, g10⟩ := rep12'
      have lp := Spine.len g3 g5
      have sh := shaped_hq (hs := S.hs) (by omega) fun q hq => (ok.oh q hq).1
      have dpH : ∀ H1, Same H12 H1 → Dp K H1 (.ref hp) (.list (S.hs.map hqD)) := fun H1 e1 => .lst (SqL.of (e1 _ _ g6)) (g7.keep (Same.ts e1) fun y _ o ho => e1 _ _ ho).dp
      refine q_when (b := (!decide (S.hs.map hqD = [])) || (decide ((path.length : Int) < (dn : Int)) || decide ((2 : Int) < (dn : Int)))) (et_or (et_neNilP (ev_var rfl) dpH sh) fun _ => et_or (et_test (ev_op (d0 H12 e12) (ev_len (ev_var rfl) (SqL.of g4)) rv_I0)) fun _ => et_test (ev_op (d0 H12 e12) ev_c rv_I0)) (fun z H13 e13 => leave (by
        rw [est]
        cases hs : stepT S [some (dn : Int), some m1, some m2, some m3] with
        | none => rfl
        | some S' =>
          obtain ⟨d', a, b, c, en, k2, _, eh, kd, _⟩ := stepT_some hs
          simp only [List.cons.injEq, Option.some.injEq, and_true] at en
          have ed : dn = d' := by omega
          subst ed
          rw [eh, List.map_nil, decide_eq_true rfl, decide_eq_false (show ¬ ((path.length : Int) < (dn : Int)) by omega), decide_eq_false (show ¬ ((2 : Int) < (dn : Int)) by omega)] at z
          cases z) ((eB11.trans e12).trans e13) rfl rfl) (fun z H13 e13 => ?_)
      rw [Bool.or_eq_false_iff, Bool.or_eq_false_iff, Bool.not_eq_false'] at z
      obtain ⟨z1, z2, z3⟩ := z
      have eh : S.hs = [] := List.map_eq_nil_iff.mp (of_decide_eq_true z1)
      have kd : dn ≤ depS 3 S.ts := by have := of_decide_eq_false z2; omega
      have k2 : dn ≤ 2 := by have := of_decide_eq_false z3; omega
      have E13 := (E11.trans e12).trans e13
      have rep13 := rep.same E13
      obtain ⟨path', g, xs, hpa, lp', sib, gpa, gmm, lxs, fin⟩ := rep13.addT k2 kd
      have hN13 := (e12.trans e13) _ _ hN11
      have d0' : ∀ H1, Same H13 H1 → Ev (tOp (rIx K) (tVar 8) (tC (V.int 0))) [some (.str x), some (.ref Z), some (.int (i : Nat)), none, some (.ref pa), some (.ref t), some (.ref hp), some (.ref L), some (.ref p9), some (.ref pb), y10, none] H1 (.int (dn : Int)) := fun H1 e1 => d0 H1 ((e12.trans e13).trans e1)
      -- siblings
      refine q_asg (v := .ref g) (ev_if (b := decide ((dn : Int) = 0)) (et_test (ev_op (d0' H13 (Same.refl H13)) ev_c rv_eqI)) (fun z => ?_) (fun z => ?_)) fun H14 e14 => ?_
      · have z := of_decide_eq_true z
        rcases sib.2 with ⟨_, rfl⟩ | ⟨j, p, m, hj, _⟩
        · exact ev_var rfl
        · omega
      · have z := of_decide_eq_false z
        rcases sib.2 with ⟨rfl, _⟩ | ⟨j, p, m, rfl, hj, tp⟩
        · exact absurd rfl z
        · refine ev_ixT (i := 1) (ev_ixL (xs := path') (i := (j : Int)) (v := .ref p) (ev_var rfl) (ev_is (ev_op (d0' H13 (Same.refl H13)) ev_c rv_I0) ?_) (SqL.of hpa) (atI_nat hj)) ev_c tp (atI_nat (j := 1) rfl)
          show V.int (((j + 1 : Nat) : Int) - 1) = .int (j : Int)
          rw [show (((j + 1 : Nat) : Int) - 1) = (j : Int) by omega]
      have hg14 := e14 _ _ sib.1
      have d0s : ∀ H1, Same H14 H1 → Ev (tOp (rIx K) (tVar 8) (tC (V.int 0))) [some (.str x), some (.ref Z), some (.int (i : Nat)), none, some (.ref pa), some (.ref t), some (.ref hp), some (.ref L), some (.ref p9), some (.ref pb), some (.ref g), none] H1 (.int (dn : Int)) := fun H1 e1 => ev_ixL (i := 0) (ev_var rfl) ev_c (SqL.of ((e14.trans e1) _ _ hN13)) (atI_nat (j := 0) rfl)
      refine (show tSeq _ _ _ [some (.str x), some (.ref Z), some (.int (i : Nat)), none, some (.ref pa), some (.ref t), some (.ref hp), some (.ref L), some (.ref p9), some (.ref pb), some (.ref g), none] H14 from ?_)
      have wle : dn = 0 ∨ xs.length ≤ 3 := by
        cases dn with
        | zero => exact .inl rfl
        | succ j => exact .inr (by rw [lxs]; exact wide_le ok.ok kd)
      refine q_when (b := decide ((0 : Int) < (dn : Int)) && decide ((xs.length : Int) = 3)) (et_and (et_test (ev_op (d0s H14 (Same.refl H14)) ev_c rv_I0)) fun _ => et_test (ev_op (ev_len (ev_var rfl) (SqL.of hg14)) ev_c rv_eqI)) (fun z H15 e15 => leave (by
        rw [est]
        rw [Bool.and_eq_true] at z
        have z1 := of_decide_eq_true z.1
        have z2 := of_decide_eq_true z.2
        cases hs : stepT S [some (dn : Int), some m1, some m2, some m3] with
        | none => rfl
        | some S' =>
          obtain ⟨d', a, b, c, en, _, _, _, _, kw, _⟩ := stepT_some hs
          simp only [List.cons.injEq, Option.some.injEq, and_true] at en
          have ed : dn = d' := by omega
          subst ed
          rw [← lxs] at kw
          omega) ((((eB11.trans e12).trans e13).trans e14).trans e15) rfl rfl) (fun z H15 e15 => ?_)
      have kw : dn = 0 ∨ wideAt dn S.ts < 3 := by
        rw [← lxs]
        by_cases w : dn = 0
        · exact .inl w
        · rw [decide_eq_true (show (0 : Int) < (dn : Int) by omega), Bool.true_and] at z
          have := of_decide_eq_false z
          have := wle.resolve_left w
          omega
      have hst : stepRow S row = some ⟨addAt dn [m1, m2, m3] S.ts, S.hs⟩ := by rw [est]; exact stepT_mk k2 om eh kd kw
      have E15 := (E13.trans e14).trans e15
      have eN15 := e14.trans e15
      have hN15 := eN15 _ _ hN13
      have hg15 := e15 _ _ hg14
      have lx3 : xs.length < 100000 := by
        rcases wle with rfl | w
        · rw [lxs] ; show S.ts.length < _ ; omega
        · omega
      -- siblings.append((tuple(numbers[1:]), []))
      refine g_seq ?_
      refine ⟨.ref g, rfl, .inl ⟨rfl, xs, SqL.of hg15⟩, ?_⟩
      refine (el_sl (lo := some 1) (hi := none) (a := p9) (xs := [(dn : Int), m1, m2, m3].map V.int) (ev_var rfl) (fun H8 e8 Q q => ⟨1, rfl, q H8 (Ex.refl H8)⟩) (fun H8 e8 Q q => q H8 (Ex.refl H8)) (SqL.of hN15)) H15 (Ex.refl H15) _ fun S1 H16 nS1 e16 hS1 => ?_
      refine ⟨S1, _, rfl, .inl ⟨SqL.of hS1, fun pm om' hpm hdm => ?_⟩⟩
      have e17 : Same H16 (upd H16 pm (.frz om' (.tup [.int m1, .int m2, .int m3]))) := Same.new hpm
      have t17 : TupAt (upd H16 pm (.frz om' (.tup [.int m1, .int m2, .int m3]))) pm [.int m1, .int m2, .int m3] := ⟨om', hdm, upd_same⟩
      refine (show tLst tNil _ (upd H16 pm (.frz om' (.tup [.int m1, .int m2, .int m3]))) _ from ?_)
      generalize upd H16 pm (.frz om' (.tup [.int m1, .int m2, .int m3])) = H17 at e17 t17 ⊢
      refine ⟨by show 0 ≤ sizeLine; decide, fun e he => ?_⟩
      have e18 : Same H17 (upd H17 e (.lst [])) := Same.new he
      have h18 : (upd H17 e (.lst [])) e = some (.lst []) := upd_same
      refine ⟨sz_of (by show 2 ≤ 100000; decide), fun p op hp' hdp => ?_⟩
      have e19 : Same (upd H17 e (.lst [])) (upd (upd H17 e (.lst [])) p (.frz op (.tup [.ref pm, .ref e]))) := Same.new hp'
      have t19 : TupAt (upd (upd H17 e (.lst [])) p (.frz op (.tup [.ref pm, .ref e]))) p [.ref pm, .ref e] := ⟨op, hdp, upd_same⟩
      have h19 := e19 _ _ h18
      have eAll := (e16.trans e17).trans (e18.trans e19)
      have t1719 := t17.mono (Same.ts (e18.trans e19))
      have nE : H15 e = none := ex_free (e16.trans e17) he
      generalize upd (upd H17 e (.lst [])) p (.frz op (.tup [.ref pm, .ref e])) = H19 at t19 h19 eAll t1719 ⊢
      have hg19 := eAll _ _ hg15
      refine ⟨g, xs, .ref p, rfl, rfl, hg19, sz_lt lx3, ?_⟩
      have eg : e ≠ g := fun w => by subst w; rw [hg15] at nE; cases nE
      have k20 : ∀ y o, y ≠ g → H19 y = some o → upd H19 g (.lst (xs ++ [.ref p])) y = some o := fun y o hy hh => by rw [upd_ne hy]; exact hh
      have hg20 : (upd H19 g (.lst (xs ++ [.ref p]))) g = some (.lst (xs ++ [.ref p])) := upd_same
      generalize upd H19 g (.lst (xs ++ [.ref p])) = H20 at k20 hg20 ⊢
      have ts20 : Tst H19 H20 := tst_but1 k20 hg19 fun _ _ => HO.noConfusion
      have hpa20 := k20 pa _ (Ne.symm gpa) ((eN15.trans eAll) _ _ hpa)
      have nN : p9 ≠ g := fun w => by
        obtain ⟨zs, hzs⟩ := RepW.there rep gmm
        have := E8 _ _ hzs
        rw [← w, np9] at this
        cases this
      have hN20 := k20 p9 _ nN (eAll _ _ hN15)
      -- paths
      refine s_asgL (xs := path'.take dn ++ [.ref p]) (el_is (el_catNN (xs := cutV path' none (some (dn : Int))) (zs := [.ref p]) (el_sl (ev_var rfl) (fun H8 e8 Q q => q H8 (Ex.refl H8)) (fun H8 e8 Q q => (ev_ixL (i := 0) (ev_var rfl) ev_c (SqL.of (e8 _ _ hN20)) (atI_nat (j := 0) rfl)) H8 (Ex.refl H8) _ fun H9 e9 => ⟨_, rfl, q H9 e9⟩) (SqL.of hpa20)) (el_lst (ea_cons (ev_ixL (xs := xs ++ [.ref p]) (i := -1) (ev_var rfl) (ev_un ev_c ru_neg) (SqL.of hg20) (atI_last _ _)) ea_nil) (by show 1 ≤ 100000; decide)) ?_) ?_) fun pa' H21 npa' e21 h21 => ?_
      · have := cutV_length path' none (some (dn : Int))
        have := dep_le 3 S.ts
        show _ + 1 ≤ _
        omega
      · rw [cutV_take path' (by omega)]
      have f21 : ∀ y o, y ≠ g → H13 y = some o → H21 y = some o := fun y o hy hh => e21 _ _ (k20 y o hy ((eN15.trans eAll) _ _ hh))
      have npa13 : H13 pa' = none := by
        cases w : H13 pa' with
        | none => rfl
        | some o =>
          exfalso
          have := (eN15.trans eAll) _ _ w
          by_cases wg : pa' = g
          · rw [wg, hg20] at npa' ; cases npa'
          · rw [k20 _ _ wg this] at npa' ; cases npa'
      obtain ⟨m', r1, r2⟩ := fin H21 e p pa' (.ref pm) [m1, m2, m3] (ex_free eN15 nE) npa13 (Tp.mono (Same.ts e21) (Tp.mono ts20 (.tup t1719 (.cons (.int _) (.cons (.int _) (.cons (.int _) .nil)))))) (e21 _ _ (k20 e _ eg h19)) ((t19.mono ts20).mono (Same.ts e21)) (e21 _ _ hg20) h21 f21
      exact ⟨_, _, _, _, _, pa', rfl, DuInv.next hrow run ok hst zmm fr (sm.trans E13) (E13 _ _ hz) r1 r2 fun y o hy hh => f21 y o (fun w => hy (w ▸ gmm)) hh⟩
    by_cases c2 : hd = "helper"
    · subst c2
      have l1 : ns.length = 1 := by
        rw [show lenW "helper" = 1 from rfl] at hlen ; omega
      obtain ⟨k, rfl⟩ := List.length_eq_one_iff.mp l1
      have est : stepRow S row = stepH S [some k] := by rw [est]; unfold stepW; rw [if_neg c1, if_pos rfl]; rfl
      have wc : ∀ H1, Same HB H1 → EvT (tTest (tOp rNe (tOp (rIx K) (tVar 7) (tC (V.int 0))) (tC (V.str (Str.ofString "claim"))))) [some (.str x), some (.ref Z), some (.int (i : Nat)), none, some (.ref pa), some (.ref t), some (.ref hp), some (.ref L), some (.ref p9), some (.ref pb), y10, none] H1 true := fun H1 e1 => et_is (et_test (ev_op (w0 H1 e1) ev_c (rv_ne rfl))) (by decide +kernel)
      have wc2 : ∀ H1, Same HB H1 → EvT (tTest (tOp rEq (tOp (rIx K) (tVar 7) (tC (V.int 0))) (tC (V.str (Str.ofString "claim"))))) [some (.str x), some (.ref Z), some (.int (i : Nat)), none, some (.ref pa), some (.ref t), some (.ref hp), some (.ref L), some (.ref p9), some (.ref pb), y10, none] H1 false := fun H1 e1 => et_is (et_test (ev_op (w0 H1 e1) ev_c (rv_eq rfl))) (by decide +kernel)
      refine q_when (b := (true && [k].any fun n => decide (n < 0)) || (false && false)) (et_or (et_and (wc H10 e10) fun _ => et_min (ev_var rfl) hNX (by show 0 < 1; decide)) fun _ => et_and (wc2 H10 e10) fun z => nomatch z) (fun z H11 e11 => leave (by
        rw [est]
        cases hs : stepH S [some k] with
        | none => rfl
        | some S' =>
          obtain ⟨k', en, k0, _⟩ := stepH_some hs
          simp only [List.cons.injEq, Option.some.injEq, and_true] at en
          subst en
          rw [Bool.true_and, Bool.false_and, Bool.or_false, List.any_eq_true] at z
          obtain ⟨n, hn, hneg⟩ := z
          have hneg := of_decide_eq_true hneg
          rw [List.mem_singleton.mp hn] at hneg
          omega) (e10.trans e11) rfl rfl) (fun z H11 e11 => ?_)
      have k0 : 0 ≤ k := by
        rw [Bool.true_and, Bool.false_and, Bool.or_false] at z
        have := List.any_eq_false.mp z k (by simp)
        have : ¬ k < 0 := fun w => this (decide_eq_true w)
        omega
      have eB11 := e10.trans e11
      have E11 := EX.trans e11
      have hN11 := e11 _ _ hNX
      refine s_if (b := decide (V.str "helper" = V.str "thing")) (et_test (ev_op (w0 H11 eB11) ev_c (rv_eq rfl))) (fun z => absurd z (by decide +kernel)) (fun _ H12 e12 => ?_)
      refine s_if (b := decide (V.str "helper" = V.str "helper")) (et_test (ev_op (w0 H12 (eB11.trans e12)) ev_c (rv_eq rfl))) (fun _ H13 e13 => ?_) (fun z => absurd z (by decide +kernel))
      have hN13 := (e12.trans e13) _ _ hN11
      refine q_when (b := decide ((4 : Int) < k)) (et_test (ev_op (ev_ixL (i := 0) (ev_var rfl) ev_c (SqL.of hN13) (atI_nat (j := 0) rfl)) ev_c rv_I0)) (fun z H14 e14 => leave (by
        rw [est]
        have z := of_decide_eq_true z
        cases hs : stepH S [some k] with
        | none => rfl
        | some S' =>
          obtain ⟨k', en, _, k4, _⟩ := stepH_some hs
          simp only [List.cons.injEq, Option.some.injEq, and_true] at en
          omega) (((eB11.trans e12).trans e13).trans e14) rfl rfl) (fun z H14 e14 => ?_)
      have z := of_decide_eq_false z
      have hst : stepRow S row = some ⟨S.ts, S.hs ++ [([], k)]⟩ := by rw [est]; exact stepH_mk k0 (by omega)
      have E14 := ((E11.trans e12).trans e13).trans e14
      obtain ⟨wsH, hhp14, lws', hpm, fin⟩ := (rep.same E14).addH
      refine ⟨.ref hp, rfl, .inl ⟨rfl, wsH, SqL.of hhp14⟩, ?_⟩
      refine (ev_ixL (i := 0) (v := .int k) (ev_var rfl) ev_c (SqL.of (e14 _ _ hN13)) (atI_nat (j := 0) rfl)) H14 (Ex.refl H14) _ fun H15 e15 => ?_
      refine ⟨by show 0 ≤ sizeLine; decide, fun e he => ?_⟩
      have e16 : Same H15 (upd H15 e (.lst [])) := Same.new he
      have h16 : (upd H15 e (.lst [])) e = some (.lst []) := upd_same
      refine ⟨sz_of (by show 2 ≤ 100000; decide), fun p hp' => ?_⟩
      have e17 : Same (upd H15 e (.lst [])) (upd (upd H15 e (.lst [])) p (.lst [.int k, .ref e])) := Same.new hp'
      have h17 : (upd (upd H15 e (.lst [])) p (.lst [.int k, .ref e])) p = some (.lst [.int k, .ref e]) := upd_same
      have h17e := e17 _ _ h16
      have ep : e ≠ p := ne_of_none h16 hp'
      have ne : H14 e = none := ex_free e15 he
      have np : H14 p = none := ex_free (e15.trans e16) hp'
      have eAll := e15.trans (e16.trans e17)
      generalize upd (upd H15 e (.lst [])) p (.lst [.int k, .ref e]) = H17 at h17 h17e eAll ⊢
      have hhp17 := eAll _ _ hhp14
      refine ⟨hp, wsH, .ref p, rfl, rfl, hhp17, sz_lt (by omega), ?_⟩
      have eh : e ≠ hp := fun w => by rw [w, hhp14] at ne; cases ne
      have ph : p ≠ hp := fun w => by rw [w, hhp14] at np; cases np
      have f : ∀ y o, y ≠ hp → H14 y = some o → upd H17 hp (.lst (wsH ++ [.ref p])) y = some o := fun y o hy hh => by rw [upd_ne hy]; exact eAll _ _ hh
      obtain ⟨m', r1, r2⟩ := fin _ e p k ne np ep (by rw [upd_ne eh]; exact h17e) (by rw [upd_ne ph]; exact h17) upd_same f
      exact ⟨_, _, _, _, _, pa, rfl, DuInv.next hrow run ok hst zmm fr (sm.trans E14) (E14 _ _ hz) r1 r2 fun y o hy hh => f y o (fun w => hy (w ▸ hpm)) hh⟩
    have c3 : hd = "claim" := by
      by_cases c3 : hd = "claim"
      · exact c3
      · unfold lenW at hlen
        rw [if_neg c1, if_neg c2, if_neg c3] at hlen
        omega
    subst c3
    have l4 : ns.length = 4 := by
      rw [show lenW "claim" = 4 from rfl] at hlen ; omega
    obtain ⟨m1, m2, m3, u, rfl⟩ : ∃ a b c d, ns = [a, b, c, d] := by
      match ns, l4 with
      | [a, b, c, d], _ => exact ⟨a, b, c, d, rfl⟩
    have est : stepRow S row = stepC S [some m1, some m2, some m3, some u] := by rw [est]; unfold stepW; rw [if_neg c1, if_neg c2, if_pos rfl]; rfl
    have wc : ∀ H1, Same HB H1 → EvT (tTest (tOp rNe (tOp (rIx K) (tVar 7) (tC (V.int 0))) (tC (V.str (Str.ofString "claim"))))) [some (.str x), some (.ref Z), some (.int (i : Nat)), none, some (.ref pa), some (.ref t), some (.ref hp), some (.ref L), some (.ref p9), some (.ref pb), y10, none] H1 false := fun H1 e1 => et_is (et_test (ev_op (w0 H1 e1) ev_c (rv_ne rfl))) (by decide +kernel)
    have wc2 : ∀ H1, Same HB H1 → EvT (tTest (tOp rEq (tOp (rIx K) (tVar 7) (tC (V.int 0))) (tC (V.str (Str.ofString "claim"))))) [some (.str x), some (.ref Z), some (.int (i : Nat)), none, some (.ref pa), some (.ref t), some (.ref hp), some (.ref L), some (.ref p9), some (.ref pb), y10, none] H1 true := fun H1 e1 => et_is (et_test (ev_op (w0 H1 e1) ev_c (rv_eq rfl))) (by decide +kernel)
    refine q_when (b := (false && false) || (true && decide (u < 0))) (et_or (et_and (wc H10 e10) fun z => nomatch z) fun _ => et_and (wc2 H10 e10) fun _ => et_test (ev_op (ev_ixL (i := 3) (ev_var rfl) ev_c (SqL.of hNX) (atI_nat (j := 3) rfl)) ev_c rv_I0)) (fun z H11 e11 => leave (by
      rw [est]
      rw [Bool.false_and, Bool.false_or, Bool.true_and] at z
      have z := of_decide_eq_true z
      cases hs : stepC S [some m1, some m2, some m3, some u] with
      | none => rfl
      | some S' =>
        obtain ⟨a, b, c, v, us, cs, k, en, oc, _⟩ := stepC_some hs
        simp only [List.cons.injEq, Option.some.injEq, and_true] at en
        obtain ⟨rfl, rfl, rfl, rfl⟩ := en
        have := oc.2.2.1
        have : 0 ≤ u := this
        omega) (e10.trans e11) rfl rfl) (fun z H11 e11 => ?_)
    have u0 : 0 ≤ u := by
      rw [Bool.false_and, Bool.false_or, Bool.true_and] at z
      have := of_decide_eq_false z
      omega
    have oc : okClaim ([m1, m2, m3], u) := ⟨rfl, fun n hn => small n (by
      simp only [List.mem_cons, List.not_mem_nil, or_false] at hn ⊢
      rcases hn with rfl | rfl | rfl <;> simp), u0, (small u (by simp)).2⟩
    have eB11 := e10.trans e11
    have E11 := EX.trans e11
    have hN11 := e11 _ _ hNX
    refine s_if (b := decide (V.str "claim" = V.str "thing")) (et_test (ev_op (w0 H11 eB11) ev_c (rv_eq rfl))) (fun z => absurd z (by decide +kernel)) (fun _ H12 e12 => ?_)
    refine s_if (b := decide (V.str "claim" = V.str "helper")) (et_test (ev_op (w0 H12 (eB11.trans e12)) ev_c (rv_eq rfl))) (fun z => absurd z (by decide +kernel)) (fun _ H13 e13 => ?_)
    have E13 := (E11.trans e12).trans e13
    have eB13 := (eB11.trans e12).trans e13
    have hN13 := (e12.trans e13) _ _ hN11
    have rep13 := rep.same E13
    have rep13' := rep13
    obtain ⟨vs, path, wsH, l, l2, g2, g3, g4, g5, g6, g7, gm, g9, g10⟩ := rep13'
    have sh := shaped_hq (hs := S.hs) (by omega) fun q hq => (ok.oh q hq).1
    have dpH : ∀ H1, Same H13 H1 → Dp K H1 (.ref hp) (.list (S.hs.map hqD)) := fun H1 e1 => .lst (SqL.of (e1 _ _ g6)) (g7.keep (Same.ts e1) fun y _ o ho => e1 _ _ ho).dp
    rcases List.eq_nil_or_concat S.hs with e0 | ⟨us, q0, eh⟩
    · refine q_when (b := decide (S.hs.map hqD = []) || false) (et_or (et_eqNilP (ev_var rfl) dpH sh) fun z => ?_) (fun z H14 e14 => leave (by
        rw [est]
        cases hs : stepC S [some m1, some m2, some m3, some u] with
        | none => rfl
        | some S' =>
          obtain ⟨a, b, c, v, us, cs, k, en, oc, eh, _⟩ := stepC_some hs
          rw [e0] at eh
          exact absurd (congrArg List.length eh) (by simp)) (eB13.trans e14) rfl rfl) (fun z => ?_)
      · rw [e0, List.map_nil, decide_eq_true rfl] at z ; cases z
      · rw [e0, List.map_nil, decide_eq_true rfl] at z ; cases z
    rw [List.concat_eq_append] at eh
    obtain ⟨cs, k⟩ := q0
    obtain ⟨ws1, p, e, zs, hh13, hp13, he13, lzs, em, fin⟩ := rep13.addC (us := us) (cs := cs) (k := k) eh
    have cs6 : cs.length ≤ 6 := (ok.oh (cs, k) (by rw [eh]; simp)).1.1
    have lastE : ∀ H1, Same H13 H1 → Ev (tOp (rIx K) (tOp (rIx K) (tVar 6) (tUn (rU fun i => V.int (-i)) (tC (V.int 1)))) (tC (V.int 1))) [some (.str x), some (.ref Z), some (.int (i : Nat)), none, some (.ref pa), some (.ref t), some (.ref hp), some (.ref L), some (.ref p9), some (.ref pb), y10, none] H1 (.ref e) := fun H1 e1 => ev_ixL (xs := [.int k, .ref e]) (i := 1) (ev_ixL (xs := ws1 ++ [.ref p]) (i := -1) (ev_var rfl) (ev_un ev_c ru_neg) (SqL.of (e1 _ _ hh13)) (atI_last _ _)) ev_c (SqL.of (e1 _ _ hp13)) (atI_nat (j := 1) rfl)
    refine q_when (b := decide (S.hs.map hqD = []) || decide ((zs.length : Int) = 6)) (et_or (et_eqNilP (ev_var rfl) dpH sh) fun _ => et_test (ev_op (ev_len (lastE H13 (Same.refl H13)) (SqL.of he13)) ev_c rv_eqI)) (fun z H14 e14 => leave (by
      rw [est]
      have ne : ¬ (S.hs.map hqD = []) := fun w => by rw [List.map_eq_nil_iff.mp w] at eh; exact absurd (congrArg List.length eh) (by simp)
      rw [decide_eq_false ne, Bool.false_or] at z
      have z := of_decide_eq_true z
      cases hs : stepC S [some m1, some m2, some m3, some u] with
      | none => rfl
      | some S' =>
        obtain ⟨a, b, c, v, us', cs', k', en, oc, eh', lc, _⟩ := stepC_some hs
        rw [eh] at eh'
        obtain ⟨_, w⟩ := snoc_inj eh'
        injection w with w1 _
        subst w1
        omega) (eB13.trans e14) rfl rfl) (fun z H14 e14 => ?_)
    have lc : cs.length < 6 := by
      rw [Bool.or_eq_false_iff] at z
      have := of_decide_eq_false z.2
      omega
    have hst : stepRow S row = some ⟨S.ts, us ++ [(cs ++ [([m1, m2, m3], u)], k)]⟩ := by rw [est]; exact stepC_mk oc eh lc
    refine (lastE H14 e14) H14 (Ex.refl H14) _ fun H15 e15 => ?_
    have he15 := (e14.trans e15) _ _ he13
    have hN15 := (e14.trans e15) _ _ hN13
    refine ⟨.inl ⟨rfl, zs, SqL.of he15⟩, ?_⟩
    refine (el_sl (lo := none) (hi := some 3) (a := p9) (xs := [m1, m2, m3, u].map V.int) (ev_var rfl) (fun H8 e8 Q q => q H8 (Ex.refl H8)) (fun H8 e8 Q q => ⟨3, rfl, q H8 (Ex.refl H8)⟩) (SqL.of hN15)) H15 (Ex.refl H15) _ fun S1 H16 nS1 e16 hS1 => ?_
    refine ⟨S1, _, rfl, .inl ⟨SqL.of hS1, fun pm om' hpm hdm => ?_⟩⟩
    have e17 : Same H16 (upd H16 pm (.frz om' (.tup [.int m1, .int m2, .int m3]))) := Same.new hpm
    have t17 : TupAt (upd H16 pm (.frz om' (.tup [.int m1, .int m2, .int m3]))) pm [.int m1, .int m2, .int m3] := ⟨om', hdm, upd_same⟩
    refine (ev_ixL (xs := [m1, m2, m3, u].map V.int) (i := 3) (v := .int u) (ev_var rfl) ev_c (SqL.of (e17 _ _ (e16 _ _ hN15))) (atI_nat (j := 3) rfl)) _ (Ex.refl _) _ fun H18 e18 => ?_
    have e18 : Same (upd H16 pm (.frz om' (.tup [.int m1, .int m2, .int m3]))) H18 := e18
    refine ⟨sz_of (by show 2 ≤ 100000; decide), fun pc oc' hpc hdc => ?_⟩
    have e19 : Same H18 (upd H18 pc (.frz oc' (.tup [.ref pm, .int u]))) := Same.new hpc
    have t19 : TupAt (upd H18 pc (.frz oc' (.tup [.ref pm, .int u]))) pc [.ref pm, .int u] := ⟨oc', hdc, upd_same⟩
    have t1719 := t17.mono (Same.ts (e18.trans e19))
    have eAll := (e14.trans e15).trans ((e16.trans e17).trans (e18.trans e19))
    generalize upd H18 pc (.frz oc' (.tup [.ref pm, .int u])) = H19 at t19 t1719 eAll ⊢
    have he19 := eAll _ _ he13
    refine ⟨e, zs, .ref pc, rfl, rfl, he19, sz_lt (by omega), ?_⟩
    have k20 : ∀ y o, y ≠ e → H19 y = some o → upd H19 e (.lst (zs ++ [.ref pc])) y = some o := fun y o hy hh => by rw [upd_ne hy]; exact hh
    have ts20 := tst_but1 k20 he19 fun _ _ => HO.noConfusion
    have f : ∀ y o, y ≠ e → H13 y = some o → upd H19 e (.lst (zs ++ [.ref pc])) y = some o := fun y o hy hh => k20 y o hy (eAll _ _ hh)
    have r1 := fin _ (.ref pc) ([m1, m2, m3], u) (Tp.mono ts20 (.tup t19 (.cons (.tup t1719 (.cons (.int _) (.cons (.int _) (.cons (.int _) .nil)))) (.cons (.int _) .nil)))) upd_same f
    exact ⟨_, _, _, _, _, pa, rfl, DuInv.next hrow run ok hst zmm fr (sm.trans E13) (E13 _ _ hz) r1 (fun y hy => .inl hy) fun y o hy hh => f y o (fun w => hy (w ▸ em)) hh⟩
  · obtain ⟨y2, y7, y8, y9, y10, pa, rfl, S, m, rep, ok, run, zmm, fr, sm, hz⟩ := p
    rw [Int.toNat_natCast] at ok run
    rw [List.drop_length] at run
    have hres : res = .inr S := run.symm
    obtain ⟨vs, path, wsH, l, l2, g2, g3, g4, g5, g6, g7, gm, g9, g10⟩ := rep
    have lwH := g7.length
    have lvs := g3.length
    have lh := ok.lh
    have lt := ok.lt
    refine g_seq ?_
    refine (ev_len (ev_var rfl) (SqL.of g6)) H' (Ex.refl H') _ fun H6 e6 => ?_
    refine ⟨_, rfl, by omega, by omega, fun D hD => ?_⟩
    have g6' := e6 _ _ g6
    refine lc_range (lo := 0) (n := ((wsH.length : Nat) : Int).toNat) (fun i H'' => Same H6 H'' ∧ ∃ acc, H'' D = some (.lst acc) ∧ acc.length = i ∧ Tps H'' acc (((numG S.hs).take i).map hpD)) ⟨Same.new hD, [], upd_same, rfl, .nil⟩ (fun i H5 hi p => ?_) (fun H7 p => ?_)
    · obtain ⟨e5, bcc, h5, la, tpb⟩ := p
      have hi : i < wsH.length := by omega
      obtain ⟨cs, k, p, e, zs, hh, hx, tp, he, tz⟩ := g7.get (List.getElem?_eq_getElem hi)
      have E5 := e6.trans e5
      refine ⟨rfl, ?_⟩
      refine ⟨.int (0 + (i : Nat)), rfl, ?_⟩
      have lst : ∀ H1, Same H5 H1 → Ev (tOp (rIx K) (tVar 6) (tVar 2)) [some (.str x), some (.ref Z), some (.int (0 + (i : Nat))), none, some (.ref pa), some (.ref t), some (.ref hp), y7, y8, y9, y10, none] H1 (.ref p) := fun H1 e1 => ev_ixL (xs := wsH) (i := 0 + (i : Nat)) (ev_var rfl) (ev_var rfl) (SqL.of (e1 _ _ (e5 _ _ g6'))) (by rw [Int.zero_add, ← hx]; exact atI_nat (List.getElem?_eq_getElem hi))
      refine (ev_ixL (xs := [.int k, .ref e]) (i := 1) (v := .ref e) (lst H5 (Same.refl H5)) ev_c (SqL.of (E5 _ _ tp)) (atI_nat (j := 1) rfl)) H5 (Ex.refl H5) _ fun H8 e8 => ?_
      refine ⟨e, zs, rfl, .inl ⟨SqL.of (e8 _ _ (E5 _ _ he)), fun S2 o2 hS2 hd2 => ?_⟩⟩
      have e9 : Same H8 (upd H8 S2 (.frz o2 (.tup zs))) := Same.new hS2
      have t9 : TupAt (upd H8 S2 (.frz o2 (.tup zs))) S2 zs := ⟨o2, hd2, upd_same⟩
      have e89 : Same H5 (upd H8 S2 (.frz o2 (.tup zs))) := Same.trans e8 e9
      refine (ev_ixL (xs := [.int k, .ref e]) (i := 0) (v := .int k) (lst _ e89) ev_c (SqL.of (e89 _ _ (E5 _ _ tp))) (atI_nat (j := 0) rfl)) _ (Ex.refl _) _ fun H10 e10 => ?_
      have e10 : Same (upd H8 S2 (.frz o2 (.tup zs))) H10 := e10
      refine ⟨sz_of (by show 3 ≤ 100000; decide), fun p3 o3 hp3 hd3 => ?_⟩
      have e11 : Same H10 (upd H10 p3 (.frz o3 (.tup [.int (0 + (i : Nat)), .ref S2, .int k]))) := Same.new hp3
      have t11 : TupAt (upd H10 p3 (.frz o3 (.tup [.int (0 + (i : Nat)), .ref S2, .int k]))) p3 [.int (0 + (i : Nat)), .ref S2, .int k] := ⟨o3, hd3, upd_same⟩
      have eAll := e89.trans (e10.trans e11)
      have t911 := t9.mono (Same.ts (e10.trans e11))
      have tz11 := tz.mono (Same.ts (E5.trans eAll))
      have tpb11 := tpb.mono (Same.ts eAll)
      have h11 := eAll _ _ h5
      generalize upd H10 p3 (.frz o3 (.tup [.int (0 + (i : Nat)), .ref S2, .int k])) = H11 at t11 eAll t911 tz11 tpb11 h11 ⊢
      have k9 : ∀ (u : Addr) (o : HO), u ≠ D → H11 u = some o → upd H11 D (.lst (bcc ++ [.ref p3])) u = some o := fun u o hu h => by rw [upd_ne hu]; exact h
      have ts9 := tst_but1 k9 h11 fun _ _ => HO.noConfusion
      refine ⟨bcc, h11, sz_lt (by omega), Same.put (e5.trans eAll) hD, bcc ++ [.ref p3], upd_same, by rw [List.length_append, la, List.length_singleton], ?_⟩
      rw [List.take_add_one, numG_get hh, Option.toList_some, List.map_append]
      refine (tpb11.mono ts9).append (.cons ?_ .nil)
      show Tp _ _ (.tuple [.int (i : Int), clsD cs, .int k])
      rw [← Int.zero_add (i : Int)]
      exact (Tp.tup t11 (.cons (.int _) (.cons (.tup t911 tz11) (.cons (.int _) .nil)))).mono ts9
    obtain ⟨e7, bcc, h7, lb, tpb⟩ := p
    rw [Int.toNat_natCast, lwH, ← numG_len S.hs, List.take_length] at tpb
    refine g_name ?_
    dsimp only
    refine g_ret ?_
    have E7 := e6.trans e7
    refine ⟨.ref t, rfl, t, rfl, ⟨vs, SqL.of (E7 _ _ g2)⟩, fun M hM => ?_⟩
    have al1 := g3.get
    refine lc_list (xs := vs) (fun i H'' => Same H7 H'' ∧ ∃ acc, H'' M = some (.lst acc) ∧ acc.length = i ∧ Tps H'' acc ((S.ts.take i).map Th.d)) ⟨Same.new hM, [], upd_same, rfl, .nil⟩ (fun i H'' _ p => ex_l p.1 (SqL.of (E7 _ _ g2))) (fun i y H'' hy p => ?_) (fun H8 p => ?_)
    · obtain ⟨e8, acc, h8, la, tps⟩ := p
      obtain ⟨th, ht, rt'⟩ := al1.get hy
      have hi : i < S.ts.length := (List.getElem?_eq_some_iff.mp ht).1
      refine ⟨rfl, ?_⟩
      refine ⟨y, rfl, ?_⟩
      refine ⟨_, y, th, rfl, rt'.mono (fun _ h => h) (fun _ _ _ h => e8 _ _ (E7 _ _ h)) (Same.ts (E7.trans e8)), ok.ok th (List.mem_of_getElem? ht), fun H9 z e9 tz => ?_⟩
      have h9 := e9 _ _ h8
      have k5 : ∀ (u : Addr) (o : HO), u ≠ M → H9 u = some o → upd H9 M (.lst (acc ++ [z])) u = some o := fun u o hu h => by rw [upd_ne hu]; exact h
      have ts := tst_but1 k5 h9 fun _ _ => HO.noConfusion
      refine ⟨acc, h9, sz_lt (by omega), Same.put (e8.trans e9) hM, acc ++ [z], upd_same, by rw [List.length_append, la, List.length_singleton], ?_⟩
      rw [List.take_add_one, ht, Option.toList_some, List.map_append]
      exact ((tps.mono (Same.ts e9)).mono ts).append (.cons (tz.mono ts) .nil)
    obtain ⟨e8, acc, h8, la, tps⟩ := p
    rw [lvs, List.take_length] at tps
    refine ⟨M, acc, rfl, SqL.of h8, fun Lt bs H9 e9 nLt lbs hLt tpp => ?_⟩
    refine ⟨.ref D, rfl, sz_of (by show 2 ≤ 100000; decide), fun p hp' => ?_⟩
    have e10 : Same H9 (upd H9 p (.lst [.ref Lt, .ref D])) := Same.new hp'
    have eAll := (e8.trans e9).trans e10
    refine qg S hres ⟨ok.ok, ok.oh, by omega, by omega⟩ _ p Lt D (bs.map V.ref) bcc ((sm.trans E7).trans eAll) (ex_free ((sm.trans E7).trans (e8.trans e9)) hp') upd_same (e10 _ _ hLt) (eAll _ _ h7) (Tps.of_get (by rw [List.length_map, List.length_map, numG_len, lbs, la]; exact lvs) fun j v d hv hd => ?_) (tpb.mono (Same.ts eAll))
    rw [List.getElem?_map, Option.map_eq_some_iff] at hv hd
    obtain ⟨b, hb, rfl⟩ := hv
    obtain ⟨q, hq, rfl⟩ := hd
    have hj : j < acc.length := by rw [← lbs]; exact (List.getElem?_eq_some_iff.mp hb).1
    have hvj := List.getElem?_eq_getElem hj
    have tp := tpp j b _ hb hvj
    obtain ⟨d', hd', td⟩ := tps.get hvj
    rw [List.getElem?_map, Option.map_eq_some_iff] at hd'
    obtain ⟨th, hth, rfl⟩ := hd'
    rw [numG_get hth] at hq
    cases hq
    exact (Tp.tup tp (.cons (.int _) (.cons (td.mono (Same.ts e9)) .nil))).mono (Same.ts e10)


end
end Dm
namespace Dm
open PySem PySem.Spec PyProof.Rows L2 Evl
section
variable {P : Program} {w : World} {K : PySem.W.Frag} {mg : Str → Option Value} {base : Heap}
/-! ### _law_spoilt -/
def wt (l : List Str) : Nat := (l.map (·.length)).sum + l.length
theorem wt_app (a b : List Str) : wt (a ++ b) = wt a + wt b := by
  unfold wt
  rw [List.map_append, List.sum_append, List.length_append] ; omega
theorem wt_one (x : Str) : wt [x] = x.length + 1 := rfl
theorem wt_cons (x : Str) (l : List Str) : wt (x :: l) = x.length + 1 + wt l := by
  show wt ([x] ++ l) = _
  rw [wt_app, wt_one]
theorem wt_at {l : List Str} {k : Nat} {x : Str} (h : l[k]? = some x) : wt (l.take k) + (x.length + 1) + wt (l.drop (k + 1)) = wt l := by
  have hk := (List.getElem?_eq_some_iff.mp h)
  have e : l = l.take k ++ x :: l.drop (k + 1) := by
    conv => lhs; rw [← List.take_append_drop k l]
    rw [List.drop_eq_getElem_cons hk.1, hk.2]
  conv => rhs; rw [e]
  rw [wt_app, wt_cons]
  omega
theorem wt_join {y : Str} (hy : y.length = 1) (l : List Str) : (Txt.join y l).length ≤ wt l := by
  have := join_len y l
  rw [hy, Nat.mul_one] at this
  exact this
theorem joinL_exact {S : List Nat} (hS : S.length = 1) : ∀ {ps : List (List Nat)}, ps ≠ [] → (TL.joinL S ps).length + 1 = (ps.map (·.length)).sum + ps.length
  | [], h => absurd rfl h
  | [p], _ => by show p.length + 1 = (p.length + 0) + 1; omega
  | p :: q :: r, _ => by
    have := joinL_exact hS (ps := q :: r) (by simp)
    show (p ++ (S ++ TL.joinL S (q :: r))).length + 1 = _
    rw [List.length_append, List.length_append, List.map_cons, List.sum_cons, List.length_cons, hS]
    omega
theorem wt_split (x y : Str) (h1 : TL.tl y ≠ []) (h2 : y.cps.all (· < 256) = true) (hy : y.length = 1) : wt (Txt.split x y) = x.length + 1 := by
  have e := PySem.StrLaws.join_split x y
  have l := congrArg Str.length e
  rw [TL.len_tl, TL.tl_join] at l
  have ne : Txt.split x y ≠ [] := fun z => by
    have := (split_len x y h1 h2).1
    rw [z] at this ; exact absurd this (by decide)
  have je := joinL_exact (S := TL.tl y) (by rw [← TL.len_tl]; exact hy) (ps := (Txt.split x y).map TL.tl) (by simpa using ne)
  rw [l, List.map_map, List.length_map] at je
  have em : ((Txt.split x y).map ((·.length) ∘ TL.tl)) = (Txt.split x y).map (·.length) := List.map_congr_left fun z _ => (TL.len_tl z).symm
  rw [em] at je
  unfold wt
  omega
section
variable {σ : L2.St} {H : Hp} {te tl : TE} {tlo thi : TO} {z : Str} {i : Int} {lo hi : Option Int}
theorem ev_addS {ta tb : TE} {x y : Str} (ha : Ev ta σ H (.str x)) (hb : Ev tb σ H (.str y)) (hl : x.length + y.length ≤ sizeLine) : Ev (tOp (fun x y H Q => ∃ i j : Str, x = .str i ∧ y = .str j ∧ i.length + j.length ≤ sizeLine ∧ Q (.str (i ++ j)) H) ta tb) σ H (.str (x ++ y)) := fun H1 e Q q =>
  ha H1 e _ fun H2 e2 => hb H2 (e.trans e2) _ fun H3 e3 => ⟨x, y, rfl, rfl, hl, q H3 (e2.trans e3)⟩
theorem ev_slS (h : Ev te σ H (.str z)) (h1 : EvO tlo σ H lo) (h2 : EvO thi σ H hi) (hz : z.length ≤ sizeLine) : Ev (tSl rSlS te tlo thi) σ H (.str (cutS z lo hi)) := fun H1 e Q q =>
  h H1 e _ fun H2 e2 => h1 H2 (e.trans e2) _ fun H3 e3 => h2 H3 (e.trans (e2.trans e3)) _ fun H4 e4 => ⟨z, rfl, hz, q H4 (e2.trans (e3.trans e4))⟩
theorem eo_some (h : Ev te σ H (.int i)) : EvO (tPart te) σ H (some i) := fun H1 e Q q => h H1 e _ fun H2 e2 => ⟨i, rfl, q H2 e2⟩
theorem eo_none : EvO tNoPart σ H none := fun H1 e Q q => q H1 (Ex.refl H1)
theorem ev_lenS (h : Ev te σ H (.str z)) (hz : z.length ≤ sizeLine) : Ev (tCB (fun xs H Q => ∃ z, xs = [V.str z] ∧ z.length ≤ sizeLine ∧ Q (V.int z.length) H) (tCons te tNil)) σ H (.int z.length) := fun H1 e Q q =>
  h H1 e _ fun H2 e2 => ⟨z, rfl, hz, q H2 e2⟩
theorem ev_intB {b : Bool} (h : Ev te σ H (.bl b)) : Ev (tCB (fun xs H Q => (∃ i, xs = [V.int i] ∧ Q (V.int i) H) ∨ ∃ k, xs = [V.bl k] ∧ Q (V.int (if k = true then 1 else 0)) H) (tCons te tNil)) σ H (.int (if b = true then 1 else 0)) := fun H1 e Q q =>
  h H1 e _ fun H2 e2 => .inr ⟨b, rfl, q H2 e2⟩
end
theorem cutV_drop {xs : List V} {i : Nat} : cutV xs (some (i : Int)) none = xs.drop i := by
  unfold cutV
  rw [HT.sIx_none, HT.sIx_nat]
  by_cases h : i ≤ xs.length
  · rw [Nat.min_eq_left h, List.take_of_length_le (by rw [List.length_drop]; exact Nat.le_refl _)]
  · rw [Nat.min_eq_right (by omega), Nat.sub_self, List.take_zero, List.drop_eq_nil_of_le (by omega)]
section
variable {σ : L2.St} {H : Hp} {te t1 t2 : TE} {a : Addr} {l : List Str} {k : Nat}
theorem el_head (h : Ev te σ H (.ref a)) (hk : Ev t1 σ H (.int (k : Int))) (ha : H a = some (.lst (l.map V.str))) (lk : k ≤ l.length) : EvL (tSl (rSlL K) te tNoPart (tPart t1)) σ H ((l.take k).map V.str) :=
  el_is (el_sl h eo_none (eo_some hk) (SqL.of ha)) (by rw [cutV_take _ (by rw [List.length_map]; exact lk), List.map_take])
theorem el_tail (h : Ev te σ H (.ref a)) (hk : Ev t1 σ H (.int (k : Int))) (ha : H a = some (.lst (l.map V.str))) : EvL (tSl (rSlL K) te (tPart t1) tNoPart) σ H ((l.drop k).map V.str) :=
  el_is (el_sl h (eo_some hk) eo_none (SqL.of ha)) (by rw [cutV_drop, List.map_drop])
theorem el_catS {m1 m2 : List Str} (h1 : EvL t1 σ H (m1.map V.str)) (h2 : EvL t2 σ H (m2.map V.str)) (hl : m1.length + m2.length ≤ 100000) : EvL (tOp rCat t1 t2) σ H ((m1 ++ m2).map V.str) := by
  rw [List.map_append]
  exact el_catNN h1 h2 (by rw [List.length_map, List.length_map]; exact hl)
theorem ev_joinV {y : Str} {p : Addr} (hy : y.length = 1) (h : Ev te σ H (.ref p)) (hp : H p = some (.lst (l.map V.str))) (hw : wt l ≤ 1000000) : Ev (tM1 (fun x xs H Q => ∃ a p, ∃ ys : List Str, x = V.str a ∧ xs = [V.ref p] ∧ (SqL K H p (ys.map V.str) ∨ SqT K H p (ys.map V.str)) ∧ (ys.map (·.length)).sum + ys.length * a.length ≤ 16777216 ∧ Q (.str (Txt.join a ys)) H) (tC (.str y)) te) σ H (.str (Txt.join y l)) := fun H1 e Q q =>
  ⟨⟨_, rfl⟩, h H1 e _ fun H2 e2 => ⟨y, p, l, rfl, rfl, .inl (SqL.of ((e.trans e2) _ _ hp)), by rw [hy, Nat.mul_one]; unfold wt at hw; omega, q H2 e2⟩⟩
theorem ev_joinS {y : Str} (hy : y.length = 1) (h : EvL te σ H (l.map V.str)) (hw : wt l ≤ 1000000) : Ev (tM1 (fun x xs H Q => ∃ a p, ∃ ys : List Str, x = V.str a ∧ xs = [V.ref p] ∧ (SqL K H p (ys.map V.str) ∨ SqT K H p (ys.map V.str)) ∧ (ys.map (·.length)).sum + ys.length * a.length ≤ 16777216 ∧ Q (.str (Txt.join a ys)) H) (tC (.str y)) te) σ H (.str (Txt.join y l)) := fun H1 e Q q =>
  ⟨⟨_, rfl⟩, h H1 e _ fun p H2 _ e2 h2 => ⟨y, p, l, rfl, rfl, .inl (SqL.of h2), by rw [hy, Nat.mul_one]; unfold wt at hw; omega, q H2 e2⟩⟩
end
def oddS : List Str := [Str.ofString "", Str.ofString "0", Str.ofString "00", Str.ofString "1", Str.ofString "2", Str.ofString "3", Str.ofString "4", Str.ofString "5", Str.ofString "9", Str.ofString "10", Str.ofString "-1", Str.ofString "-2", Str.ofString "-", Str.ofString "thing", Str.ofString "helper", Str.ofString "claim", Str.ofString "Thing"]
def spSpoilt : Sp := fun vs H Q _ => ∃ (h c : Addr) (x : Str), vs = [.ref h, .str x] ∧ Dr H h c ∧ x.length ≤ 20000 ∧ ∀ (H' : Hp) (y : Str), Dr H' h c → Mv [h, c] H H' → y.length ≤ 2 * x.length + 12 → Q (.str y) H'
theorem ok__law_spoilt (T : Txt K mg) : FnOk P w K mg base CX0 2 T._law_spoilt.f T._law_spoilt.fd ["_law_h", "_law_text"] spSpoilt := by
  refine T._law_spoilt.F.ok sc__law_spoilt (fun vs H Q E h => ?_) (fun cdv A outer s H vs Q E hr h => ?_)
  · obtain ⟨h, c, x, rfl, _⟩ := h ; rfl
  obtain ⟨h, c, x, rfl, dr, lx, q⟩ := h
  refine ⟨_, (pss_cons (ps_set (i := 2) sc__law_spoilt.nd rfl (by first | exact Or.inl rfl | exact Or.inr rfl) (pe_call (ok__law_next T) (hr.mono (by decide)) rfl T._law_next.m T._law_next.F.kp T._law_next.b .nil pass0 (pa_cons (pv 0) (pa_cons pe_int pa_nil))))
  (pss_cons (ps_set (i := 3) sc__law_spoilt.nd rfl (by first | exact Or.inl rfl | exact Or.inr rfl) (pe_call (ok__law_next T) (hr.mono (by decide)) rfl T._law_next.m T._law_next.F.kp T._law_next.b .nil pass0 (pa_cons (pv 0) (pa_cons (pe_op op_add (pe_callB call_len_str (by rfl) T.z_len PySem.boot_len (pa_cons (pv 1) pa_nil)) pe_int) pa_nil))))
  (pss_cons (ps_set (i := 4) sc__law_spoilt.nd rfl (by first | exact Or.inl rfl | exact Or.inr rfl) pe_str)
  (pss_cons (ps_set (i := 5) sc__law_spoilt.nd rfl (by first | exact Or.inl rfl | exact Or.inr rfl) (pe_ix ix_str (pv 4) (pe_call (ok__law_next T) (hr.mono (by decide)) rfl T._law_next.m T._law_next.F.kp T._law_next.b .nil pass0 (pa_cons (pv 0) (pa_cons (pe_ix (ixK (K := K) rfl) (pe_lst (pa_cons pe_int (pa_cons (pe_callB call_len_str (by rfl) T.z_len PySem.boot_len (pa_cons (pv 4) pa_nil)) pa_nil))) (pe_call (ok__law_next T) (hr.mono (by decide)) rfl T._law_next.m T._law_next.F.kp T._law_next.b .nil pass0 (pa_cons (pv 0) (pa_cons pe_int pa_nil))) (fun _ _ => rfl)) pa_nil))) (fun _ _ => rfl)))
  (pss_cons (ps_if (pt_cmpR op_lt (pv 2) pe_int (nomark _)) (pss_one (ps_ret (pe_op op_add_str (pe_op op_add_str (pe_slice sl_str (pv 1) po_none (po_some (pv 3))) (pe_ix (ixK (K := K) rfl) (pe_lst (pa_cons (pv 5) (pa_cons pe_str (pa_cons (pv 5) pa_nil)))) (pv 2) (fun _ _ => rfl))) (pe_slice sl_str (pv 1) (po_some (pe_op op_add (pv 3) (pe_callTy call_int1 (by rfl) T.z_int (by decide +kernel) (pa_cons (pe_cmpR op_gt (pv 2) pe_int (nomark _)) pa_nil)))) po_none)))) pss_nil)
  (pss_cons (ps_set (i := 6) sc__law_spoilt.nd rfl (by first | exact Or.inl rfl | exact Or.inr rfl) (pe_split (pv 1) pe_str))
  (pss_cons (ps_set (i := 7) sc__law_spoilt.nd rfl (by first | exact Or.inl rfl | exact Or.inr rfl) (pe_call (ok__law_next T) (hr.mono (by decide)) rfl T._law_next.m T._law_next.F.kp T._law_next.b .nil pass0 (pa_cons (pv 0) (pa_cons (pe_callB (lenK (K := K) rfl) (by rfl) T.z_len PySem.boot_len (pa_cons (pv 6) pa_nil)) pa_nil))))
  (pss_cons (ps_if (pt_cmpR op_lt (pv 2) pe_int (nomark _)) (pss_one (ps_ret (pe_join pe_str (pe_ix (ixK (K := K) rfl) (pe_lst (pa_cons (pe_op op_cat (pe_slice sl_list (pv 6) po_none (po_some (pv 7))) (pe_slice sl_list (pv 6) (po_some (pe_op op_add (pv 7) pe_int)) po_none)) (pa_cons (pe_op op_cat (pe_slice sl_list (pv 6) po_none (po_some (pe_op op_add (pv 7) pe_int))) (pe_slice sl_list (pv 6) (po_some (pv 7)) po_none)) (pa_cons (pe_op op_cat (pe_slice sl_list (pv 6) (po_some (pv 7)) po_none) (pe_slice sl_list (pv 6) po_none (po_some (pv 7)))) pa_nil)))) (pe_op op_sub (pv 2) pe_int) (fun _ _ => rfl))))) pss_nil)
  (pss_cons (ps_set (i := 8) sc__law_spoilt.nd rfl (by first | exact Or.inl rfl | exact Or.inr rfl) (pe_split (pe_ix (ixK (K := K) rfl) (pv 6) (pv 7) (fun _ _ => rfl)) pe_str))
  (pss_cons (ps_set (i := 9) sc__law_spoilt.nd rfl (by first | exact Or.inl rfl | exact Or.inr rfl) (pe_call (ok__law_next T) (hr.mono (by decide)) rfl T._law_next.m T._law_next.F.kp T._law_next.b .nil pass0 (pa_cons (pv 0) (pa_cons (pe_callB (lenK (K := K) rfl) (by rfl) T.z_len PySem.boot_len (pa_cons (pv 8) pa_nil)) pa_nil))))
  (pss_cons (ps_set (i := 10) sc__law_spoilt.nd rfl (by first | exact Or.inl rfl | exact Or.inr rfl) (pe_lst (pa_cons pe_str (pa_cons pe_str (pa_cons pe_str (pa_cons pe_str (pa_cons pe_str (pa_cons pe_str (pa_cons pe_str (pa_cons pe_str (pa_cons pe_str (pa_cons pe_str (pa_cons pe_str (pa_cons pe_str (pa_cons pe_str (pa_cons pe_str (pa_cons pe_str (pa_cons pe_str (pa_cons pe_str pa_nil)))))))))))))))))))
  (pss_cons (ps_set (i := 8) sc__law_spoilt.nd rfl (by first | exact Or.inl rfl | exact Or.inr rfl) (pe_op op_cat (pe_op op_cat (pe_slice sl_list (pv 8) po_none (po_some (pv 9))) (pe_ix (ixK (K := K) rfl) (pe_lst (pa_cons (pe_lst pa_nil) (pa_cons (pe_op op_rep (pe_lst (pa_cons (pe_ix (ixK (K := K) rfl) (pv 8) (pv 9) (fun _ _ => rfl)) pa_nil)) pe_int) (pa_cons (pe_lst (pa_cons (pe_ix (ixK (K := K) rfl) (pv 10) (pe_call (ok__law_next T) (hr.mono (by decide)) rfl T._law_next.m T._law_next.F.kp T._law_next.b .nil pass0 (pa_cons (pv 0) (pa_cons pe_int pa_nil))) (fun _ _ => rfl)) pa_nil)) pa_nil)))) (pe_op op_sub (pv 2) pe_int) (fun _ _ => rfl))) (pe_slice sl_list (pv 8) (po_some (pe_op op_add (pv 9) pe_int)) po_none)))
  (pss_one (ps_ret (pe_join pe_str (pe_op op_cat (pe_op op_cat (pe_slice sl_list (pv 6) po_none (po_some (pv 7))) (pe_lst (pa_cons (pe_join pe_str (pv 8)) pa_nil))) (pe_slice sl_list (pv 6) (po_some (pe_op op_add (pv 7) pe_int)) po_none))))))))))))))))), ?_⟩
  have ss := sizeLine_eq
  have nl1 : (("\n" : Str)).length = 1 := by decide
  have bl1 : ((" " : Str)).length = 1 := by decide
  -- turn
  refine g_seq ?_
  refine ⟨.ref h, rfl, ?_⟩
  refine g_cons (g_c (g_nil ?_))
  refine nx (k := 9) dr (by decide) (by decide) fun H1 tn d1 m1 t0 t9 => ?_
  refine g_name ?_
  try dsimp only
  -- at
  refine g_seq ?_
  refine ⟨.ref h, rfl, ?_⟩
  refine (ev_op (ev_lenS (z := x) (ev_var rfl) (by omega)) ev_c rv_I0) H1 (Ex.refl H1) _ fun H2 e2 => ?_
  refine g_nil ?_
  refine nx (k := (x.length : Int) + 1) (d1.mono e2) (by omega) (by omega) fun H3 at_ d3 m3 a0 a1 => ?_
  refine g_name ?_
  try dsimp only
  have M3 := (m1.trans (Mv.of e2)).trans m3
  refine q_asg ev_c fun H4 e4 => ?_
  have d4 := d3.mono e4
  have M4 := M3.trans (Mv.of e4)
  -- sign
  generalize hsg : (Str.ofString "0123456789 -\nabcdefghijklmnopqrstuvwxyz!#$&'()*+,./:;<=>?@ABCDEFGHIJKLMNOPQRSTUVWXYZ[]^_{|}~") = sg
  have lsg : sg.length = 92 := by rw [← hsg]; decide +kernel
  refine g_seq ?_
  refine ⟨.str sg, rfl, ?_⟩
  refine ⟨.ref h, rfl, ?_⟩
  refine rd_menu (xs := [13, (sg.length : Int)]) (h := h) (c := c) (ea_cons ev_c (ea_cons (ev_lenS (z := sg) (ev_var rfl) (by omega)) ea_nil)) rfl d4 rfl (by decide) (by decide) fun H5 v d5 m5 hv => ?_
  refine g_nil ?_
  have hv' : v = 13 ∨ v = 92 := by rw [lsg] at hv; simpa using hv
  refine nx d5 (by omega) (by omega) fun H6 r d6 m6 r0 r1 => ?_
  have M6 := (M4.trans m5).trans m6
  obtain ⟨rn, rfl⟩ : ∃ rn : Nat, r = (rn : Int) := ⟨r.toNat, by omega⟩
  have hrn : rn < sg.cps.toList.length := by
    have : sg.cps.toList.length = 92 := by rw [← lsg]; exact (TL.len_tl sg).symm
    omega
  refine ⟨sg, (rn : Int), sg.cps.toList[rn], rfl, rfl, by omega, atI_nat (List.getElem?_eq_getElem hrn), ?_⟩
  generalize hsn : (⟨#[sg.cps.toList[rn]]⟩ : Str) = sn
  have lsn : sn.length = 1 := by rw [← hsn]; rfl
  refine g_name ?_
  try dsimp only
  refine (show tSeq _ _ _ [some (.ref h), some (.str x), some (.int tn), some (.int at_), some (.str sg), some (.str sn), none, none, none, none, none] H6 from ?_)
  -- a sign
  refine q_when (b := decide (tn < 3)) (et_test (ev_op (ev_var rfl) ev_c rv_I0)) (fun z H7 e7 => ?_) (fun z H7 e7 => ?_)
  · have z := of_decide_eq_true z
    obtain ⟨mid, hmid, lmid⟩ : ∃ mid : Str, atI [V.str sn, V.str "", V.str sn] tn = some (.str mid) ∧ mid.length ≤ 1 := by
      rcases (show tn = 0 ∨ tn = 1 ∨ tn = 2 by omega) with rfl | rfl | rfl
      · exact ⟨sn, rfl, by omega⟩
      · exact ⟨"", rfl, by decide⟩
      · exact ⟨sn, rfl, by omega⟩
    have c1 := cutS_length x none (some at_)
    have c2 := cutS_length x (some (at_ + if (decide ((0 : Int) < tn)) = true then 1 else 0)) none
    refine s_ret (ev_addS (ev_addS (ev_slS (z := x) (ev_var rfl) eo_none (eo_some (ev_var rfl)) (by omega)) (ev_ixNL (xs := [.str sn, .str "", .str sn]) (el_lst (ea_cons (ev_var rfl) (ea_cons ev_c (ea_cons (ev_var rfl) ea_nil))) (by show 3 ≤ 100000; decide)) (fun H8 e8 => ev_var rfl) hmid) (by omega)) (ev_slS (z := x) (lo := some (at_ + if (decide ((0 : Int) < tn)) = true then 1 else 0)) (ev_var rfl) (eo_some (ev_op (ev_var rfl) (ev_intB (ev_op (ev_var rfl) ev_c rv_I0)) rv_I0)) eo_none (by omega)) (by rw [Str.length_append]; omega)) fun H8 e8 => ?_
    refine q H8 _ (d6.mono (e7.trans e8)) (M6.trans (Mv.of (e7.trans e8))) ?_
    rw [Str.length_append, Str.length_append]
    omega
  -- rows
  have z3 := of_decide_eq_false z
  have d7 := d6.mono e7
  have M7 := M6.trans (Mv.of e7)
  have wr := wt_split x ("\n" : Str) (by decide +kernel) (by decide +kernel) nl1
  have lr := split_len x ("\n" : Str) (by decide +kernel) (by decide +kernel)
  refine g_seq ?_
  refine ⟨.str x, rfl, ⟨_, rfl⟩, x, ("\n" : Str), rfl, rfl, by decide +kernel, by omega, fun R hR => ?_⟩
  generalize Txt.split x ("\n" : Str) = rows at wr lr ⊢
  refine g_name ?_
  have nR := d7.new hR
  have d8 := d7.upd (o := .lst (rows.map V.str)) nR
  have e8 : Same H7 (upd H7 R (.lst (rows.map V.str))) := Same.new hR
  have h8 : (upd H7 R (.lst (rows.map V.str))) R = some (.lst (rows.map V.str)) := upd_same
  have M8 := M7.trans (Mv.of e8)
  generalize upd H7 R (.lst (rows.map V.str)) = H8 at d8 e8 h8 M8 ⊢
  try dsimp only
  refine g_seq ?_
  refine ⟨.ref h, rfl, ?_⟩
  refine (ev_len (ev_var rfl) (SqL.of h8)) H8 (Ex.refl H8) _ fun H9 e9 => ?_
  rw [List.length_map]
  refine g_nil ?_
  refine nx (k := (rows.length : Int)) (d8.mono e9) (by omega) (by omega) fun H10 kv d10 m10 k0 k1 => ?_
  refine g_name ?_
  try dsimp only
  obtain ⟨k, rfl⟩ : ∃ k : Nat, kv = (k : Int) := ⟨kv.toNat, by omega⟩
  have hk : k < rows.length := by omega
  have M10 := (M8.trans (Mv.of e9)).trans m10
  have h10 := m10.at nR (e9 _ _ h8)
  have hrow := List.getElem?_eq_getElem hk
  generalize rows[k] = row at hrow
  have wk := wt_at hrow
  have lent := List.length_take (i := k) (l := rows)
  have lend := List.length_drop (i := k + 1) (l := rows)
  have wtd : ∀ (a : Nat), wt (rows.take a) ≤ wt rows ∧ wt (rows.drop a) ≤ wt rows := fun a => by
    have := congrArg wt (List.take_append_drop a rows)
    rw [wt_app] at this
    omega
  have ltd : ∀ (a : Nat), (rows.take a).length ≤ rows.length ∧ (rows.drop a).length ≤ rows.length := fun a => by
    rw [List.length_take, List.length_drop] ; omega
  refine (show tSeq _ _ _ [some (.ref h), some (.str x), some (.int tn), some (.int at_), some (.str sg), some (.str sn), some (.ref R), some (.int (k : Int)), none, none, none] H10 from ?_)
  refine q_when (b := decide (tn < 6)) (et_test (ev_op (ev_var rfl) ev_c rv_I0)) (fun z H11 e11 => ?_) (fun z H11 e11 => ?_)
  · have z := of_decide_eq_true z
    have h11 := e11 _ _ h10
    have kp : ∀ H1, Same H11 H1 → Ev (tOp (rI0 fun i j => V.int (i + j)) (tVar 7) (tC (V.int 1))) [some (.ref h), some (.str x), some (.int tn), some (.int at_), some (.str sg), some (.str sn), some (.ref R), some (.int (k : Int)), none, none, none] H1 (.int ((k + 1 : Nat) : Int)) := fun H1 e1 => ev_is (ev_op (ev_var rfl) ev_c rv_I0) (by show V.int ((k : Int) + 1) = _; rw [show ((k : Int) + 1) = ((k + 1 : Nat) : Int) by omega])
    refine g_ret ?_
    refine ⟨⟨_, rfl⟩, ?_⟩
    refine (el_catS (m1 := rows.take k) (m2 := rows.drop (k + 1)) (el_head (ev_var rfl) (ev_var rfl) h11 (by omega)) (el_tail (ev_var rfl) (kp H11 (Same.refl _)) h11) (by have := ltd k; have := ltd (k + 1); omega)) H11 (Ex.refl H11) _ fun a1 H12 na1 e12 ha1 => ?_
    have h12 := e12 _ _ h11
    refine (el_catS (m1 := rows.take (k + 1)) (m2 := rows.drop k) (el_head (ev_var rfl) (kp H12 e12) h12 (by omega)) (el_tail (ev_var rfl) (ev_var rfl) h12) (by have := ltd k; have := ltd (k + 1); omega)) H12 (Ex.refl H12) _ fun a2 H13 na2 e13 ha2 => ?_
    have h13 := e13 _ _ h12
    refine (el_catS (m1 := rows.drop k) (m2 := rows.take k) (el_tail (ev_var rfl) (ev_var rfl) h13) (el_head (ev_var rfl) (ev_var rfl) h13 (by omega)) (by have := ltd k; omega)) H13 (Ex.refl H13) _ fun a3 H14 na3 e14 ha3 => ?_
    refine ⟨sz_of (by show 3 ≤ 100000; decide), fun lst hlst => ?_⟩
    have e15 : Same H14 (upd H14 lst (.lst [.ref a1, .ref a2, .ref a3])) := Same.new hlst
    have h15 : (upd H14 lst (.lst [.ref a1, .ref a2, .ref a3])) lst = some (.lst [.ref a1, .ref a2, .ref a3]) := upd_same
    generalize upd H14 lst (.lst [.ref a1, .ref a2, .ref a3]) = H15 at e15 h15 ⊢
    have E15 : Same H10 H15 := (e11.trans e12).trans (Same.trans e13 (Same.trans e14 e15))
    have ha1 := (Same.trans e13 (Same.trans e14 e15)) _ _ ha1
    have ha2 := (Same.trans e14 e15) _ _ ha2
    have ha3 := e15 _ _ ha3
    obtain ⟨p, l, hp, hl, hw⟩ : ∃ (p : Addr) (l : List Str), atI [V.ref a1, V.ref a2, V.ref a3] (tn - 3) = some (.ref p) ∧ H15 p = some (.lst (l.map V.str)) ∧ wt l ≤ 2 * (x.length + 1) := by
      rcases (show tn = 3 ∨ tn = 4 ∨ tn = 5 by omega) with rfl | rfl | rfl
      · exact ⟨a1, _, rfl, ha1, by rw [wt_app]; have := wtd k; have := wtd (k + 1); omega⟩
      · exact ⟨a2, _, rfl, ha2, by rw [wt_app]; have := wtd k; have := wtd (k + 1); omega⟩
      · exact ⟨a3, _, rfl, ha3, by rw [wt_app]; have := wtd k; omega⟩
    refine ⟨.int tn, rfl, _, _, rfl, rfl, ?_⟩
    exact .inl ⟨lst, _, tn - 3, .ref p, rfl, rfl, SqL.of h15, hp, ("\n" : Str), p, l, rfl, rfl, .inl (SqL.of hl), by unfold wt at hw; rw [nl1, Nat.mul_one]; omega, q H15 _ (d10.mono E15) (M10.trans (Mv.of E15)) (by have := wt_join nl1 l; omega)⟩
  have z6 := of_decide_eq_false z
  have d11 := d10.mono e11
  have M11 := M10.trans (Mv.of e11)
  have h11 := e11 _ _ h10
  have ww := wt_split row (" " : Str) (by decide +kernel) (by decide +kernel) bl1
  have lw := split_len row (" " : Str) (by decide +kernel) (by decide +kernel)
  -- words
  refine g_seq ?_
  refine (ev_ixL (xs := rows.map V.str) (i := (k : Int)) (v := .str row) (ev_var rfl) (ev_var rfl) (SqL.of h11) (atI_nat (by rw [List.getElem?_map, hrow]; rfl))) H11 (Ex.refl H11) _ fun H12 e12 => ?_
  refine ⟨⟨_, rfl⟩, row, (" " : Str), rfl, rfl, by decide +kernel, by omega, fun W hW => ?_⟩
  generalize Txt.split row (" " : Str) = ws at ww lw ⊢
  refine g_name ?_
  have d12 := d11.mono e12
  have nW := d12.new hW
  have e13 : Same H12 (upd H12 W (.lst (ws.map V.str))) := Same.new hW
  have d13 := d12.upd (o := .lst (ws.map V.str)) nW
  have h13 : (upd H12 W (.lst (ws.map V.str))) W = some (.lst (ws.map V.str)) := upd_same
  have M13 := (M11.trans (Mv.of e12)).trans (Mv.of e13)
  have hR13 := e13 _ _ (e12 _ _ h11)
  generalize upd H12 W (.lst (ws.map V.str)) = H13 at d13 e13 h13 M13 hR13 ⊢
  try dsimp only
  refine g_seq ?_
  refine ⟨.ref h, rfl, ?_⟩
  refine (ev_len (ev_var rfl) (SqL.of h13)) H13 (Ex.refl H13) _ fun H14 e14 => ?_
  rw [List.length_map]
  refine g_nil ?_
  refine nx (k := (ws.length : Int)) (d13.mono e14) (by omega) (by omega) fun H15 jv d15 m15 j0 j1 => ?_
  refine g_name ?_
  try dsimp only
  obtain ⟨j, rfl⟩ : ∃ j : Nat, jv = (j : Int) := ⟨jv.toNat, by omega⟩
  have hj : j < ws.length := by omega
  have M15 := (M13.trans (Mv.of e14)).trans m15
  have h15 := m15.at nW (e14 _ _ h13)
  have hR15 := m15.at nR (e14 _ _ hR13)
  have hwj := List.getElem?_eq_getElem hj
  generalize ws[j] = wj at hwj
  have wwj := wt_at hwj
  have jtd : ∀ (a : Nat), (ws.take a).length ≤ ws.length ∧ (ws.drop a).length ≤ ws.length := fun a => by
    rw [List.length_take, List.length_drop] ; omega
  -- odd ones
  have odds : ∃ odd : List Str, odd = oddS ∧ odd.length = 17 ∧ ∀ z ∈ odd, z.length ≤ 6 := ⟨_, rfl, rfl, by decide +kernel⟩
  obtain ⟨odd, hodd, lodd, lo6⟩ := odds
  refine q_asgL (xs := odd.map V.str) (el_is (el_lst (ea_cons ev_c (ea_cons ev_c (ea_cons ev_c (ea_cons ev_c (ea_cons ev_c (ea_cons ev_c (ea_cons ev_c (ea_cons ev_c (ea_cons ev_c (ea_cons ev_c (ea_cons ev_c (ea_cons ev_c (ea_cons ev_c (ea_cons ev_c (ea_cons ev_c (ea_cons ev_c (ea_cons ev_c ea_nil))))))))))))))))) (by show 17 ≤ 100000; decide)) (by rw [hodd]; rfl)) fun O H16 nO e16 h16 => ?_
  have d16 := d15.mono e16
  have nO' := d15.new nO
  have M16 := M15.trans (Mv.of e16)
  have hW16 := e16 _ _ h15
  have hR16 := e16 _ _ hR15
  refine (show tSeq _ _ _ [some (.ref h), some (.str x), some (.int tn), some (.int at_), some (.str sg), some (.str sn), some (.ref R), some (.int (k : Int)), some (.ref W), some (.int (j : Int)), some (.ref O)] H16 from ?_)
  -- words[:j] + .. + words[j + 1:]
  refine g_seq ?_
  refine (el_head (l := ws) (ev_var rfl) (ev_var rfl) hW16 (by omega)) H16 (Ex.refl H16) _ fun b1 H17 nb1 e17 hb1 => ?_
  refine g_op (g_lst (g_cons ?_))
  refine (el_lst ea_nil (by decide)) H17 (Ex.refl H17) _ fun a0 H18 na0 e18 ha0 => ?_
  refine g_cons (g_op ?_)
  refine (el_lst (ea_cons (ev_ixL (xs := ws.map V.str) (i := (j : Int)) (v := .str wj) (ev_var rfl) (ev_var rfl) (SqL.of ((e17.trans e18) _ _ hW16)) (atI_nat (by rw [List.getElem?_map, hwj]; rfl))) ea_nil) (by show 1 ≤ 100000; decide)) H18 (Ex.refl H18) _ fun a1' H19 na1' e19 ha1' => ?_
  refine ⟨a1', 2, [.str wj], rfl, rfl, ha1', by decide, by decide, sz_of (by show 1 * 2 ≤ 100000; decide), fun a1 na1 => ?_⟩
  have e20 : Same H19 (upd H19 a1 (.lst [.str wj, .str wj])) := Same.new na1
  have ha1 : (upd H19 a1 (.lst [.str wj, .str wj])) a1 = some (.lst [.str wj, .str wj]) := upd_same
  refine (show tLst _ _ (upd H19 a1 (.lst [.str wj, .str wj])) _ from ?_)
  generalize upd H19 a1 (.lst [.str wj, .str wj]) = H20 at e20 ha1 ⊢
  have E20 : Same H16 H20 := (e17.trans e18).trans (Same.trans e19 e20)
  have d20 := d16.mono E20
  have hO20 := E20 _ _ h16
  refine ⟨.ref O, rfl, ?_⟩
  refine ⟨.ref h, rfl, ?_⟩
  refine g_cons (g_c (g_nil ?_))
  refine nx (k := 17) d20 (by decide) (by decide) fun H21 rv d21 m21 r0' r1' => ?_
  obtain ⟨rj, rfl⟩ : ∃ rj : Nat, rv = (rj : Int) := ⟨rv.toNat, by omega⟩
  have hrj : rj < odd.length := by omega
  have hod := List.getElem?_eq_getElem hrj
  have lod := lo6 _ (List.getElem_mem hrj)
  generalize odd[rj] = od at hod lod
  refine .inl ⟨O, _, (rj : Int), .str od, rfl, rfl, SqL.of (m21.at nO' hO20), atI_nat (by rw [List.getElem?_map, hod]; rfl), ?_⟩
  refine ⟨sz_of (by show 1 ≤ 100000; decide), fun a2 na2 => ?_⟩
  have e22 : Same H21 (upd H21 a2 (.lst [.str od])) := Same.new na2
  have ha2 : (upd H21 a2 (.lst [.str od])) a2 = some (.lst [.str od]) := upd_same
  have d22 := d21.upd (o := .lst [.str od]) (d21.new na2)
  refine (show tNil _ (upd H21 a2 (.lst [.str od])) _ from ?_)
  generalize upd H21 a2 (.lst [.str od]) = H22 at e22 ha2 d22 ⊢
  refine ⟨sz_of (by show 3 ≤ 100000; decide), fun lst hlst => ?_⟩
  have e23 : Same H22 (upd H22 lst (.lst [.ref a0, .ref a1, .ref a2])) := Same.new hlst
  have h23 : (upd H22 lst (.lst [.ref a0, .ref a1, .ref a2])) lst = some (.lst [.ref a0, .ref a1, .ref a2]) := upd_same
  have d23 := d22.mono e23
  generalize upd H22 lst (.lst [.ref a0, .ref a1, .ref a2]) = H23 at e23 h23 d23 ⊢
  have m2023 : Mv [h, c] H20 H23 := (m21.trans (Mv.of e22)).trans (Mv.of e23)
  have na0' : a0 ∉ [h, c] := (d16.mono e17).new na0
  have na1'' : a1 ∉ [h, c] := ((d16.mono (e17.trans e18)).mono e19).new na1
  have nb1' : b1 ∉ [h, c] := d16.new nb1
  have ha0 := m2023.at na0' ((Same.trans e19 e20) _ _ ha0)
  have ha1 := m2023.at na1'' ha1
  have ha2 := e23 _ _ ha2
  have hb1 := m2023.at nb1' ((Same.trans e18 (Same.trans e19 e20)) _ _ hb1)
  have hW23 := m2023.at nW (E20 _ _ hW16)
  have hR23 := m2023.at nR (E20 _ _ hR16)
  have M23 := (M16.trans (Mv.of E20)).trans m2023
  obtain ⟨p, l, hp, hl, hw, hll⟩ : ∃ (p : Addr) (l : List Str), atI [V.ref a0, V.ref a1, V.ref a2] (tn - 6) = some (.ref p) ∧ H23 p = some (.lst (l.map V.str)) ∧ wt l ≤ 2 * (wj.length + 1) + 7 ∧ l.length ≤ 2 := by
    rcases (show tn = 6 ∨ tn = 7 ∨ tn = 8 by omega) with rfl | rfl | rfl
    · exact ⟨a0, [], rfl, ha0, by show 0 ≤ _; omega, by decide⟩
    · exact ⟨a1, [wj, wj], rfl, ha1, by rw [wt_cons, wt_one]; omega, Nat.le_refl _⟩
    · exact ⟨a2, [od], rfl, ha2, by rw [wt_one]; omega, by show 1 ≤ 2; decide⟩
  refine ⟨.int tn, rfl, _, _, rfl, rfl, ?_⟩
  refine .inl ⟨lst, _, tn - 6, .ref p, rfl, rfl, SqL.of h23, hp, ?_⟩
  have jt := jtd j
  have jd := jtd (j + 1)
  refine ⟨b1, p, _, _, rfl, rfl, hb1, hl, sz_of (by rw [List.length_map, List.length_map]; omega), fun b2 nb2 => ?_⟩
  have e24 : Same H23 (upd H23 b2 (.lst ((ws.take j).map V.str ++ l.map V.str))) := Same.new nb2
  have h24 : (upd H23 b2 (.lst ((ws.take j).map V.str ++ l.map V.str))) b2 = some (.lst ((ws.take j ++ l).map V.str)) := by rw [upd_same, List.map_append]
  refine (show (tSl _ _ _ _) _ (upd H23 b2 (.lst ((ws.take j).map V.str ++ l.map V.str))) _ from ?_)
  generalize upd H23 b2 (.lst ((ws.take j).map V.str ++ l.map V.str)) = H24 at e24 h24 ⊢
  refine (el_tail (l := ws) (k := j + 1) (ev_var rfl) (ev_is (ev_op (ev_var rfl) ev_c rv_I0) (by show V.int ((j : Int) + 1) = _; rw [show ((j : Int) + 1) = ((j + 1 : Nat) : Int) by omega])) (e24 _ _ hW23)) H24 (Ex.refl H24) _ fun b3 H25 nb3 e25 hb3 => ?_
  refine ⟨b2, b3, _, _, rfl, rfl, e25 _ _ h24, hb3, sz_of (by rw [List.length_map, List.length_map, List.length_append]; omega), fun b4 nb4 => ?_⟩
  have e26 : Same H25 (upd H25 b4 (.lst ((ws.take j ++ l).map V.str ++ (ws.drop (j + 1)).map V.str))) := Same.new nb4
  have h26 : (upd H25 b4 (.lst ((ws.take j ++ l).map V.str ++ (ws.drop (j + 1)).map V.str))) b4 = some (.lst (((ws.take j ++ l) ++ ws.drop (j + 1)).map V.str)) := by rw [upd_same, List.map_append (l₁ := ws.take j ++ l)]
  refine g_name ?_
  generalize upd H25 b4 (.lst ((ws.take j ++ l).map V.str ++ (ws.drop (j + 1)).map V.str)) = H26 at e26 h26 ⊢
  have E26 : Same H23 H26 := e24.trans (Same.trans e25 e26)
  have d26 := d23.mono E26
  have M26 := M23.trans (Mv.of E26)
  have hR26 := E26 _ _ hR23
  have wn : wt ((ws.take j ++ l) ++ ws.drop (j + 1)) ≤ wt ws + (wj.length + 1) + 7 := by
    rw [wt_app, wt_app] ; omega
  generalize (ws.take j ++ l) ++ ws.drop (j + 1) = wn' at wn h26
  have wjl : wj.length + 1 ≤ wt ws := by omega
  have jl := wt_join bl1 wn'
  try dsimp only
  refine s_ret (ev_joinS nl1 (l := (rows.take k ++ [Txt.join (" " : Str) wn']) ++ rows.drop (k + 1)) (el_catS (el_catS (el_head (ev_var rfl) (ev_var rfl) hR26 (by omega)) (show EvL _ _ _ ([Txt.join (" " : Str) wn'].map V.str) from el_lst (ea_cons (ev_joinV bl1 (l := wn') (ev_var rfl) h26 (by omega)) ea_nil) (by show 1 ≤ 100000; decide)) (by rw [List.length_singleton]; have := ltd k; omega)) (el_tail (ev_var rfl) (ev_is (ev_op (ev_var rfl) ev_c rv_I0) (by show V.int ((k : Int) + 1) = _; rw [show ((k : Int) + 1) = ((k + 1 : Nat) : Int) by omega])) hR26) (by rw [List.length_append, List.length_singleton]; have := ltd k; have := ltd (k + 1); omega)) (by rw [wt_app, wt_app, wt_one]; omega)) fun H27 e27 => ?_
  refine q H27 _ (d26.mono e27) (M26.trans (Mv.of e27)) ?_
  have := wt_join nl1 ((rows.take k ++ [Txt.join (" " : Str) wn']) ++ rows.drop (k + 1))
  rw [wt_app, wt_app, wt_one] at this
  omega


end
end Dm
namespace Dm
open PySem PySem.Spec PyProof.Rows L2 Evl
section
variable {P : Program} {w : World} {K : PySem.W.Frag} {mg : Str → Option Value} {base : Heap}
/-! ### _law_kind, of what refuses with BadText -/
section
variable {σ : L2.St} {H : Hp} {ta tb : TE} {l a C dd : Addr} {xs zs ys : List V} {y c : V} {cv : Value} {fs : List (Str × V)} {b : Bool} {K : PySem.W.Frag}
theorem ev_isX (h : σ[1]? = some (some (.ref a))) (ec : ExcC K C) (hd : H dd = some (.xd fs)) (k : PySem.W.kitOne K (.ref C) cv = some b) (r : ∀ u, RelV c u → u = cv) : Ev (tCB (rIsX K a (.ref C) (some dd)) (tCons (tVar 1) (tCons (tC c) tNil))) σ H (.bl b) := fun H1 e Q q =>
  ⟨.ref a, h, ⟨c, cv, b, C, dd, fs, rfl, rfl, ec, rfl, e _ _ hd, r, k, q H1 (Ex.refl H1)⟩⟩
theorem el_cat4 (ha : Ev ta σ H (.ref l)) (hl : H l = some (.lst xs)) (hb : EvL tb σ H zs) (hz : xs.length + zs.length ≤ 100000) : EvL (tOp rCat ta tb) σ H (xs ++ zs) := fun H1 e Q q =>
  ha H1 e _ fun H2 e2 => hb H2 (e.trans e2) _ fun p H3 hp e3 h3 => ⟨l, p, xs, zs, rfl, rfl, ((e.trans e2).trans e3) _ _ hl, h3, sz_of hz, fun p4 hp4 => q p4 _ (fresh_back (e2.trans e3) hp4) ((e2.trans e3).trans (Ex.new hp4)) upd_same⟩
theorem ev_cntF (ha : Ev ta σ H (.ref l)) (hb : Ev tb σ H y) (hl : H l = some (.lst ys)) (fy : flatV y = true) (fys : ys.all flatV = true) : Ev (tBM K "list" (rCntF K) ta (tCons tb tNil)) σ H (.int (ys.countP (fun z => eqV z y) : Nat)) := fun H1 e Q q =>
  ha H1 e _ fun H2 e2 => ⟨.inl ⟨rfl, _, SqL.of ((e.trans e2) _ _ hl)⟩, hb H2 (e.trans e2) _ fun H3 e3 => ⟨l, ys, y, rfl, rfl, SqL.of (((e.trans e2).trans e3) _ _ hl), fy, fys, q H3 (e2.trans e3)⟩⟩
theorem ev_idxF {j : Nat} {z : V} (ha : Ev ta σ H (.ref l)) (hb : Ev tb σ H y) (hl : H l = some (.lst ys)) (fy : flatV y = true) (fys : ys.all flatV = true) (h1 : ys[j]? = some z) (h2 : eqV z y = true) (h3 : ∀ (m : Nat) (z' : V), m < j → ys[m]? = some z' → eqV z' y = false) :
    Ev (tBM K "list" (rIndex K) ta (tCons tb tNil)) σ H (.int (j : Nat)) := fun H1 e Q q =>
  ha H1 e _ fun H2 e2 => ⟨.inl ⟨rfl, _, SqL.of ((e.trans e2) _ _ hl)⟩, hb H2 (e.trans e2) _ fun H3 e3 => ⟨l, ys, y, j, z, rfl, rfl, SqL.of (((e.trans e2).trans e3) _ _ hl), fy, fys, h1, h2, h3, q H3 (e2.trans e3)⟩⟩
end
open LamX in
/-- told: a() refuses with BadText(z): the tuple ("BadText", z) -/
def TKind (K : PySem.W.Frag) (C : Addr) : (XK → Hp → VK → Prop) → Hp → VK → Prop := fun tl H Q =>
  tl (fun cls d H' => cls = .ref C ∧ ∃ (dd : Addr) (z : Int), d = some dd ∧ H' dd = some (.xd [("line", .int z)]) ∧ ∀ (H2 : Hp) (p : Addr), Same H' H2 → TupAt H2 p [.str "BadText", .int z] → Q (.ref p) H2) H (fun _ H1 => Q (.str Str.empty) H1)
open LamX in
theorem kind_gives {P : Program} {w : World} {X : Cx} (hK : X.K = K) (hmg : X.mg = mg) (T : Txt K mg) {q : Str} {cdg : Value} :
    GivesTo X ["_law_work", "e", "_law_kinds", "_law_word", "_law_k"] "_law_kind" (defScope s__law_kind) T._law_kind.f cdg (defBody s__law_kind) "_law_work" q (TKind K T.C_BadText) := by
  subst hK
  subst hmg
  intro f c' s H Q tl act hc h
  have sc := sc__law_kind
  refine ⟨_, pss_cons (ps_try_as (X := (cxOf C8.CX0 X.prog X.w X.K X.mg X.base ["_law_work", "e", "_law_kinds", "_law_word", "_law_k"] "_law_kind" (defScope s__law_kind) T._law_kind.f cdg X.A X.stack s H C8.E0).nox) (i := 1) (c := .ref T.C_MatchError)
      (tb := fun W D σ H => ∃ Ech : XK, (∀ (cls : Value) (d : Option Addr) (σ' : L2.St) (H' : Hp), σ'.length = 5 → Ech cls d H' → W cls d σ' H') ∧ σ[0]? = some (some (.ref f)) ∧ H c' = some (CodeO c' q) ∧ tl Ech H fun v H1 => D.nx σ H1)
      rfl rfl sc.nd rfl rfl ⟨rfl, by decide, .inl T.g_MatchError⟩ LamX.takes0 (fun W pn xe tk _ => ?_) (fun a oe cls d pn hz hf => by exact (pss_cons (ps_set (i := 2) sc__law_kind.nd rfl (by first | exact Or.inl rfl | exact Or.inr rfl) (pe_lst (pa_cons (pe_callB (call_isXK (K := X.K) hz hf) (by rfl) T.z_isinstance (by decide +kernel) (pa_cons (pv 1) (pa_cons (pe_glob (v := .ref T.C_BadThing) rfl T.g_BadThing rfl) pa_nil))) (pa_cons (pe_callB (call_isXK (K := X.K) hz hf) (by rfl) T.z_isinstance (by decide +kernel) (pa_cons (pv 1) (pa_cons (pe_glob (v := .ref T.C_BadClaims) rfl T.g_BadClaims rfl) pa_nil))) (pa_cons (pe_callB (call_isXK (K := X.K) hz hf) (by rfl) T.z_isinstance (by decide +kernel) (pa_cons (pv 1) (pa_cons (pe_glob (v := .ref T.C_BadHeld) rfl T.g_BadHeld rfl) pa_nil))) (pa_cons (pe_callB (call_isXK (K := X.K) hz hf) (by rfl) T.z_isinstance (by decide +kernel) (pa_cons (pv 1) (pa_cons (pe_glob (v := .ref T.C_BadText) rfl T.g_BadText rfl) pa_nil))) pa_nil))))))
  (pss_cons (ps_set (i := 2) sc__law_kind.nd rfl (by first | exact Or.inl rfl | exact Or.inr rfl) (pe_op op_cat (pv 2) (pe_lst (pa_cons (pe_callB (call_isXK (K := X.K) hz hf) (by rfl) T.z_isinstance (by decide +kernel) (pa_cons (pv 1) (pa_cons (pe_glob (v := .ref T.C_BadRoom) rfl T.g_BadRoom rfl) pa_nil))) (pa_cons (pe_callB (call_isXK (K := X.K) hz hf) (by rfl) T.z_isinstance (by decide +kernel) (pa_cons (pv 1) (pa_cons (pe_glob (v := .ref T.C_BadNumbers) rfl T.g_BadNumbers rfl) pa_nil))) (pa_cons (pe_callB (call_isXK (K := X.K) hz hf) (by rfl) T.z_isinstance (by decide +kernel) (pa_cons (pv 1) (pa_cons (pe_glob (v := .ref T.C_NoThing) rfl T.g_NoThing rfl) pa_nil))) pa_nil))))))
  (pss_cons (ps_set (i := 2) sc__law_kind.nd rfl (by first | exact Or.inl rfl | exact Or.inr rfl) (pe_op op_cat (pv 2) (pe_lst (pa_cons (pe_callB (call_isXK (K := X.K) hz hf) (by rfl) T.z_isinstance (by decide +kernel) (pa_cons (pv 1) (pa_cons (pe_glob (v := .ref T.C_NoHelper) rfl T.g_NoHelper rfl) pa_nil))) (pa_cons (pe_callB (call_isXK (K := X.K) hz hf) (by rfl) T.z_isinstance (by decide +kernel) (pa_cons (pv 1) (pa_cons (pe_glob (v := .ref T.C_TooMany) rfl T.g_TooMany rfl) pa_nil))) pa_nil)))))
  (pss_cons (ps_if (PW.pt (pw_or (pt_cmpR op_ne (pe_bmK (K := X.K) rfl PySem.F.plainAttrs_list PySem.F.slot_list_count PySem.F.type_list_count (mt_countFK (K := X.K)) (pv 2) (pa_cons pe_bl pa_nil)) pe_int (nomark _)) (pw_or1 (pt_not (pt_val (pe_callB (call_isXK (K := X.K) hz hf) (by rfl) T.z_isinstance (by decide +kernel) (pa_cons (pv 1) (pa_cons (pe_bltn (v := .ty "ValueError") rfl T.z_ValueError (by decide +kernel) rfl) pa_nil)))))))) (pss_one (ps_ret pe_str)) pss_nil)
  (pss_cons (ps_set (i := 3) sc__law_kind.nd rfl (by first | exact Or.inl rfl | exact Or.inr rfl) (pe_lst (pa_cons pe_str (pa_cons pe_str (pa_cons pe_str (pa_cons pe_str (pa_cons pe_str (pa_cons pe_str (pa_cons pe_str (pa_cons pe_str pa_nil))))))))))
  (pss_cons (ps_expr (pe_bmK (K := X.K) rfl PySem.F.plainAttrs_list PySem.F.slot_list_append PySem.F.type_list_append mt_append (pv 3) (pa_cons pe_str pa_nil)))
  (pss_cons (ps_set (i := 4) sc__law_kind.nd rfl (by first | exact Or.inl rfl | exact Or.inr rfl) (pe_bmK (K := X.K) rfl PySem.F.plainAttrs_list PySem.F.slot_list_index PySem.F.type_list_index (mt_indexFK (K := X.K)) (pv 2) (pa_cons pe_bl pa_nil)))
  (pss_one (ps_ret (pe_ifExp (pt_cmpR op_lt (pv 4) pe_int (nomark _)) (pe_tupF (pa_cons (pe_ix (ixK (K := X.K) rfl) (pv 3) (pv 4) (fun _ _ => rfl)) (pa_cons (pe_ifExp (pt_cmpR op_eq (pv 4) pe_int (nomark _)) (pe_xf T.e_BadText.xf T.e_BadText.noN hz hf (pv 1)) pe_nope) pa_nil))) (pe_ix (ixK (K := X.K) rfl) (pv 3) (pv 4) (fun _ _ => rfl)))))))))))))) (pss_one (ps_ret pe_str)), ?_⟩
  · refine ⟨fun pins s' σ H' D I h' => ?_⟩
    obtain ⟨Ech, hW, h1, h2, h3⟩ := h'
    have tk2 : Takes _ (fun cls d _ H => Ech cls d H) := fun u s' ⟨a, B, sI, pins, σ, H, cls, d, e, I, nb, up, sky, na, os, ag, w⟩ => tk u s' ⟨a, B, sI, pins, σ, H, cls, d, e, I, nb, up, sky, na, os, ag, hW cls d σ H I.len w⟩
    exact (pss_one (ps_expr (act _ pn xe Ech _ _ tk2 fun _ _ _ _ h => h))).run pins s' σ H' D I ⟨h1, h2, h3⟩
  · refine ⟨_, fun cls d σ' H' hl ⟨ec, dd, z, ed, hd, k⟩ => ?_, rfl, hc, h⟩
    subst ec
    subst ed
    obtain ⟨s0, s1, s2, s3, s4, rfl⟩ : ∃ s0 s1 s2 s3 s4, σ' = [s0, s1, s2, s3, s4] := by
      match σ', hl with
      | [s0, s1, s2, s3, s4], _ => exact ⟨s0, s1, s2, s3, s4, rfl⟩
    refine ⟨true, T.x_BadText, fun _ a na => ?_, fun z => nomatch z⟩
    have ec := T.e_BadText.ec
    have h1 : ([s0, some (.ref a), s2, s3, s4] : L2.St)[1]? = some (some (.ref a)) := rfl
    have fl : ∀ c : Addr, ∀ u, RelV (.ref c) u → u = .ref c := fun _ _ r => r
    refine q_asgL (el_lst (ea_cons (ev_isX h1 ec hd T.i_BadText_BadThing (fl _)) (ea_cons (ev_isX h1 ec hd T.i_BadText_BadClaims (fl _)) (ea_cons (ev_isX h1 ec hd T.i_BadText_BadHeld (fl _)) (ea_cons (ev_isX h1 ec hd T.i_BadText_BadText (fl _)) ea_nil)))) (by show 4 ≤ 100000; decide)) fun p1 H1 n1 e1 l1 => ?_
    have hd1 := e1 _ _ hd
    refine q_asgL (el_cat4 (ev_var rfl) l1 (el_lst (ea_cons (ev_isX rfl ec hd1 T.i_BadText_BadRoom (fl _)) (ea_cons (ev_isX rfl ec hd1 T.i_BadText_BadNumbers (fl _)) (ea_cons (ev_isX rfl ec hd1 T.i_BadText_NoThing (fl _)) ea_nil))) (by show 3 ≤ 100000; decide)) (by show 4 + 3 ≤ 100000; decide)) fun p2 H2 n2 e2 l2 => ?_
    have hd2 := e2 _ _ hd1
    refine q_asgL (el_cat4 (ev_var rfl) l2 (el_lst (ea_cons (ev_isX rfl ec hd2 T.i_BadText_NoHelper (fl _)) (ea_cons (ev_isX rfl ec hd2 T.i_BadText_TooMany (fl _)) ea_nil)) (by show 2 ≤ 100000; decide)) (by show 7 + 2 ≤ 100000; decide)) fun p3 H3 n3 e3 l3 => ?_
    have hd3 := e3 _ _ hd2
    refine q_when (b := false) (et_is (et_or (et_test (ev_op (ev_cntF (ev_var rfl) ev_c l3 rfl rfl) ev_c rv_neI)) fun _ => et_not (et_B (ev_isX rfl ec hd3 T.i_BadText_ValueError (fun _ r => r)))) rfl) (fun z => nomatch z) fun _ H4 e4 => ?_
    have hd4 := e4 _ _ hd3
    have l4 := e4 _ _ l3
    refine q_asgL (el_lst (ea_cons ev_c (ea_cons ev_c (ea_cons ev_c (ea_cons ev_c (ea_cons ev_c (ea_cons ev_c (ea_cons ev_c (ea_cons ev_c ea_nil)))))))) (by show 8 ≤ 100000; decide)) fun p5 H5 n5 e5 l5 => ?_
    have hd5 := e5 _ _ hd4
    have l45 := e5 _ _ l4
    have n35 : p3 ≠ p5 := ne_of_none l4 n5
    have ndd5 : dd ≠ p5 := ne_of_none hd4 n5
    refine q_app l5 (ev_var rfl) ev_c (by show 8 < 100000; decide) fun H6 e6 => ?_
    have E4 := ((e1.trans e2).trans e3).trans e4
    have m7 : ∀ o, Same H' (upd H6 p5 o) := fun o => Same.put ((E4.trans e5).trans e6) (fresh_back E4 n5)
    have l7 : ∀ o, (upd H6 p5 o) p3 = some (.lst [.bl false, .bl false, .bl false, .bl true, .bl false, .bl false, .bl false, .bl false, .bl false]) := fun o => by rw [upd_ne n35]; exact e6 _ _ l45
    have w7 : (upd H6 p5 (.lst ([.str "BadThing", .str "BadClaims", .str "BadHeld", .str "BadText", .str "BadRoom", .str "BadNumbers", .str "NoThing", .str "NoHelper"] ++ [.str "TooMany"]))) p5 = some (.lst [.str "BadThing", .str "BadClaims", .str "BadHeld", .str "BadText", .str "BadRoom", .str "BadNumbers", .str "NoThing", .str "NoHelper", .str "TooMany"]) := upd_same
    have m7' := m7 (.lst ([.str "BadThing", .str "BadClaims", .str "BadHeld", .str "BadText", .str "BadRoom", .str "BadNumbers", .str "NoThing", .str "NoHelper"] ++ [.str "TooMany"]))
    have l7' := l7 (.lst ([.str "BadThing", .str "BadClaims", .str "BadHeld", .str "BadText", .str "BadRoom", .str "BadNumbers", .str "NoThing", .str "NoHelper"] ++ [.str "TooMany"]))
    generalize (upd H6 p5 (.lst ([.str "BadThing", .str "BadClaims", .str "BadHeld", .str "BadText", .str "BadRoom", .str "BadNumbers", .str "NoThing", .str "NoHelper"] ++ [.str "TooMany"]))) = H7 at w7 m7' l7' ⊢
    refine q_asg (ev_idxF (j := 3) (z := .bl true) (ev_var rfl) ev_c l7' rfl rfl rfl rfl (fun m z' hm hz' => ?_)) fun H8 e8 => ?_
    · match m, hm with
      | 0, _ => cases hz'; rfl
      | 1, _ => cases hz'; rfl
      | 2, _ => cases hz'; rfl
    have M8 := m7'.trans e8
    have w8 := e8 _ _ w7
    refine g_ret ?_
    refine (et_test (b := true) (ev_op (ev_var rfl) ev_c rv_I0)) H8 (Ex.refl H8) _ fun H9 e9 => ?_
    refine g_true ?_
    have hd9 := e9 _ _ (M8 _ _ hd)
    refine eF_tup (vs := [.str "BadText", .int z]) (ea_cons (ev_ixL (i := 3) (ev_var rfl) (ev_var rfl) (SqL.of (e9 _ _ w8)) (show atI _ ((3 : Nat) : Int) = _ from atI_nat rfl)) (ea_cons (ev_if (b := true) (et_test (ev_op (ev_var rfl) ev_c rv_eqI)) (fun _ H10 e10 Q10 q10 => ?_) fun z => nomatch z) ea_nil)) (by show 2 ≤ 100000; decide) fun H10 p e10 _ t10 => ?_
    · exact ⟨.ref a, rfl, rfl, rfl, dd, [("line", .int z)], .int z, rfl, e10 _ _ hd9, rfl, q10 _ (Ex.refl _)⟩
    · exact k H10 p ((M8.trans e9).trans e10) t10
/-! ### what the law needs -/
section
variable {H H' : Hp} {e : Addr}
theorem xts (x : LamX.ExtN H H') : Tst H H' := fun a o ys e => x a _ e (fun ps z => by cases z)
theorem xlst {xs : List V} (x : LamX.ExtN H H') (h : H e = some (.lst xs)) : H' e = some (.lst xs) := x _ _ h fun ps z => by cases z
theorem xdr {h c : Addr} (x : LamX.ExtN H H') (d : Dr H h c) : Dr H' h c := by
  obtain ⟨a, b, cs, h1, h2, r⟩ := d
  exact ⟨a, b, cs, xlst x h1, xlst x h2, r⟩
end
section
variable {H : Hp}
/-- ("BadText", k) -/
theorem dp_bad {p : Addr} {k : Nat} (t : TupAt H p [.str "BadText", .int (k : Int)]) : Dp K H (.ref p) (.tuple [.str "BadText", .int (k : Int)]) := .tup t.sq (.cons (.str _) (.cons (.int _) .nil))
theorem sh_bad {k : Nat} : SeqAt.shaped (.tuple [.str "BadText", .int (k : Int)]) = true ∧ PyData.eqv (.tuple [.str "BadText", .int (k : Int)]) (.tuple [.str "BadText", .int (k : Int)]) = true := by
  refine ⟨?_, ?_⟩
  · show SeqAt.shaped _ = true
    unfold SeqAt.shaped
    rw [Bool.and_eq_true]
    exact ⟨by simp [PyData.canLay0, PyData.canLayAll0]; decide +kernel, by first | rfl | (simp [PyData.depth, PyData.depths]) | decide⟩
  · simp [PyData.eqv, PyData.eqvAll]
end


end
end Dm
namespace Dm
open PySem PySem.Spec PyProof.Rows L2 Evl
section
variable {P : Program} {w : World} {K : PySem.W.Frag} {mg : Str → Option Value} {base : Heap}
/-! ### the law: what it needs -/
section
variable {σ : L2.St} {H : Hp}
theorem ev_times {ta tb : TE} {z : Str} {n : Int} (ha : Ev ta σ H (.str z)) (hb : Ev tb σ H (.int n)) (n0 : 0 ≤ n) (n1 : n ≤ 1000) (lz : z.length ≤ 1000) : Ev (tOp rTimes ta tb) σ H (.str (strRep z n)) := fun H1 e Q q =>
  ha H1 e _ fun H2 e2 => hb H2 (e.trans e2) _ fun H3 e3 => ⟨z, n, rfl, rfl, n0, n1, lz, q H3 (e2.trans e3)⟩
end
theorem from0_nums {ns : List Int} (h : From0 ns) (hl : ns.length ≤ 16) : OkNums ns := by
  refine ⟨hl, ?_, fun n hn => ?_⟩
  · rw [h, List.pairwise_map]
    exact List.pairwise_lt_range.imp fun h => by omega
  · obtain ⟨j, hj⟩ := List.mem_iff_getElem?.mp hn
    have := h.get hj
    have := (List.getElem?_eq_some_iff.mp hj).1
    omega
theorem numG_mem {α : Type} {is : List α} {t : Int × α} (h : t ∈ numG is) : t.2 ∈ is := by
  have : t.2 ∈ (numG is).map (·.2) := List.mem_map.mpr ⟨t, h, rfl⟩
  rwa [numG_snd] at this
theorem numG_ok {is : List Th} (h : ∀ t ∈ is, Th.ok 2 t) (hl : is.length ≤ 16) : OkThings (numG is) :=
  ⟨from0_nums (numG_from is) (by rw [List.length_map, numG_len]; exact hl), fun t ht => h t.2 (numG_mem ht)⟩
theorem from0_snoc {ns : List Int} (h : From0 ns) : From0 (ns ++ [(ns.length : Int)]) := by
  unfold From0 at h ⊢
  rw [List.length_append, List.length_singleton, List.range_succ, List.map_append, ← h] ; rfl
theorem ts_short {i : Int} (h : small i) : (tsI i).length ≤ 2 := by
  rcases small_eq h with rfl | rfl | rfl | rfl | rfl | rfl | rfl | rfl | rfl | rfl | rfl <;> decide +kernel
theorem Rw.short {x : Rw} (h : x.ok) : x.str.length ≤ 20 := by
  have z := join_len (" " : Str) (x.head :: x.ints.map tsI)
  rw [← Rw.str_join h] at z
  have z1 : ((" " : Str)).length = 1 := by decide
  have hh : x.head.length ≤ 6 := by
    cases x with
    | th d m => show (Str.ofString "thing").length ≤ 6; decide +kernel
    | hp k => show (Str.ofString "helper").length ≤ 6; decide +kernel
    | cl c => show (Str.ofString "claim").length ≤ 6; decide +kernel
  have hi : x.ints.length ≤ 4 := by
    cases x with
    | th d m => have := h.2.1; show m.length + 1 ≤ 4; omega
    | hp k => show 1 ≤ 4; decide
    | cl c => have := h.1; show (c.1 ++ [c.2]).length ≤ 4; rw [List.length_append, List.length_singleton]; omega
  have hs := sum_le (l := x.ints.map tsI) (k := 2) fun s hs => by
    obtain ⟨i, hi, rfl⟩ := List.mem_map.mp hs
    exact ts_short (Rw.ok.small h i hi)
  rw [List.length_map] at hs
  rw [z1, List.map_cons, List.sum_cons, List.length_cons, List.length_map] at z
  omega
theorem text_len {ts : List (Int × Th)} {hs : List Hlp} (okt : OkThings ts) (okh : OkHelpers hs) (l4 : ts.length ≤ 4) (h4 : hs.length ≤ 4) : (Txt.join ("\n" : Str) (rowsW ts hs)).length ≤ 2500 := by
  have l1 := flat_len (f := fun t : Int × Th => rowsM 2 0 t.2) (l := ts) (k := 16) fun t ht => rows_len (okt.ok t ht)
  have l3 := flat_len (f := fun h : Hlp => rowsH h.2.1 h.2.2) (l := hs) (k := 7) fun h hh => (rowsH_all (okh.ok h hh).1 (okh.ok h hh).2.1 (okh.ok h hh).2.2).2
  have cnt : (rowsW ts hs).length ≤ 92 := by unfold rowsW; rw [List.length_append]; omega
  have ot : ∀ t ∈ ts.map (·.2), Th.ok 2 t := fun t ht => by
    obtain ⟨z, hz, rfl⟩ := List.mem_map.mp ht
    exact okt.ok z hz
  have rok := rowsAll_ok ot okh.ok
  have bnd : ∀ r ∈ rowsW ts hs, r.length ≤ 20 := fun r hr => by
    rw [← rowsAll_str ts hs] at hr
    obtain ⟨x, hx, rfl⟩ := List.mem_map.mp hr
    exact Rw.short (rok x hx)
  have z := join_len ("\n" : Str) (rowsW ts hs)
  have z1 : (("\n" : Str)).length = 1 := by decide
  have z2 := sum_le bnd
  rw [z1] at z
  omega
theorem fineS {S : RdS} (o : SOk 30001 S) : Fint 9 (.tuple [.list ((numG S.ts).map tgD), .list ((numG S.hs).map hpD)]) := by
  have l1 := o.lt
  have l2 := o.lh
  refine .tuple (n := 8) (by simp) fun d hd => ?_
  simp only [List.mem_cons, List.not_mem_nil, or_false] at hd
  rcases hd with rfl | rfl
  · refine .list (n := 7) (by rw [List.length_map, numG_len]; omega) fun d hd => ?_
    obtain ⟨t, h, rfl⟩ := List.mem_map.mp hd
    exact fine_tg (o.ok t.2 (numG_mem h))
  · refine .list (n := 7) (by rw [List.length_map, numG_len]; omega) fun d hd => ?_
    obtain ⟨t, h, rfl⟩ := List.mem_map.mp hd
    exact (fine_hp (h := t) (o.oh t.2 (numG_mem h)).1).le (by omega)
/-- the texts that the law holds ready -/
def someS : List Str := ((([Str.ofString "", Str.ofString "\n", Str.ofString "thing 0 1 2 3", Str.ofString "thing 1 1 2 3", Str.ofString "thing 0 -1 2 3", Str.ofString "helper 4", Str.ofString "helper 5", Str.ofString "claim 1 1 1 1"]
  ++ [Str.ofString "helper 0\nclaim -1 -1 -1 0", Str.ofString "helper 0\nclaim 0 0 0 -1", Str.ofString "helper 0\nthing 0 1 2 3", Str.ofString "helper 0 "])
  ++ [Str.ofString "thing 0 1 2 3" ++ strRep (Str.ofString "\nthing 1 1 2 3") 4]) ++ [Str.ofString "helper 4" ++ strRep (Str.ofString "\nclaim 1 1 1 1") 7])
  ++ [Str.ofString "thing 0 1 2 3\n", Str.ofString "helper 4\n", Str.ofString "thing 0 1 2 3\n\nhelper 4"]
theorem someS_len : someS.length = 17 := rfl
theorem someS_short : ∀ x ∈ someS, x.length ≤ 200 := by decide +kernel


end
end Dm
namespace Dm
open PySem PySem.Spec PyProof.Rows L2 Evl
section
variable {P : Program} {w : World} {K : PySem.W.Frag} {mg : Str → Option Value} {base : Heap}
/-! ### the law -/
def spLaw (K : PySem.W.Frag) (lp : Addr) : Sp := fun vs H Q _ => ∃ (a : Addr) (ns : List Int), vs = [.ref a] ∧ SqL K H a (ns.map V.int) ∧ ns.length ≤ 63 ∧ H lp = some (.tbl #[]) ∧ ∀ H', Q (.bl true) H'
/-- the name of law's lambda -/
def qLaw : Str := (envOfC "law" (defScope s_law) 0 0 .none).qual ++ "<lambda>"
theorem ok_law (T : Txt K mg) (TB : TabB base mg T.lc_law T.lp_law) (hP : ProgF P T.fileN) (hD : FigW K w T.D_FIGURES) : FnOk P w K mg base CX0 11 T.law.f T.law.fd ["_law_script"] (spLaw K T.lp_law) := by
  refine Fun_okC T.law.F T.lk_law sc_law (fun vs H Q E h => ?_) (fun A outer s H vs Q E hr h => ?_)
  · obtain ⟨a, ns, rfl, _⟩ := h ; rfl
  have hcode : (envOfC "law" (defScope s_law) s.heap.objs.size T.law.f (.ref T.lc_law)).code = .ref T.lc_law := rfl
  obtain ⟨oc, od, kV, doc, pm, an, cdvK, ct, osl, efd, lkK, hcK⟩ := T._law_kind.F.ex
  have bK := T._law_kind.b
  rw [efd] at lkK bK
  obtain ⟨a, ns, rfl, hS, hl, htb, q⟩ := h
  refine ⟨_, (pss_cons (ps_set (i := 1) sc_law.nd rfl (by first | exact Or.inl rfl | exact Or.inr rfl) (pe_call (ok__law_mix T) (hr.mono (by decide)) rfl T._law_mix.m T._law_mix.F.kp T._law_mix.b .nil pass0 (pa_cons (pv 0) (pa_cons pe_int pa_nil))))
  (pss_cons (ps_set (i := 2) sc_law.nd rfl (by first | exact Or.inl rfl | exact Or.inr rfl) (pe_lst (pa_cons pe_str (pa_cons pe_str (pa_cons pe_str (pa_cons pe_str (pa_cons pe_str (pa_cons pe_str (pa_cons pe_str (pa_cons pe_str pa_nil))))))))))
  (pss_cons (ps_set (i := 2) sc_law.nd rfl (by first | exact Or.inl rfl | exact Or.inr rfl) (pe_op op_cat (pv 2) (pe_lst (pa_cons pe_str (pa_cons pe_str (pa_cons pe_str (pa_cons pe_str pa_nil)))))))
  (pss_cons (ps_expr (pe_bm PySem.F.plainAttrs_list PySem.F.slot_list_append PySem.F.type_list_append mt_append (pv 2) (pa_cons (pe_op op_add_str pe_str (pe_op op_times pe_str pe_int)) pa_nil)))
  (pss_cons (ps_expr (pe_bm PySem.F.plainAttrs_list PySem.F.slot_list_append PySem.F.type_list_append mt_append (pv 2) (pa_cons (pe_op op_add_str pe_str (pe_op op_times pe_str pe_int)) pa_nil)))
  (pss_cons (ps_set (i := 2) sc_law.nd rfl (by first | exact Or.inl rfl | exact Or.inr rfl) (pe_op op_cat (pv 2) (pe_lst (pa_cons pe_str (pa_cons pe_str (pa_cons pe_str pa_nil))))))
  (pss_cons (ps_for PassesOwn.never rfl (pi_range1 rfl T.z_range (pa_cons pe_int pa_nil)) (pg_name (i := 3) sc_law.nd rfl (by first | exact Or.inl rfl | exact Or.inr rfl))
  (pss_cons (ps_set (i := 4) sc_law.nd rfl (by first | exact Or.inl rfl | exact Or.inr rfl) (pe_listEnum (K := K) rfl rfl (by rfl) T.z_list (by rfl) T.z_enumerate (pa_cons (pe_lc (own := [("_law_k", 9)]) rfl sc_law.nd (pi_range1 rfl T.z_range (pa_cons (pe_call (ok__law_next T) (hr.mono (by decide)) rfl T._law_next.m T._law_next.F.kp T._law_next.b .nil pass0 (pa_cons (pv 1) (pa_cons pe_int pa_nil))) pa_nil)) (blkOk_by (own := [("_law_k", 9)]) (N := ["_law_script", "_law_h", "_law_some", "_law_turn", "_law_things", "_law_text", "_law_change", "_law_one", "_law_due_here", "_law_k"]) (sc := defScope s_law) (by decide +kernel)) (fun _ _ _ _ _ => by exact (pg_name (i := 9) sc_law.nd rfl (by first | exact Or.inl rfl | exact Or.inr rfl))) (fun _ _ _ _ _ => pts_nil) (fun _ _ _ _ _ => (pe_call (ok__law_thing T 3) (hr.mono (by decide)) rfl T._law_thing.m T._law_thing.F.kp T._law_thing.b .nil pass0 (pa_cons (pv 1) (pa_cons pe_int pa_nil))))) pa_nil)))
  (pss_cons (ps_set (i := 5) sc_law.nd rfl (by first | exact Or.inl rfl | exact Or.inr rfl) (pe_call (ok_written T) (hr.mono (by decide)) rfl T.written.m T.written.F.kp T.written.b .nil pass0 (pa_cons (pv 4) (pa_cons (pe_lc (own := [("_law_k", 9)]) rfl sc_law.nd (pi_range1 rfl T.z_range (pa_cons (pe_call (ok__law_next T) (hr.mono (by decide)) rfl T._law_next.m T._law_next.F.kp T._law_next.b .nil pass0 (pa_cons (pv 1) (pa_cons pe_int pa_nil))) pa_nil)) (blkOk_by (own := [("_law_k", 9)]) (N := ["_law_script", "_law_h", "_law_some", "_law_turn", "_law_things", "_law_text", "_law_change", "_law_one", "_law_due_here", "_law_k"]) (sc := defScope s_law) (by decide +kernel)) (fun _ _ _ _ _ => by exact (pg_name (i := 9) sc_law.nd rfl (by first | exact Or.inl rfl | exact Or.inr rfl))) (fun _ _ _ _ _ => pts_nil) (fun _ _ _ _ _ => (pe_tupF (pa_cons (pv 9) (pa_cons (pe_call (ok__law_claims T) (hr.mono (by decide)) rfl T._law_claims.m T._law_claims.F.kp T._law_claims.b .nil pass0 (pa_cons (pv 1) pa_nil)) (pa_cons (pe_call (ok__law_next T) (hr.mono (by decide)) rfl T._law_next.m T._law_next.F.kp T._law_next.b .nil pass0 (pa_cons (pv 1) (pa_cons pe_int pa_nil))) pa_nil)))))) pa_nil))))
  (pss_cons (ps_for PassesOwn.never rfl (pi_range1 rfl T.z_range (pa_cons (pe_call (ok__law_next T) (hr.mono (by decide)) rfl T._law_next.m T._law_next.F.kp T._law_next.b .nil pass0 (pa_cons (pv 1) (pa_cons pe_int pa_nil))) pa_nil)) (pg_name (i := 6) sc_law.nd rfl (by first | exact Or.inl rfl | exact Or.inr rfl))
  (pss_one (ps_set (i := 5) sc_law.nd rfl (by first | exact Or.inl rfl | exact Or.inr rfl) (pe_call (ok__law_spoilt T) (hr.mono (by decide)) rfl T._law_spoilt.m T._law_spoilt.F.kp T._law_spoilt.b .nil pass0 (pa_cons (pv 1) (pa_cons (pv 5) pa_nil))))))
  (pss_cons (ps_set (i := 5) sc_law.nd rfl (by first | exact Or.inl rfl | exact Or.inr rfl) (pe_op op_add_str (pv 5) (pe_op op_times pe_str (pe_op op_fdivN (pe_call (ok__law_next T) (hr.mono (by decide)) rfl T._law_next.m T._law_next.F.kp T._law_next.b .nil pass0 (pa_cons (pv 1) (pa_cons pe_int pa_nil))) pe_int))))
  (pss_one (ps_for PassesOwn.never rfl (pi_listK (K := K) rfl (pe_lst (pa_cons (pv 5) (pa_cons (pe_ix (ixK (K := K) rfl) (pv 2) (pe_call (ok__law_next T) (hr.mono (by decide)) rfl T._law_next.m T._law_next.F.kp T._law_next.b .nil pass0 (pa_cons (pv 1) (pa_cons (pe_callB (lenK (K := K) rfl) (by rfl) T.z_len PySem.boot_len (pa_cons (pv 2) pa_nil)) pa_nil))) (fun _ _ => rfl)) pa_nil)))) (pg_name (i := 7) sc_law.nd rfl (by first | exact Or.inl rfl | exact Or.inr rfl))
  (pss_cons (ps_set (i := 8) sc_law.nd rfl (by first | exact Or.inl rfl | exact Or.inr rfl) (pe_call (ok__law_due T) (hr.mono (by decide)) rfl T._law_due.m T._law_due.F.kp T._law_due.b .nil pass0 (pa_cons (pv 7) pa_nil)))
  (pss_one (ps_if (pt_val (pe_callB (isiK (K := K) rfl) (by rfl) T.z_isinstance (by decide +kernel) (pa_cons (pv 8) (pa_cons (pe_bltn (v := .ty "tuple") rfl T.z_tuple (by decide +kernel) rfl) pa_nil)))) (pss_one (ps_if (pt_cmpR (neDK (K := K) rfl hr.units) (LamX.pe_lamcall (T := [(T.lp_law, qLaw)]) (TT := TKind K T.C_BadText) (k := 7) (t := fun E => tCall (spReadX T.C_BadText) [] E (tCons (tVar 7) tNil)) rfl T._law_kind.m T._law_kind.F.kp lkK hcK bK sc__law_kind rfl (.inl rfl) (kind_gives (P := P) (w := w) (K := K) (mg := mg) rfl rfl T) TB hcode (List.mem_singleton.mpr rfl) (fun p hp _ => by rw [List.mem_singleton.mp hp]; rfl) (hr.mono (by decide)) (LamX.lamS_by (sc := defScope s_law) (by decide +kernel)) rfl (fun _ _ _ _ _ => rfl) (fun A outer s H E f c2 hr2 => by exact (pe_call (ok_readX T hP hD) hr2 rfl T.read.m T.read.F.kp T.read.b .nil (passes_call (takes_of rfl rfl rfl rfl) fun _ _ _ _ h => h) (pa_cons (pv 7) pa_nil)))) (pv 8) (nomark _)) (pss_one (ps_ret pe_bl)) pss_nil)) (pss_one (ps_if (pt_not (pt_val (pe_call (ok__law_alike T 10) (hr.mono (by decide)) rfl T._law_alike.m T._law_alike.F.kp T._law_alike.b .nil pass0 (pa_cons (pe_call (ok_read T hD) (hr.mono (by decide)) rfl T.read.m T.read.F.kp T.read.b .nil pass0 (pa_cons (pv 7) pa_nil)) (pa_cons (pe_callTy (tupleK (K := K) rfl) (by rfl) T.z_tuple (by decide +kernel) (pa_cons (pv 8) pa_nil)) pa_nil))))) (pss_one (ps_ret pe_bl)) pss_nil))))))))))))
  (pss_one (ps_ret pe_bl))))))))), ?_⟩
  have t0 : TabS H T.lp_law qLaw := LamX.TabS.nil htb
  refine ⟨.ref a, rfl, a, ns, 47, rfl, hS, hl, by decide, by decide, fun H1 h c d1 x1 _ _ => ?_⟩
  -- the texts held ready
  refine q_asgL (el_lst (ea_cons ev_c (ea_cons ev_c (ea_cons ev_c (ea_cons ev_c (ea_cons ev_c (ea_cons ev_c (ea_cons ev_c (ea_cons ev_c ea_nil)))))))) (by show 8 ≤ 100000; decide)) fun s1 H2 n1 e1 h1 => ?_
  refine q_asgL (el_cat4 (ev_var rfl) h1 (el_lst (ea_cons ev_c (ea_cons ev_c (ea_cons ev_c (ea_cons ev_c ea_nil)))) (by show 4 ≤ 100000; decide)) (by show 8 + 4 ≤ 100000; decide)) fun s2 H3 n2 e2 h2 => ?_
  have f2 : H1 s2 = none := ex_free e1 n2
  refine q_app h2 (ev_var rfl) (ev_addS ev_c (ev_times ev_c ev_c (by decide) (by decide) (by decide +kernel)) (by decide +kernel)) (by show 12 < 100000; decide) fun H4 e4 => ?_
  have E4 := Same.put ((e1.trans e2).trans e4) f2 (o := .lst (([.str (Str.ofString ""), .str (Str.ofString "\n"), .str (Str.ofString "thing 0 1 2 3"), .str (Str.ofString "thing 1 1 2 3"), .str (Str.ofString "thing 0 -1 2 3"), .str (Str.ofString "helper 4"), .str (Str.ofString "helper 5"), .str (Str.ofString "claim 1 1 1 1")] ++ [.str (Str.ofString "helper 0\nclaim -1 -1 -1 0"), .str (Str.ofString "helper 0\nclaim 0 0 0 -1"), .str (Str.ofString "helper 0\nthing 0 1 2 3"), .str (Str.ofString "helper 0 ")]) ++ [.str (Str.ofString "thing 0 1 2 3" ++ strRep (Str.ofString "\nthing 1 1 2 3") 4)]))
  refine q_app upd_same (ev_var rfl) (ev_addS ev_c (ev_times ev_c ev_c (by decide) (by decide) (by decide +kernel)) (by decide +kernel)) (by show 13 < 100000; decide) fun H5 e5 => ?_
  have E5 := Same.put (E4.trans e5) f2 (o := .lst ((([.str (Str.ofString ""), .str (Str.ofString "\n"), .str (Str.ofString "thing 0 1 2 3"), .str (Str.ofString "thing 1 1 2 3"), .str (Str.ofString "thing 0 -1 2 3"), .str (Str.ofString "helper 4"), .str (Str.ofString "helper 5"), .str (Str.ofString "claim 1 1 1 1")] ++ [.str (Str.ofString "helper 0\nclaim -1 -1 -1 0"), .str (Str.ofString "helper 0\nclaim 0 0 0 -1"), .str (Str.ofString "helper 0\nthing 0 1 2 3"), .str (Str.ofString "helper 0 ")]) ++ [.str (Str.ofString "thing 0 1 2 3" ++ strRep (Str.ofString "\nthing 1 1 2 3") 4)]) ++ [.str (Str.ofString "helper 4" ++ strRep (Str.ofString "\nclaim 1 1 1 1") 7)]))
  refine q_asgL (el_cat4 (ev_var rfl) upd_same (el_lst (ea_cons ev_c (ea_cons ev_c (ea_cons ev_c ea_nil))) (by show 3 ≤ 100000; decide)) (by show 14 + 3 ≤ 100000; decide)) fun sm H6 n6 e6 h6 => ?_
  have E6 := E5.trans e6
  have ns : sm ∉ [h, c] := (d1.mono E5).new n6
  have h6 : H6 sm = some (.lst (someS.map V.str)) := h6
  have ls := someS_len
  have sh := someS_short
  generalize someS = l at h6 ls sh
  have ss := sizeLine_eq
  refine q_forR1 (n := 5) (ea_cons ev_c ea_nil) (by decide) (fun i σ H' => (∃ y3 y4 y5 y6 y7 y8 y9 : Option V, σ = [some (.ref a), some (.ref h), some (.ref sm), y3, y4, y5, y6, y7, y8, y9]) ∧ Dr H' h c ∧ TabS H' T.lp_law qLaw ∧ H' sm = some (.lst (l.map V.str))) (fun H7 x7 => ⟨⟨_, _, _, _, _, _, _, rfl⟩, (d1.mono E6).mono x7, ((t0.ext x1).ext E6).ext x7, x7 _ _ h6⟩) (fun i σ H2 hi p => ?_) (fun σ H2 p => s_ret ev_c fun H3 _ => q H3)
  obtain ⟨⟨y3, y4, y5, y6, y7, y8, y9, rfl⟩, d2, tb2, hs2⟩ := p
  -- the things
  refine g_seq ?_
  refine ⟨.ref h, rfl, ?_⟩
  try dsimp only
  refine g_cons (g_c (g_nil ?_))
  refine nx (k := 5) d2 (by decide) (by decide) fun H3 n d3 m3 n0 n1 => ?_
  refine g_nil ⟨n, rfl, by omega, by omega, fun L hL => ?_⟩
  have nL := d3.new hL
  refine lc_range (lo := 0) (n := n.toNat) (fun i H' => Dr H' h c ∧ Mv [h, c] H3 H' ∧ ∃ (vs : List V) (is : List Th), H' L = some (.lst vs) ∧ Tps H' vs (is.map Th.d) ∧ is.length = i ∧ ∀ t ∈ is, Th.ok 2 t) ⟨d3.upd nL, Mv.of (Same.new hL), [], [], upd_same, .nil, rfl, by simp⟩ (fun i H' hi p => ?_) (fun H4 p => ?_)
  · obtain ⟨d4, m4, vs, is, e4, t4, l4, o4⟩ := p
    refine ⟨rfl, ⟨.ref h, rfl, ?_⟩⟩
    try dsimp only
    refine g_cons (g_c (g_nil ?_))
    refine ⟨h, c, rfl, d4, fun H5 v t d5 m5 t5 o5 => ?_⟩
    have e5 := m5.at nL e4
    have lv := t4.length
    rw [List.length_map] at lv
    have m6 : Mv [L] H5 (upd H5 L (.lst (vs ++ [v]))) := (Mv.refl [L] H5).upd' (by simp) (fun u xs z => by rw [e5] at z; cases z)
    refine ⟨vs, e5, sz_lt (by omega), d5.upd nL, (m4.trans m5).upd hL, vs ++ [v], is ++ [t], upd_same, ?_, by rw [List.length_append, l4]; rfl, fun u hu => ?_⟩
    · rw [List.map_append]
      exact ((t4.mono m5.ts).mono m6.ts).append (.cons (t5.mono m6.ts) .nil)
    · rcases List.mem_append.mp hu with hu | hu
      · exact o4 u hu
      · rw [List.mem_singleton.mp hu] ; exact o5
  obtain ⟨d4, m4, vs, is, e4, t4, l4, o4⟩ := p
  refine ⟨L, vs, rfl, SqL.of e4, fun lt bs H5 e5 nlt lb hlt tps => ?_⟩
  have lv := t4.length
  rw [List.length_map] at lv
  have li4 : is.length ≤ 4 := by omega
  have okt := numG_ok o4 (by omega)
  have f1 := numG_from is
  have tx5 : Tps H5 (bs.map V.ref) ((numG is).map tgD) := Tps.of_get (by rw [List.length_map, List.length_map, numG_len]; omega) fun j v d hv hd => by
    rw [List.getElem?_map, Option.map_eq_some_iff] at hv hd
    obtain ⟨b, hb, rfl⟩ := hv
    obtain ⟨t, ht, rfl⟩ := hd
    have hj : j < vs.length := by rw [← lb]; exact (List.getElem?_eq_some_iff.mp hb).1
    have hvj := List.getElem?_eq_getElem hj
    have tp := tps j b _ hb hvj
    obtain ⟨d', hd', td⟩ := t4.get hvj
    rw [← numG_snd is, List.map_map, List.getElem?_map, ht] at hd'
    have ed : t.2.d = d' := Option.some.inj hd'
    have en : t.1 = (j : Int) := f1.get (by rw [List.getElem?_map, ht]; rfl)
    show Tp _ _ (.tuple [.int t.1, t.2.d])
    rw [en, ed]
    exact .tup tp (.cons (.int _) (.cons (td.mono (Same.ts e5)) .nil))
  have lts : (numG is).length = is.length := numG_len is
  generalize hts : numG is = ts at okt f1 tx5 lts
  generalize hxs : bs.map V.ref = xs at tx5 hlt
  have d5 := d4.mono e5
  have m25 := (m3.trans m4).trans (Mv.of e5)
  have tb5 := tb2.dr d2 m25
  have hs5 := m25.at ns hs2
  refine g_name ?_
  try dsimp only
  have nlt' : lt ∉ [h, c] := d4.new nlt
  -- the text
  refine g_seq ?_
  refine ⟨.ref lt, rfl, ?_⟩
  refine ⟨.ref h, rfl, ?_⟩
  refine g_cons (g_c (g_nil ?_))
  refine nx (k := 5) d5 (by decide) (by decide) fun H7 n2 d7 m7 n20 n21 => ?_
  refine g_nil ⟨n2, rfl, by omega, by omega, fun L2 hL2 => ?_⟩
  have nL2 := d7.new hL2
  refine lc_range (lo := 0) (n := n2.toNat) (fun i H' => Dr H' h c ∧ Mv [h, c] H7 H' ∧ ∃ (ys : List V) (hs : List Hlp), H' L2 = some (.lst ys) ∧ Tps H' ys (hs.map hpD) ∧ hs.length = i ∧ From0 (hs.map (·.1)) ∧ ∀ u ∈ hs, okClaims u.2.1 ∧ 0 ≤ u.2.2 ∧ u.2.2 ≤ 4)
    ⟨d7.upd nL2, Mv.of (Same.new hL2), [], [], upd_same, .nil, rfl, rfl, by simp⟩ (fun i H' hi p => ?_) (fun H8 p => ?_)
  · obtain ⟨d8, m78, ys, hs, hL8, ty8, lhs, f2, oks⟩ := p
    have ly : ys.length = hs.length := by have := ty8.length; rwa [List.length_map] at this
    refine ⟨rfl, ?_⟩
    refine ⟨.int (0 + (i : Nat)), rfl, ?_⟩
    refine ⟨.ref h, rfl, ?_⟩
    refine ⟨h, c, rfl, d8, fun H9 v cs d9 m9 t9 o9 => ?_⟩
    refine ⟨.ref h, rfl, ?_⟩
    refine g_cons (g_c (g_nil ?_))
    refine nx (k := 5) d9 (by decide) (by decide) fun HA rm dA mA rm0 rm1 => ?_
    refine g_nil ⟨by show 3 ≤ sizeLine; decide, fun b ob hb' hob => ?_⟩
    have x10 : Same HA (upd HA b (.frz ob (.tup [.int (0 + (i : Nat)), v, .int rm]))) := Same.new hb'
    have tb : TupAt (upd HA b (.frz ob (.tup [.int (0 + (i : Nat)), v, .int rm]))) b [.int (0 + (i : Nat)), v, .int rm] := TupAt.new hob
    have d10 := dA.upd (o := .frz ob (.tup [.int (0 + (i : Nat)), v, .int rm])) (dA.new hb')
    generalize (upd HA b (.frz ob (.tup [.int (0 + (i : Nat)), v, .int rm]))) = H10 at x10 tb d10 ⊢
    have m910 : Mv [h, c] H9 H10 := mA.trans (Mv.of x10)
    have m8 := m9.trans m910
    have hL10 := m8.at nL2 hL8
    have tpp : Tp H10 (.ref b) (hpD ((0 + (i : Nat) : Int), cs, rm)) := .tup tb (.cons (.int _) (.cons (t9.mono m910.ts) (.cons (.int _) .nil)))
    have mC : Mv [L2] H10 (upd H10 L2 (.lst (ys ++ [.ref b]))) := (Mv.refl [L2] H10).upd' (by simp) (fun u ws z => by rw [hL10] at z; cases z)
    refine ⟨ys, hL10, sz_lt (by omega), d10.upd nL2, (m78.trans m8).upd hL2, ys ++ [.ref b], hs ++ [((0 + (i : Nat) : Int), cs, rm)], upd_same, ?_, by rw [List.length_append, lhs]; rfl, ?_, fun u hu => ?_⟩
    · rw [List.map_append]
      exact ((ty8.mono m8.ts).mono mC.ts).append (.cons (tpp.mono mC.ts) .nil)
    · have := from0_snoc f2
      rw [List.length_map, lhs] at this
      rw [List.map_append, List.map_singleton, Int.zero_add]
      exact this
    · rcases List.mem_append.mp hu with hu | hu
      · exact oks u hu
      · rw [List.mem_singleton.mp hu] ; exact ⟨o9, rm0, by show rm ≤ 4; omega⟩
  obtain ⟨d8, m78, ys, hs, hL8, ty8, lhs, f2, oks⟩ := p
  have okh : OkHelpers hs := ⟨from0_nums f2 (by rw [List.length_map]; omega), oks⟩
  have m58 := m7.trans m78
  have tl := text_len okt okh (by omega) (by omega)
  refine ⟨lt, L2, xs, ys, ts, hs, rfl, SqL.of (m58.at nlt' hlt), tx5.mono m58.ts, SqL.of hL8, ty8, okt, okh, f1, f2, fun H9 e9 => ?_⟩
  have d9 := d8.mono e9
  have m59 := m58.trans (Mv.of e9)
  have tb9 := tb5.dr d5 m59
  have hs9 := m59.at ns hs5
  generalize Txt.join ("\n" : Str) (rowsW ts hs) = x0 at tl ⊢
  refine g_name ?_
  try dsimp only
  -- spoilt
  refine g_seq ?_
  refine ⟨.ref h, rfl, ?_⟩
  refine g_cons (g_c (g_nil ?_))
  refine nx (k := 4) d9 (by decide) (by decide) fun HA nc dA mA nc0 nc1 => ?_
  refine g_nil ⟨nc, rfl, by omega, by omega, ?_⟩
  refine for_range (lo := 0) (n := nc.toNat) (fun i σ H' => ∃ (x : Str) (y3 y4 y6 y7 y8 y9 : Option V), σ = [some (.ref a), some (.ref h), some (.ref sm), y3, y4, some (.str x), y6, y7, y8, y9] ∧ Dr H' h c ∧ TabS H' T.lp_law qLaw ∧ H' sm = some (.lst (l.map V.str)) ∧ x.length + 12 ≤ 2 ^ i * 2512)
    ⟨x0, _, _, _, _, _, _, rfl, dA, tb9.dr d9 mA, mA.at ns hs9, by show x0.length + 12 ≤ 1 * 2512; omega⟩ (fun i σ HB hi p => ?_) (fun σ HD p => ?_)
  · obtain ⟨x, z3, z4, z6, z7, z8, z9, rfl, dB, tbB, hsB, lx⟩ := p
    refine g_name ?_
    refine ⟨.ref h, rfl, ?_⟩
    refine ⟨.str x, rfl, ?_⟩
    have pw : 2 ^ i ≤ 2 ^ 2 := Nat.pow_le_pow_right (by decide) (by omega)
    refine ⟨h, c, x, rfl, dB, by omega, fun HC y dC mC ly => ?_⟩
    exact ⟨y, _, _, _, _, _, _, rfl, dC, tbB.dr dB mC, mC.at ns hsB, by rw [Nat.pow_succ]; omega⟩
  obtain ⟨x, z3, z4, z6, z7, z8, z9, rfl, dD, tbD, hsD, lx⟩ := p
  have lx2 : x.length ≤ 20084 := by
    have pw : 2 ^ nc.toNat ≤ 2 ^ 3 := Nat.pow_le_pow_right (by decide) (by omega)
    omega
  -- one row more
  refine g_seq ?_
  refine ⟨.str x, rfl, ?_⟩
  refine g_op (g_c (g_op ?_))
  refine ⟨.ref h, rfl, ?_⟩
  refine g_cons (g_c (g_nil ?_))
  refine nx (k := 8) dD (by decide) (by decide) fun HE r dE mE r0 r1 => ?_
  refine g_c ?_
  refine ⟨r, 7, rfl, rfl, ⟨by decide, by decide⟩, ?_⟩
  have hr7 : 0 ≤ r.fdiv 7 ∧ r.fdiv 7 ≤ 1 := by
    rcases (show r = 0 ∨ r = 1 ∨ r = 2 ∨ r = 3 ∨ r = 4 ∨ r = 5 ∨ r = 6 ∨ r = 7 by omega) with rfl | rfl | rfl | rfl | rfl | rfl | rfl | rfl <;> decide
  refine ⟨("\n" : Str), r.fdiv 7, rfl, rfl, hr7.1, by omega, by decide +kernel, ?_⟩
  generalize r.fdiv 7 = r7 at hr7 ⊢
  have lrep : (strRep ("\n" : Str) r7).length ≤ 1 := by
    have := strRep_len (z := ("\n" : Str)) hr7.1
    have z1 : (("\n" : Str)).length = 1 := by decide
    rw [z1] at this
    omega
  refine ⟨x, strRep ("\n" : Str) r7, rfl, rfl, by omega, ?_⟩
  have lx3 : (x ++ strRep ("\n" : Str) r7).length ≤ 30000 := by rw [Str.length_append]; omega
  generalize x ++ strRep ("\n" : Str) r7 = x3 at lx3 ⊢
  refine g_name ?_
  try dsimp only
  have tbE := tbD.dr dD mE
  have hsE := mE.at ns hsD
  -- both texts
  refine ⟨.str x3, rfl, ?_⟩
  refine ⟨.ref sm, rfl, ?_⟩
  refine nx_call (k := ((l.map V.str).length : Int)) (h := h) (c := c) (ea_cons (ev_var rfl) (ea_cons (ev_len (ev_var rfl) (SqL.of hsE)) ea_nil)) dE (by rw [List.length_map, ls]; decide) (by rw [List.length_map, ls]; decide) fun HF u dF mF u0 u1 => ?_
  obtain ⟨ui, rfl⟩ : ∃ v : Nat, u = (v : Int) := ⟨u.toNat, by omega⟩
  have hui : ui < (l.map V.str).length := by omega
  have tbF := tbE.dr dE mF
  have hsF := mF.at ns hsE
  have hui' : ui < l.length := by rwa [List.length_map] at hui
  have gx : (l.map V.str)[ui]? = some (.str l[ui]) := by rw [List.getElem?_map, List.getElem?_eq_getElem hui']; rfl
  have lx4 := sh l[ui] (List.getElem_mem hui')
  generalize l[ui] = x4 at gx lx4
  refine Or.inl ⟨sm, l.map V.str, (ui : Int), .str x4, rfl, rfl, SqL.of hsF, atI_nat gx, ?_⟩
  refine g_nil ⟨by show 2 ≤ sizeLine; decide, fun pL hpL => ?_⟩
  have eG : Same HF (upd HF pL (.lst [.str x3, .str x4])) := Same.new hpL
  have hG : (upd HF pL (.lst [.str x3, .str x4])) pL = some (.lst [.str x3, .str x4]) := upd_same
  have npL := dF.new hpL
  generalize (upd HF pL (.lst [.str x3, .str x4])) = HG at eG hG ⊢
  refine ⟨pL, rfl, ⟨_, SqL.of hG⟩, ?_⟩
  refine for_list (K := K) (a := pL) (xs := [.str x3, .str x4]) (fun i σ H' => (∃ y3 y4 y5 y6 y7 y8 y9 : Option V, σ = [some (.ref a), some (.ref h), some (.ref sm), y3, y4, y5, y6, y7, y8, y9]) ∧ Dr H' h c ∧ TabS H' T.lp_law qLaw ∧ H' sm = some (.lst (l.map V.str)) ∧ H' pL = some (.lst [.str x3, .str x4]))
    ⟨⟨_, _, _, _, _, _, _, rfl⟩, dF.mono eG, tbF.ext eG, eG _ _ hsF, hG⟩ (fun i σ H' _ p => SqL.of p.2.2.2.2) (fun i v σ H1 hv p => ?_) (fun σ H' p => ?_)
  · obtain ⟨⟨y3, y4, y5, y6, y7, y8, y9, rfl⟩, d1, tb1, hs1, hp1⟩ := p
    obtain ⟨z, rfl, lz⟩ : ∃ z : Str, v = .str z ∧ z.length ≤ 30000 := by
      have := List.mem_of_getElem? hv
      simp only [List.mem_cons, List.not_mem_nil, or_false] at this
      rcases this with rfl | rfl
      · exact ⟨_, rfl, lx3⟩
      · exact ⟨_, rfl, by omega⟩
    refine g_name ?_
    refine g_seq ?_
    refine ⟨.str z, rfl, z, runRows 0 ⟨[], []⟩ (rowsOf z), rfl, lz, rfl, fun k hk H2 p2 e2 t2 => ?_, fun S hk so H2 p2 a2 b2 xs2 ys2 e2 n2 h2 ha hb tx ty => ?_⟩
    · refine g_name ?_
      try dsimp only
      refine s_if (b := true) (et_is (et_B (ev_isiD' (K := K) (ev_var rfl) (dp_bad t2) kit_tup)) rfl) (fun _ H3 e3 => ?_) (fun z => nomatch z)
      refine g_ifS ?_
      show LamX.tLam _ _ _ _ H3 _
      have tb3 := (tb1.ext e2).ext e3
      refine ⟨fun p hp => by rw [List.mem_singleton.mp hp]; exact tb3, fun HT xT tT => ?_⟩
      have tbT : TabS HT T.lp_law qLaw := tT _ (List.mem_singleton.mpr rfl)
      have dT := xdr xT ((d1.mono e2).mono e3)
      have hsT := xlst xT ((e2.trans e3) _ _ hs1)
      have hpT := xlst xT ((e2.trans e3) _ _ hp1)
      have t2T := (t2.mono (Same.ts e3)).mono (xts xT)
      refine ⟨.str z, rfl, z, k, rfl, by omega, hk, fun HU ex eU heU => ⟨rfl, ex, (k : Int), rfl, heU, fun HV pv' eV tV => ?_⟩⟩
      have E := eU.trans eV
      refine ⟨.ref p2, rfl, _, _, dp_bad tV, dp_bad (t2T.mono (Same.ts E)), sh_bad.1, sh_bad.1, ?_⟩
      rw [sh_bad.2]
      refine ⟨false, rfl, ?_⟩
      refine g_false ?_
      exact ⟨⟨_, _, _, _, _, _, _, rfl⟩, dT.mono E, tbT.ext E, E _ _ hsT, E _ _ hpT⟩
    · refine g_name ?_
      try dsimp only
      have dpl : Dp K H2 (.ref p2) (.list [.list ((numG S.ts).map tgD), .list ((numG S.hs).map hpD)]) := .lst (SqL.of h2) (.cons (.lst (SqL.of ha) tx.dp) (.cons (.lst (SqL.of hb) ty.dp) .nil))
      refine s_if (b := false) (et_is (et_B (ev_isiD' (K := K) (ev_var rfl) dpl kit_tup)) rfl) (fun z => nomatch z) (fun _ H3 e3 => ?_)
      refine g_ifS (g_not ?_)
      refine ⟨.str z, rfl, z, S, rfl, by omega, hk, fun H4 p a4 b4 xs4 ys4 e4 tp na nb ha4 hb4 tx4 ty4 _ => ?_⟩
      have e24 := e3.trans e4
      refine ⟨.ref p2, rfl, p2, _, rfl, .inl ⟨SqL.of (e24 _ _ h2), fun p5 o5 hp5 hd5 => ?_⟩⟩
      have e5 : Same H4 (upd H4 p5 (.frz o5 (.tup [.ref a2, .ref b2]))) := Same.new hp5
      have t5 : TupAt (upd H4 p5 (.frz o5 (.tup [.ref a2, .ref b2]))) p5 [.ref a2, .ref b2] := ⟨o5, hd5, upd_same⟩
      generalize upd H4 p5 (.frz o5 (.tup [.ref a2, .ref b2])) = H5 at e5 t5 ⊢
      have e25 := e24.trans e5
      refine ⟨.bl true, ⟨.ref p, .ref p5, .tuple [.list ((numG S.ts).map tgD), .list ((numG S.hs).map hpD)], rfl, ?_, ?_, (fineS so).fine, rfl⟩, fun H6 e6 => ⟨true, rfl, ?_⟩⟩
      · exact .tup (tp.mono (Same.ts e5)).sq (.cons (.lst (SqL.of (e5 _ _ ha4)) (tx4.mono (Same.ts e5)).dp) (.cons (.lst (SqL.of (e5 _ _ hb4)) (ty4.mono (Same.ts e5)).dp) .nil))
      · exact .tup t5.sq (.cons (.lst (SqL.of (e25 _ _ ha)) (tx.mono (Same.ts e25)).dp) (.cons (.lst (SqL.of (e25 _ _ hb)) (ty.mono (Same.ts e25)).dp) .nil))
      simp only [Bool.not_true, Bool.false_eq_true, ↓reduceIte]
      have E := (e2.trans e25).trans e6
      exact ⟨⟨_, _, _, _, _, _, _, rfl⟩, d1.mono E, tb1.ext E, E _ _ hs1, E _ _ hp1⟩
  · obtain ⟨⟨y3, y4, y5, y6, y7, y8, y9, rfl⟩, d, tb, hs, _⟩ := p
    exact ⟨⟨_, _, _, _, _, _, _, rfl⟩, d, tb, hs⟩


end
end Dm
namespace Dm
open PySem PySem.Spec PyProof.Rows L2 Evl
section
variable {P : Program} {w : World} {K : PySem.W.Frag} {mg : Str → Option Value} {base : Heap}
/-! ### the table of figures -/
def kStr : Value → Option Str
  | .str s _ => some s
  | _ => none
def figKeys : List Str := ["-1", "0", "1", "2", "3", "4", "5", "6", "7", "8", "9"]
theorem nsIn_other {D : Addr} {es : Array DictEntry} {n : Nat} {L : List Str} {z : Str} (fL : K.lookup D = some ⟨.type "dict", none, .dict es n, #[]⟩) (fE : es.toList.map (fun e => kStr e.key) = L.map some) (hz : z ∉ L) : PySem.W.nsIn K D z = some none := by
  have key : ∀ e ∈ es.toList, ∃ s t, e.key = .str s t ∧ s ∈ L := fun e he => by
    have : kStr e.key ∈ L.map some := by rw [← fE]; exact List.mem_map.mpr ⟨e, he, rfl⟩
    obtain ⟨s, hs, e1⟩ := List.mem_map.mp this
    cases hk : e.key with
    | str s' t =>
      rw [hk] at e1
      have e1 : some s = some s' := e1
      cases e1
      exact ⟨s, t, rfl, hs⟩
    | _ => rw [hk] at e1; exact absurd e1 (by intro h; cases h)
  have h1 : es.toList.find? (fun x => x.key.isStr z) = none := List.find?_eq_none.mpr fun e he hb => by
    obtain ⟨s, t, hk, hs⟩ := key e he
    rw [hk] at hb
    have hb : (s == z) = true := hb
    exact hz (by rw [← eq_of_beq hb]; exact hs)
  have h2 : (es.toList.any fun x => x.refKey) = false := by
    rw [List.any_eq_false]
    intro e he
    obtain ⟨s, t, hk, hs⟩ := key e he
    unfold DictEntry.refKey
    rw [hk]
    exact Bool.false_ne_true
  unfold PySem.W.nsIn
  rw [fL]
  dsimp only
  rw [h1]
  dsimp only
  rw [h2]
  rfl
theorem fig_mk {D : Addr} {es : Array DictEntry} {n : Nat} {t0 t1 t2 t3 t4 t5 t6 t7 t8 t9 t10 : Tok} (fL : K.lookup D = some ⟨.type "dict", none, .dict es n, #[]⟩) (fK : PySem.W.KeysLit w.params es.toList) (fS : (D == sysModules) = false) (fE : es.toList.map (fun e => kStr e.key) = figKeys.map some)
    (v0 : PySem.W.nsIn K D "-1" = some (some (.int (-1) t0))) (v1 : PySem.W.nsIn K D "0" = some (some (.int 0 t1))) (v2 : PySem.W.nsIn K D "1" = some (some (.int 1 t2))) (v3 : PySem.W.nsIn K D "2" = some (some (.int 2 t3))) (v4 : PySem.W.nsIn K D "3" = some (some (.int 3 t4))) (v5 : PySem.W.nsIn K D "4" = some (some (.int 4 t5))) (v6 : PySem.W.nsIn K D "5" = some (some (.int 5 t6))) (v7 : PySem.W.nsIn K D "6" = some (some (.int 6 t7))) (v8 : PySem.W.nsIn K D "7" = some (some (.int 7 t8))) (v9 : PySem.W.nsIn K D "8" = some (some (.int 8 t9))) (v10 : PySem.W.nsIn K D "9" = some (some (.int 9 t10))) : FigW K w D := by
  refine ⟨⟨es, n, fL, fK, fS⟩, fun z => ?_⟩
  by_cases h0 : z = "-1"
  · subst h0
    rw [show fig ("-1" : Str) = some (-1) by decide +kernel]
    exact .inl ⟨_, v0, t0, rfl⟩
  by_cases h1 : z = "0"
  · subst h1
    rw [show fig ("0" : Str) = some 0 by decide +kernel]
    exact .inl ⟨_, v1, t1, rfl⟩
  by_cases h2 : z = "1"
  · subst h2
    rw [show fig ("1" : Str) = some 1 by decide +kernel]
    exact .inl ⟨_, v2, t2, rfl⟩
  by_cases h3 : z = "2"
  · subst h3
    rw [show fig ("2" : Str) = some 2 by decide +kernel]
    exact .inl ⟨_, v3, t3, rfl⟩
  by_cases h4 : z = "3"
  · subst h4
    rw [show fig ("3" : Str) = some 3 by decide +kernel]
    exact .inl ⟨_, v4, t4, rfl⟩
  by_cases h5 : z = "4"
  · subst h5
    rw [show fig ("4" : Str) = some 4 by decide +kernel]
    exact .inl ⟨_, v5, t5, rfl⟩
  by_cases h6 : z = "5"
  · subst h6
    rw [show fig ("5" : Str) = some 5 by decide +kernel]
    exact .inl ⟨_, v6, t6, rfl⟩
  by_cases h7 : z = "6"
  · subst h7
    rw [show fig ("6" : Str) = some 6 by decide +kernel]
    exact .inl ⟨_, v7, t7, rfl⟩
  by_cases h8 : z = "7"
  · subst h8
    rw [show fig ("7" : Str) = some 7 by decide +kernel]
    exact .inl ⟨_, v8, t8, rfl⟩
  by_cases h9 : z = "8"
  · subst h9
    rw [show fig ("8" : Str) = some 8 by decide +kernel]
    exact .inl ⟨_, v9, t9, rfl⟩
  by_cases h10 : z = "9"
  · subst h10
    rw [show fig ("9" : Str) = some 9 by decide +kernel]
    exact .inl ⟨_, v10, t10, rfl⟩
  refine .inr ⟨nsIn_other fL fE ?_, ?_⟩
  · intro hz
    simp only [figKeys, List.mem_cons, List.not_mem_nil, or_false] at hz
    rcases hz with z | z | z | z | z | z | z | z | z | z | z
    · exact h0 z
    · exact h1 z
    · exact h2 z
    · exact h3 z
    · exact h4 z
    · exact h5 z
    · exact h6 z
    · exact h7 z
    · exact h8 z
    · exact h9 z
    · exact h10 z
  · unfold fig
    rw [if_neg h0, if_neg h1, if_neg h2, if_neg h3, if_neg h4, if_neg h5, if_neg h6, if_neg h7, if_neg h8, if_neg h9, if_neg h10]
    rfl


end
end Dm
namespace Dm
open PySem PySem.Spec PyProof.Rows L2 Evl
theorem all_mk {l : PySem.W.OpenLaw} {w : World} {K : PySem.W.Frag} {h : Heap} {mg : Str → Option Value} {fa : Addr} (X : K.In h) (G : h.Ns mainGlobals mg) (hfa : mg "law" = some (.ref fa))
    {od0 an0 : Option Addr} {sl0 : Array (Option Value)} {oc0 kV0 dc0 pm0 cd0 ct0 : Value} {f0 : Addr}
    (a0 : PySem.W.nsIn K mainGlobals "is_number" = some (some (.ref f0))) (l0 : K.lookup f0 = some ⟨oc0, od0, .func (PySem.W.fnOf "is_number" "is_number" (defArgs s_is_number) (defBody s_is_number) (defScope s_is_number) .none kV0 dc0 pm0 an0 cd0 ct0), sl0⟩) (c0 : PySem.W.codeIn K cd0 "is_number" = true) (k0 : PySem.W.keepIn K (.ref f0) = true)
    {od1 an1 : Option Addr} {sl1 : Array (Option Value)} {oc1 kV1 dc1 pm1 cd1 ct1 : Value} {f1 : Addr}
    (a1 : PySem.W.nsIn K mainGlobals "is_three" = some (some (.ref f1))) (l1 : K.lookup f1 = some ⟨oc1, od1, .func (PySem.W.fnOf "is_three" "is_three" (defArgs s_is_three) (defBody s_is_three) (defScope s_is_three) .none kV1 dc1 pm1 an1 cd1 ct1), sl1⟩) (c1 : PySem.W.codeIn K cd1 "is_three" = true) (k1 : PySem.W.keepIn K (.ref f1) = true)
    {od2 an2 : Option Addr} {sl2 : Array (Option Value)} {oc2 kV2 dc2 pm2 cd2 ct2 : Value} {f2 : Addr}
    (a2 : PySem.W.nsIn K mainGlobals "is_marks" = some (some (.ref f2))) (l2 : K.lookup f2 = some ⟨oc2, od2, .func (PySem.W.fnOf "is_marks" "is_marks" (defArgs s_is_marks) (defBody s_is_marks) (defScope s_is_marks) .none kV2 dc2 pm2 an2 cd2 ct2), sl2⟩) (c2 : PySem.W.codeIn K cd2 "is_marks" = true) (k2 : PySem.W.keepIn K (.ref f2) = true)
    {od3 an3 : Option Addr} {sl3 : Array (Option Value)} {oc3 kV3 dc3 pm3 cd3 ct3 : Value} {f3 : Addr}
    (a3 : PySem.W.nsIn K mainGlobals "is_wanted" = some (some (.ref f3))) (l3 : K.lookup f3 = some ⟨oc3, od3, .func (PySem.W.fnOf "is_wanted" "is_wanted" (defArgs s_is_wanted) (defBody s_is_wanted) (defScope s_is_wanted) .none kV3 dc3 pm3 an3 cd3 ct3), sl3⟩) (c3 : PySem.W.codeIn K cd3 "is_wanted" = true) (k3 : PySem.W.keepIn K (.ref f3) = true)
    {od4 an4 : Option Addr} {sl4 : Array (Option Value)} {oc4 kV4 dc4 pm4 cd4 ct4 : Value} {f4 : Addr}
    (a4 : PySem.W.nsIn K mainGlobals "is_shell" = some (some (.ref f4))) (l4 : K.lookup f4 = some ⟨oc4, od4, .func (PySem.W.fnOf "is_shell" "is_shell" (defArgs s_is_shell) (defBody s_is_shell) (defScope s_is_shell) .none kV4 dc4 pm4 an4 cd4 ct4), sl4⟩) (c4 : PySem.W.codeIn K cd4 "is_shell" = true) (k4 : PySem.W.keepIn K (.ref f4) = true)
    {od5 an5 : Option Addr} {sl5 : Array (Option Value)} {oc5 kV5 dc5 pm5 cd5 ct5 : Value} {f5 : Addr}
    (a5 : PySem.W.nsIn K mainGlobals "is_claim" = some (some (.ref f5))) (l5 : K.lookup f5 = some ⟨oc5, od5, .func (PySem.W.fnOf "is_claim" "is_claim" (defArgs s_is_claim) (defBody s_is_claim) (defScope s_is_claim) .none kV5 dc5 pm5 an5 cd5 ct5), sl5⟩) (c5 : PySem.W.codeIn K cd5 "is_claim" = true) (k5 : PySem.W.keepIn K (.ref f5) = true)
    {od6 an6 : Option Addr} {sl6 : Array (Option Value)} {oc6 kV6 dc6 pm6 cd6 ct6 : Value} {f6 : Addr}
    (a6 : PySem.W.nsIn K mainGlobals "check_thing" = some (some (.ref f6))) (l6 : K.lookup f6 = some ⟨oc6, od6, .func (PySem.W.fnOf "check_thing" "check_thing" (defArgs s_check_thing) (defBody s_check_thing) (defScope s_check_thing) .none kV6 dc6 pm6 an6 cd6 ct6), sl6⟩) (c6 : PySem.W.codeIn K cd6 "check_thing" = true) (k6 : PySem.W.keepIn K (.ref f6) = true)
    {od7 an7 : Option Addr} {sl7 : Array (Option Value)} {oc7 kV7 dc7 pm7 cd7 ct7 : Value} {f7 : Addr}
    (a7 : PySem.W.nsIn K mainGlobals "check_claims" = some (some (.ref f7))) (l7 : K.lookup f7 = some ⟨oc7, od7, .func (PySem.W.fnOf "check_claims" "check_claims" (defArgs s_check_claims) (defBody s_check_claims) (defScope s_check_claims) .none kV7 dc7 pm7 an7 cd7 ct7), sl7⟩) (c7 : PySem.W.codeIn K cd7 "check_claims" = true) (k7 : PySem.W.keepIn K (.ref f7) = true)
    {od8 an8 : Option Addr} {sl8 : Array (Option Value)} {oc8 kV8 dc8 pm8 cd8 ct8 : Value} {f8 : Addr}
    (a8 : PySem.W.nsIn K mainGlobals "check_room" = some (some (.ref f8))) (l8 : K.lookup f8 = some ⟨oc8, od8, .func (PySem.W.fnOf "check_room" "check_room" (defArgs s_check_room) (defBody s_check_room) (defScope s_check_room) .none kV8 dc8 pm8 an8 cd8 ct8), sl8⟩) (c8 : PySem.W.codeIn K cd8 "check_room" = true) (k8 : PySem.W.keepIn K (.ref f8) = true)
    {od9 an9 : Option Addr} {sl9 : Array (Option Value)} {oc9 kV9 dc9 pm9 cd9 ct9 : Value} {f9 : Addr}
    (a9 : PySem.W.nsIn K mainGlobals "check_numbers" = some (some (.ref f9))) (l9 : K.lookup f9 = some ⟨oc9, od9, .func (PySem.W.fnOf "check_numbers" "check_numbers" (defArgs s_check_numbers) (defBody s_check_numbers) (defScope s_check_numbers) .none kV9 dc9 pm9 an9 cd9 ct9), sl9⟩) (c9 : PySem.W.codeIn K cd9 "check_numbers" = true) (k9 : PySem.W.keepIn K (.ref f9) = true)
    {od10 an10 : Option Addr} {sl10 : Array (Option Value)} {oc10 kV10 dc10 pm10 cd10 ct10 : Value} {f10 : Addr}
    (a10 : PySem.W.nsIn K mainGlobals "check_counted" = some (some (.ref f10))) (l10 : K.lookup f10 = some ⟨oc10, od10, .func (PySem.W.fnOf "check_counted" "check_counted" (defArgs s_check_counted) (defBody s_check_counted) (defScope s_check_counted) .none kV10 dc10 pm10 an10 cd10 ct10), sl10⟩) (c10 : PySem.W.codeIn K cd10 "check_counted" = true) (k10 : PySem.W.keepIn K (.ref f10) = true)
    {od11 an11 : Option Addr} {sl11 : Array (Option Value)} {oc11 kV11 dc11 pm11 cd11 ct11 : Value} {f11 : Addr}
    (a11 : PySem.W.nsIn K mainGlobals "check_things" = some (some (.ref f11))) (l11 : K.lookup f11 = some ⟨oc11, od11, .func (PySem.W.fnOf "check_things" "check_things" (defArgs s_check_things) (defBody s_check_things) (defScope s_check_things) .none kV11 dc11 pm11 an11 cd11 ct11), sl11⟩) (c11 : PySem.W.codeIn K cd11 "check_things" = true) (k11 : PySem.W.keepIn K (.ref f11) = true)
    {od12 an12 : Option Addr} {sl12 : Array (Option Value)} {oc12 kV12 dc12 pm12 cd12 ct12 : Value} {f12 : Addr}
    (a12 : PySem.W.nsIn K mainGlobals "check_helpers" = some (some (.ref f12))) (l12 : K.lookup f12 = some ⟨oc12, od12, .func (PySem.W.fnOf "check_helpers" "check_helpers" (defArgs s_check_helpers) (defBody s_check_helpers) (defScope s_check_helpers) .none kV12 dc12 pm12 an12 cd12 ct12), sl12⟩) (c12 : PySem.W.codeIn K cd12 "check_helpers" = true) (k12 : PySem.W.keepIn K (.ref f12) = true)
    {od13 an13 : Option Addr} {sl13 : Array (Option Value)} {oc13 kV13 dc13 pm13 cd13 ct13 : Value} {f13 : Addr}
    (a13 : PySem.W.nsIn K mainGlobals "written" = some (some (.ref f13))) (l13 : K.lookup f13 = some ⟨oc13, od13, .func (PySem.W.fnOf "written" "written" (defArgs s_written) (defBody s_written) (defScope s_written) .none kV13 dc13 pm13 an13 cd13 ct13), sl13⟩) (c13 : PySem.W.codeIn K cd13 "written" = true) (k13 : PySem.W.keepIn K (.ref f13) = true)
    {od14 an14 : Option Addr} {sl14 : Array (Option Value)} {oc14 kV14 dc14 pm14 cd14 ct14 : Value} {f14 : Addr}
    (a14 : PySem.W.nsIn K mainGlobals "thing_rows" = some (some (.ref f14))) (l14 : K.lookup f14 = some ⟨oc14, od14, .func (PySem.W.fnOf "thing_rows" "thing_rows" (defArgs s_thing_rows) (defBody s_thing_rows) (defScope s_thing_rows) .none kV14 dc14 pm14 an14 cd14 ct14), sl14⟩) (c14 : PySem.W.codeIn K cd14 "thing_rows" = true) (k14 : PySem.W.keepIn K (.ref f14) = true)
    {od15 an15 : Option Addr} {sl15 : Array (Option Value)} {oc15 kV15 dc15 pm15 cd15 ct15 : Value} {f15 : Addr}
    (a15 : PySem.W.nsIn K mainGlobals "helper_rows" = some (some (.ref f15))) (l15 : K.lookup f15 = some ⟨oc15, od15, .func (PySem.W.fnOf "helper_rows" "helper_rows" (defArgs s_helper_rows) (defBody s_helper_rows) (defScope s_helper_rows) .none kV15 dc15 pm15 an15 cd15 ct15), sl15⟩) (c15 : PySem.W.codeIn K cd15 "helper_rows" = true) (k15 : PySem.W.keepIn K (.ref f15) = true)
    {od16 an16 : Option Addr} {sl16 : Array (Option Value)} {oc16 kV16 dc16 pm16 cd16 ct16 : Value} {f16 : Addr}
    (a16 : PySem.W.nsIn K mainGlobals "read" = some (some (.ref f16))) (l16 : K.lookup f16 = some ⟨oc16, od16, .func (PySem.W.fnOf "read" "read" (defArgs s_read) (defBody s_read) (defScope s_read) .none kV16 dc16 pm16 an16 cd16 ct16), sl16⟩) (c16 : PySem.W.codeIn K cd16 "read" = true) (k16 : PySem.W.keepIn K (.ref f16) = true)
    {od17 an17 : Option Addr} {sl17 : Array (Option Value)} {oc17 kV17 dc17 pm17 cd17 ct17 : Value} {f17 : Addr}
    (a17 : PySem.W.nsIn K mainGlobals "closed" = some (some (.ref f17))) (l17 : K.lookup f17 = some ⟨oc17, od17, .func (PySem.W.fnOf "closed" "closed" (defArgs s_closed) (defBody s_closed) (defScope s_closed) .none kV17 dc17 pm17 an17 cd17 ct17), sl17⟩) (c17 : PySem.W.codeIn K cd17 "closed" = true) (k17 : PySem.W.keepIn K (.ref f17) = true)
    {od18 an18 : Option Addr} {sl18 : Array (Option Value)} {oc18 kV18 dc18 pm18 cd18 ct18 : Value} {f18 : Addr}
    (a18 : PySem.W.nsIn K mainGlobals "_law_mix" = some (some (.ref f18))) (l18 : K.lookup f18 = some ⟨oc18, od18, .func (PySem.W.fnOf "_law_mix" "_law_mix" (defArgs s__law_mix) (defBody s__law_mix) (defScope s__law_mix) .none kV18 dc18 pm18 an18 cd18 ct18), sl18⟩) (c18 : PySem.W.codeIn K cd18 "_law_mix" = true) (k18 : PySem.W.keepIn K (.ref f18) = true)
    {od19 an19 : Option Addr} {sl19 : Array (Option Value)} {oc19 kV19 dc19 pm19 cd19 ct19 : Value} {f19 : Addr}
    (a19 : PySem.W.nsIn K mainGlobals "_law_next" = some (some (.ref f19))) (l19 : K.lookup f19 = some ⟨oc19, od19, .func (PySem.W.fnOf "_law_next" "_law_next" (defArgs s__law_next) (defBody s__law_next) (defScope s__law_next) .none kV19 dc19 pm19 an19 cd19 ct19), sl19⟩) (c19 : PySem.W.codeIn K cd19 "_law_next" = true) (k19 : PySem.W.keepIn K (.ref f19) = true)
    {od20 an20 : Option Addr} {sl20 : Array (Option Value)} {oc20 kV20 dc20 pm20 cd20 ct20 : Value} {f20 : Addr}
    (a20 : PySem.W.nsIn K mainGlobals "_law_alike" = some (some (.ref f20))) (l20 : K.lookup f20 = some ⟨oc20, od20, .func (PySem.W.fnOf "_law_alike" "_law_alike" (defArgs s__law_alike) (defBody s__law_alike) (defScope s__law_alike) .none kV20 dc20 pm20 an20 cd20 ct20), sl20⟩) (c20 : PySem.W.codeIn K cd20 "_law_alike" = true) (k20 : PySem.W.keepIn K (.ref f20) = true)
    {od21 an21 : Option Addr} {sl21 : Array (Option Value)} {oc21 kV21 dc21 pm21 cd21 ct21 : Value} {f21 : Addr}
    (a21 : PySem.W.nsIn K mainGlobals "_law_marks" = some (some (.ref f21))) (l21 : K.lookup f21 = some ⟨oc21, od21, .func (PySem.W.fnOf "_law_marks" "_law_marks" (defArgs s__law_marks) (defBody s__law_marks) (defScope s__law_marks) .none kV21 dc21 pm21 an21 cd21 ct21), sl21⟩) (c21 : PySem.W.codeIn K cd21 "_law_marks" = true) (k21 : PySem.W.keepIn K (.ref f21) = true)
    {od22 an22 : Option Addr} {sl22 : Array (Option Value)} {oc22 kV22 dc22 pm22 cd22 ct22 : Value} {f22 : Addr}
    (a22 : PySem.W.nsIn K mainGlobals "_law_thing" = some (some (.ref f22))) (l22 : K.lookup f22 = some ⟨oc22, od22, .func (PySem.W.fnOf "_law_thing" "_law_thing" (defArgs s__law_thing) (defBody s__law_thing) (defScope s__law_thing) .none kV22 dc22 pm22 an22 cd22 ct22), sl22⟩) (c22 : PySem.W.codeIn K cd22 "_law_thing" = true) (k22 : PySem.W.keepIn K (.ref f22) = true)
    {od23 an23 : Option Addr} {sl23 : Array (Option Value)} {oc23 kV23 dc23 pm23 cd23 ct23 : Value} {f23 : Addr}
    (a23 : PySem.W.nsIn K mainGlobals "_law_claims" = some (some (.ref f23))) (l23 : K.lookup f23 = some ⟨oc23, od23, .func (PySem.W.fnOf "_law_claims" "_law_claims" (defArgs s__law_claims) (defBody s__law_claims) (defScope s__law_claims) .none kV23 dc23 pm23 an23 cd23 ct23), sl23⟩) (c23 : PySem.W.codeIn K cd23 "_law_claims" = true) (k23 : PySem.W.keepIn K (.ref f23) = true)
    {od24 an24 : Option Addr} {sl24 : Array (Option Value)} {oc24 kV24 dc24 pm24 cd24 ct24 : Value} {f24 : Addr}
    (a24 : PySem.W.nsIn K mainGlobals "_law_kind" = some (some (.ref f24))) (l24 : K.lookup f24 = some ⟨oc24, od24, .func (PySem.W.fnOf "_law_kind" "_law_kind" (defArgs s__law_kind) (defBody s__law_kind) (defScope s__law_kind) .none kV24 dc24 pm24 an24 cd24 ct24), sl24⟩) (c24 : PySem.W.codeIn K cd24 "_law_kind" = true) (k24 : PySem.W.keepIn K (.ref f24) = true)
    {od25 an25 : Option Addr} {sl25 : Array (Option Value)} {oc25 kV25 dc25 pm25 cd25 ct25 : Value} {f25 : Addr}
    (a25 : PySem.W.nsIn K mainGlobals "_law_numbers" = some (some (.ref f25))) (l25 : K.lookup f25 = some ⟨oc25, od25, .func (PySem.W.fnOf "_law_numbers" "_law_numbers" (defArgs s__law_numbers) (defBody s__law_numbers) (defScope s__law_numbers) .none kV25 dc25 pm25 an25 cd25 ct25), sl25⟩) (c25 : PySem.W.codeIn K cd25 "_law_numbers" = true) (k25 : PySem.W.keepIn K (.ref f25) = true)
    {od26 an26 : Option Addr} {sl26 : Array (Option Value)} {oc26 kV26 dc26 pm26 cd26 ct26 : Value} {f26 : Addr}
    (a26 : PySem.W.nsIn K mainGlobals "_law_due" = some (some (.ref f26))) (l26 : K.lookup f26 = some ⟨oc26, od26, .func (PySem.W.fnOf "_law_due" "_law_due" (defArgs s__law_due) (defBody s__law_due) (defScope s__law_due) .none kV26 dc26 pm26 an26 cd26 ct26), sl26⟩) (c26 : PySem.W.codeIn K cd26 "_law_due" = true) (k26 : PySem.W.keepIn K (.ref f26) = true)
    {od27 an27 : Option Addr} {sl27 : Array (Option Value)} {oc27 kV27 dc27 pm27 cd27 ct27 : Value} {f27 : Addr}
    (a27 : PySem.W.nsIn K mainGlobals "_law_kept" = some (some (.ref f27))) (l27 : K.lookup f27 = some ⟨oc27, od27, .func (PySem.W.fnOf "_law_kept" "_law_kept" (defArgs s__law_kept) (defBody s__law_kept) (defScope s__law_kept) .none kV27 dc27 pm27 an27 cd27 ct27), sl27⟩) (c27 : PySem.W.codeIn K cd27 "_law_kept" = true) (k27 : PySem.W.keepIn K (.ref f27) = true)
    {od28 an28 : Option Addr} {sl28 : Array (Option Value)} {oc28 kV28 dc28 pm28 cd28 ct28 : Value} {f28 : Addr}
    (a28 : PySem.W.nsIn K mainGlobals "_law_spoilt" = some (some (.ref f28))) (l28 : K.lookup f28 = some ⟨oc28, od28, .func (PySem.W.fnOf "_law_spoilt" "_law_spoilt" (defArgs s__law_spoilt) (defBody s__law_spoilt) (defScope s__law_spoilt) .none kV28 dc28 pm28 an28 cd28 ct28), sl28⟩) (c28 : PySem.W.codeIn K cd28 "_law_spoilt" = true) (k28 : PySem.W.keepIn K (.ref f28) = true)
    {od29 an29 : Option Addr} {sl29 : Array (Option Value)} {oc29 kV29 dc29 pm29 cd29 ct29 : Value} {f29 : Addr}
    (a29 : PySem.W.nsIn K mainGlobals "law" = some (some (.ref f29))) (l29 : K.lookup f29 = some ⟨oc29, od29, .func (PySem.W.fnOf "law" "law" (defArgs s_law) (defBody s_law) (defScope s_law) .none kV29 dc29 pm29 an29 cd29 ct29), sl29⟩) (c29 : PySem.W.codeIn K cd29 "law" = true) (k29 : PySem.W.keepIn K (.ref f29) = true)
    {lc29 lp29 : Addr} (q29 : PySem.W.tabIn K "law" = some (lc29, lp29)) (e29 : cd29 = .ref lc29)
    {fileN : Str}
    {C_MatchError : Addr} (aC_MatchError : PySem.W.nsIn K mainGlobals "MatchError" = some (some (.ref C_MatchError))) (kC_MatchError : PySem.W.keepIn K (.ref C_MatchError) = true)
    {C_BadThing : Addr} (aC_BadThing : PySem.W.nsIn K mainGlobals "BadThing" = some (some (.ref C_BadThing))) (kC_BadThing : PySem.W.keepIn K (.ref C_BadThing) = true)
    {C_BadClaims : Addr} (aC_BadClaims : PySem.W.nsIn K mainGlobals "BadClaims" = some (some (.ref C_BadClaims))) (kC_BadClaims : PySem.W.keepIn K (.ref C_BadClaims) = true)
    {C_BadHeld : Addr} (aC_BadHeld : PySem.W.nsIn K mainGlobals "BadHeld" = some (some (.ref C_BadHeld))) (kC_BadHeld : PySem.W.keepIn K (.ref C_BadHeld) = true)
    {C_BadText : Addr} (aC_BadText : PySem.W.nsIn K mainGlobals "BadText" = some (some (.ref C_BadText))) (kC_BadText : PySem.W.keepIn K (.ref C_BadText) = true)
    {C_BadRoom : Addr} (aC_BadRoom : PySem.W.nsIn K mainGlobals "BadRoom" = some (some (.ref C_BadRoom))) (kC_BadRoom : PySem.W.keepIn K (.ref C_BadRoom) = true)
    {C_BadNumbers : Addr} (aC_BadNumbers : PySem.W.nsIn K mainGlobals "BadNumbers" = some (some (.ref C_BadNumbers))) (kC_BadNumbers : PySem.W.keepIn K (.ref C_BadNumbers) = true)
    {C_NoThing : Addr} (aC_NoThing : PySem.W.nsIn K mainGlobals "NoThing" = some (some (.ref C_NoThing))) (kC_NoThing : PySem.W.keepIn K (.ref C_NoThing) = true)
    {C_NoHelper : Addr} (aC_NoHelper : PySem.W.nsIn K mainGlobals "NoHelper" = some (some (.ref C_NoHelper))) (kC_NoHelper : PySem.W.keepIn K (.ref C_NoHelper) = true)
    {C_TooMany : Addr} (aC_TooMany : PySem.W.nsIn K mainGlobals "TooMany" = some (some (.ref C_TooMany))) (kC_TooMany : PySem.W.keepIn K (.ref C_TooMany) = true)
    {nm_BadText q_BadText : Str} {N_BadText : Addr} {bs_BadText bm_BadText : List Value} {sn_BadText : List Str} {sub_BadText : List Value} {ab_BadText : Bool} {col_BadText : Option Bool} {dd_BadText : Option Addr} {m0_BadText m1_BadText m2_BadText m3_BadText m5_BadText : Option Value}
    {fI_BadText cc_BadText cda_BadText : Addr} {oc_BadText kV_BadText doc_BadText pm_BadText ct_BadText cl_BadText ccl_BadText : Value} {od_BadText an_BadText cld_BadText cdd_BadText : Option Addr} {osl_BadText csl_BadText ccs_BadText : Array (Option Value)} {vs_BadText : Array Value} {tf_BadText : Tok}
    (xL_BadText : K.lookup C_BadText = some (excClassObj nm_BadText q_BadText C_BadText N_BadText bs_BadText bm_BadText true sn_BadText sub_BadText ab_BadText col_BadText dd_BadText m0_BadText m1_BadText m2_BadText m3_BadText m5_BadText "ValueError.__new__"))
    (xR_BadText : PySem.HandSPX.refsVE bm_BadText = true)
    (sa_BadText : PySem.W.findIn K (.ref C_BadText) "__setattr__" = some (some (.builtin "object.__setattr__")))
    (ga_BadText : PySem.W.findIn K (.ref C_BadText) "__getattribute__" = some (some (.builtin "BaseException.__getattribute__")))
    (gg_BadText : PySem.W.findIn K (.ref C_BadText) "__getattr__" = some none)
    (no_BadText : PySem.W.findIn K (.ref C_BadText) "line" = some none)
    (hd_BadText : PySem.W.hasDictIn K C_BadText = true)
    (eC_BadText : PySem.W.subIn K (.ref C_BadText) (.type "BaseException") = some true)
    (vC_BadText : PySem.W.subIn K (.ref C_BadText) (.type "ValueError") = some true)
    (tC_BadText : PySem.W.typeIn K (.ref C_BadText) = some (.type "type"))
    (cl2_BadText : PySem.W.findIn K (.ref C_BadText) "__class__" = some (some (.builtin "object.__class__")))
    (mo_BadText : PySem.W.mroIn K C_BadText (.type "object") = some true)
    (mw_BadText : PySem.W.mroIn K C_BadText (.ref C_BadText) = some true)
    (iC_BadText : PySem.W.findIn K (.ref C_BadText) "__init__" = some (some (.ref fI_BadText)))
    (tI_BadText : PySem.W.typeIn K (.ref fI_BadText) = some (.type "function"))
    (lI_BadText : K.lookup fI_BadText = some ⟨oc_BadText, od_BadText, .func (PySem.W.ksFn "__init__" "BadText.__init__" (defArgs s_BadText) (defBody s_BadText) (defScope s_BadText) .none kV_BadText doc_BadText pm_BadText an_BadText (.ref cda_BadText) ct_BadText cc_BadText), osl_BadText⟩)
    (cI_BadText : PySem.W.codeIn K (.ref cda_BadText) "BadText.__init__" = true)
    (ce_BadText : K.lookup cc_BadText = some ⟨cl_BadText, cld_BadText, .cell (some (.ref C_BadText)), csl_BadText⟩)
    (co_BadText : K.lookup cda_BadText = some ⟨ccl_BadText, cdd_BadText, .fields vs_BadText, ccs_BadText⟩)
    (cf_BadText : vs_BadText[2]? = some (.str fileN tf_BadText))
    (su_BadText : PySem.W.ks_superIn K C_BadText C_BadText "__init__" = some (some (.builtin "ValueError.__init__")))
    (xm_BadText : PySem.W.exmOne K (.ref C_BadText) (.ref C_MatchError) = some true)
    (i_BadThing_BadText : PySem.W.kitOne K (.ref C_BadText) (.ref C_BadThing) = some false)
    (i_BadClaims_BadText : PySem.W.kitOne K (.ref C_BadText) (.ref C_BadClaims) = some false)
    (i_BadHeld_BadText : PySem.W.kitOne K (.ref C_BadText) (.ref C_BadHeld) = some false)
    (i_BadText_BadText : PySem.W.kitOne K (.ref C_BadText) (.ref C_BadText) = some true)
    (i_BadRoom_BadText : PySem.W.kitOne K (.ref C_BadText) (.ref C_BadRoom) = some false)
    (i_BadNumbers_BadText : PySem.W.kitOne K (.ref C_BadText) (.ref C_BadNumbers) = some false)
    (i_NoThing_BadText : PySem.W.kitOne K (.ref C_BadText) (.ref C_NoThing) = some false)
    (i_NoHelper_BadText : PySem.W.kitOne K (.ref C_BadText) (.ref C_NoHelper) = some false)
    (i_TooMany_BadText : PySem.W.kitOne K (.ref C_BadText) (.ref C_TooMany) = some false)
    (i_ValueError_BadText : PySem.W.kitOne K (.ref C_BadText) (.type "ValueError") = some true)
    (gN : PySem.W.specialIn K (.builtin "object.__class__") "__get__" = some (some (.builtin "getset_descriptor.__get__"))) (tN : PySem.W.takesIn K (.builtin "object.__class__") = some true) (stA : PySem.W.nsIn K cStatics "thirdparty.any" = some none) (hPF : ProgF l.prog fileN)
    {C_Reader : Addr} (aC_Reader : PySem.W.nsIn K mainGlobals "Reader" = some (some (.ref C_Reader))) (pg_Reader : PySem.W.plainGet K C_Reader Str.empty = true) (hd_Reader : PySem.W.hasDictIn K C_Reader = true) (po_Reader : PySem.W.plainOver K C_Reader = true) (sa_Reader : PySem.W.findIn K (.ref C_Reader) "__setattr__" = some (some (.builtin "object.__setattr__"))) (mk_Reader : PySem.W.makesIn K C_Reader = true) (kC_Reader : PySem.W.keepIn K (.ref C_Reader) = true)
    (n_Reader_trees : PySem.W.findIn K (.ref C_Reader) "trees" = some none)
    (n_Reader_path : PySem.W.findIn K (.ref C_Reader) "path" = some none)
    (n_Reader_staff : PySem.W.findIn K (.ref C_Reader) "staff" = some none)
    {odReader___init__ anReader___init__ : Option Addr} {slReader___init__ : Array (Option Value)} {ocReader___init__ kVReader___init__ dcReader___init__ pmReader___init__ cdReader___init__ ctReader___init__ : Value} {fReader___init__ : Addr}
    (aReader___init__ : PySem.W.findIn K (.ref C_Reader) "__init__" = some (some (.ref fReader___init__))) (iReader___init__ : PySem.W.isFn K (.ref fReader___init__) = true) (lReader___init__ : K.lookup fReader___init__ = some ⟨ocReader___init__, odReader___init__, .func (PySem.W.fnOf "__init__" "Reader.__init__" (defArgs s_Reader___init__) (defBody s_Reader___init__) (defScope s_Reader___init__) .none kVReader___init__ dcReader___init__ pmReader___init__ anReader___init__ cdReader___init__ ctReader___init__), slReader___init__⟩) (cReader___init__ : PySem.W.codeIn K cdReader___init__ "Reader.__init__" = true) (kReader___init__ : PySem.W.keepIn K (.ref fReader___init__) = true)
    {odReader_take_row anReader_take_row : Option Addr} {slReader_take_row : Array (Option Value)} {ocReader_take_row kVReader_take_row dcReader_take_row pmReader_take_row cdReader_take_row ctReader_take_row : Value} {fReader_take_row : Addr}
    (aReader_take_row : PySem.W.findIn K (.ref C_Reader) "take_row" = some (some (.ref fReader_take_row))) (iReader_take_row : PySem.W.isFn K (.ref fReader_take_row) = true) (lReader_take_row : K.lookup fReader_take_row = some ⟨ocReader_take_row, odReader_take_row, .func (PySem.W.fnOf "take_row" "Reader.take_row" (defArgs s_Reader_take_row) (defBody s_Reader_take_row) (defScope s_Reader_take_row) .none kVReader_take_row dcReader_take_row pmReader_take_row anReader_take_row cdReader_take_row ctReader_take_row), slReader_take_row⟩) (cReader_take_row : PySem.W.codeIn K cdReader_take_row "Reader.take_row" = true) (kReader_take_row : PySem.W.keepIn K (.ref fReader_take_row) = true)
    {odReader_take_thing anReader_take_thing : Option Addr} {slReader_take_thing : Array (Option Value)} {ocReader_take_thing kVReader_take_thing dcReader_take_thing pmReader_take_thing cdReader_take_thing ctReader_take_thing : Value} {fReader_take_thing : Addr}
    (aReader_take_thing : PySem.W.findIn K (.ref C_Reader) "take_thing" = some (some (.ref fReader_take_thing))) (iReader_take_thing : PySem.W.isFn K (.ref fReader_take_thing) = true) (lReader_take_thing : K.lookup fReader_take_thing = some ⟨ocReader_take_thing, odReader_take_thing, .func (PySem.W.fnOf "take_thing" "Reader.take_thing" (defArgs s_Reader_take_thing) (defBody s_Reader_take_thing) (defScope s_Reader_take_thing) .none kVReader_take_thing dcReader_take_thing pmReader_take_thing anReader_take_thing cdReader_take_thing ctReader_take_thing), slReader_take_thing⟩) (cReader_take_thing : PySem.W.codeIn K cdReader_take_thing "Reader.take_thing" = true) (kReader_take_thing : PySem.W.keepIn K (.ref fReader_take_thing) = true)
    {odReader_take_helper anReader_take_helper : Option Addr} {slReader_take_helper : Array (Option Value)} {ocReader_take_helper kVReader_take_helper dcReader_take_helper pmReader_take_helper cdReader_take_helper ctReader_take_helper : Value} {fReader_take_helper : Addr}
    (aReader_take_helper : PySem.W.findIn K (.ref C_Reader) "take_helper" = some (some (.ref fReader_take_helper))) (iReader_take_helper : PySem.W.isFn K (.ref fReader_take_helper) = true) (lReader_take_helper : K.lookup fReader_take_helper = some ⟨ocReader_take_helper, odReader_take_helper, .func (PySem.W.fnOf "take_helper" "Reader.take_helper" (defArgs s_Reader_take_helper) (defBody s_Reader_take_helper) (defScope s_Reader_take_helper) .none kVReader_take_helper dcReader_take_helper pmReader_take_helper anReader_take_helper cdReader_take_helper ctReader_take_helper), slReader_take_helper⟩) (cReader_take_helper : PySem.W.codeIn K cdReader_take_helper "Reader.take_helper" = true) (kReader_take_helper : PySem.W.keepIn K (.ref fReader_take_helper) = true)
    {odReader_take_claim anReader_take_claim : Option Addr} {slReader_take_claim : Array (Option Value)} {ocReader_take_claim kVReader_take_claim dcReader_take_claim pmReader_take_claim cdReader_take_claim ctReader_take_claim : Value} {fReader_take_claim : Addr}
    (aReader_take_claim : PySem.W.findIn K (.ref C_Reader) "take_claim" = some (some (.ref fReader_take_claim))) (iReader_take_claim : PySem.W.isFn K (.ref fReader_take_claim) = true) (lReader_take_claim : K.lookup fReader_take_claim = some ⟨ocReader_take_claim, odReader_take_claim, .func (PySem.W.fnOf "take_claim" "Reader.take_claim" (defArgs s_Reader_take_claim) (defBody s_Reader_take_claim) (defScope s_Reader_take_claim) .none kVReader_take_claim dcReader_take_claim pmReader_take_claim anReader_take_claim cdReader_take_claim ctReader_take_claim), slReader_take_claim⟩) (cReader_take_claim : PySem.W.codeIn K cdReader_take_claim "Reader.take_claim" = true) (kReader_take_claim : PySem.W.keepIn K (.ref fReader_take_claim) = true)
    {t_ANY : Tok} (c_ANY : PySem.W.nsIn K mainGlobals "ANY" = some (some (.int (-1) t_ANY)))
    {t_MOST_CLAIMS : Tok} (c_MOST_CLAIMS : PySem.W.nsIn K mainGlobals "MOST_CLAIMS" = some (some (.int (6) t_MOST_CLAIMS)))
    {t_MOST_DEEP : Tok} (c_MOST_DEEP : PySem.W.nsIn K mainGlobals "MOST_DEEP" = some (some (.int (2) t_MOST_DEEP)))
    {t_MOST_MARK : Tok} (c_MOST_MARK : PySem.W.nsIn K mainGlobals "MOST_MARK" = some (some (.int (9) t_MOST_MARK)))
    {t_MOST_NUMBER : Tok} (c_MOST_NUMBER : PySem.W.nsIn K mainGlobals "MOST_NUMBER" = some (some (.int (999) t_MOST_NUMBER)))
    {t_MOST_ROOM : Tok} (c_MOST_ROOM : PySem.W.nsIn K mainGlobals "MOST_ROOM" = some (some (.int (4) t_MOST_ROOM)))
    {t_MOST_WITHIN : Tok} (c_MOST_WITHIN : PySem.W.nsIn K mainGlobals "MOST_WITHIN" = some (some (.int (3) t_MOST_WITHIN)))
    {t_MOST_WORTH : Tok} (c_MOST_WORTH : PySem.W.nsIn K mainGlobals "MOST_WORTH" = some (some (.int (9) t_MOST_WORTH)))
    {D_FIGURES : Addr} (d_FIGURES : PySem.W.nsIn K mainGlobals "FIGURES" = some (some (.ref D_FIGURES)))
    {es_FIGURES : Array DictEntry} {n_FIGURES : Nat} (fL_FIGURES : K.lookup D_FIGURES = some ⟨.type "dict", none, .dict es_FIGURES n_FIGURES, #[]⟩) (fK_FIGURES : PySem.W.KeysLit w.params es_FIGURES.toList) (fS_FIGURES : (D_FIGURES == sysModules) = false) (fE_FIGURES : es_FIGURES.toList.map (fun e => kStr e.key) = figKeys.map some)
    {t0_FIGURES : Tok} (v0_FIGURES : PySem.W.nsIn K D_FIGURES "-1" = some (some (.int (-1) t0_FIGURES)))
    {t1_FIGURES : Tok} (v1_FIGURES : PySem.W.nsIn K D_FIGURES "0" = some (some (.int (0) t1_FIGURES)))
    {t2_FIGURES : Tok} (v2_FIGURES : PySem.W.nsIn K D_FIGURES "1" = some (some (.int (1) t2_FIGURES)))
    {t3_FIGURES : Tok} (v3_FIGURES : PySem.W.nsIn K D_FIGURES "2" = some (some (.int (2) t3_FIGURES)))
    {t4_FIGURES : Tok} (v4_FIGURES : PySem.W.nsIn K D_FIGURES "3" = some (some (.int (3) t4_FIGURES)))
    {t5_FIGURES : Tok} (v5_FIGURES : PySem.W.nsIn K D_FIGURES "4" = some (some (.int (4) t5_FIGURES)))
    {t6_FIGURES : Tok} (v6_FIGURES : PySem.W.nsIn K D_FIGURES "5" = some (some (.int (5) t6_FIGURES)))
    {t7_FIGURES : Tok} (v7_FIGURES : PySem.W.nsIn K D_FIGURES "6" = some (some (.int (6) t7_FIGURES)))
    {t8_FIGURES : Tok} (v8_FIGURES : PySem.W.nsIn K D_FIGURES "7" = some (some (.int (7) t8_FIGURES)))
    {t9_FIGURES : Tok} (v9_FIGURES : PySem.W.nsIn K D_FIGURES "8" = some (some (.int (8) t9_FIGURES)))
    {t10_FIGURES : Tok} (v10_FIGURES : PySem.W.nsIn K D_FIGURES "9" = some (some (.int (9) t10_FIGURES)))
    (z_ValueError : PySem.W.nsIn K mainGlobals "ValueError" = some none)
    (z_all : PySem.W.nsIn K mainGlobals "all" = some none)
    (z_bool : PySem.W.nsIn K mainGlobals "bool" = some none)
    (z_enumerate : PySem.W.nsIn K mainGlobals "enumerate" = some none)
    (z_int : PySem.W.nsIn K mainGlobals "int" = some none)
    (z_isinstance : PySem.W.nsIn K mainGlobals "isinstance" = some none)
    (z_len : PySem.W.nsIn K mainGlobals "len" = some none)
    (z_list : PySem.W.nsIn K mainGlobals "list" = some none)
    (z_max : PySem.W.nsIn K mainGlobals "max" = some none)
    (z_min : PySem.W.nsIn K mainGlobals "min" = some none)
    (z_range : PySem.W.nsIn K mainGlobals "range" = some none)
    (z_reversed : PySem.W.nsIn K mainGlobals "reversed" = some none)
    (z_str : PySem.W.nsIn K mainGlobals "str" = some none)
    (z_super : PySem.W.nsIn K mainGlobals "super" = some none)
    (z_tuple : PySem.W.nsIn K mainGlobals "tuple" = some none) :
    ∃ fd : FuncData, (∀ (s : Shared) (v : Value), BindsTo s fd ⟨[v], []⟩ [("_law_script", v)]) ∧ ∀ base : Heap, K.In base → base.Ns mainGlobals mg → TabB base mg lc29 lp29 → FnOk l.prog w K mg base CX0 11 fa fd ["_law_script"] (spLaw K lp29) := by
  have e := hfa.symm.trans (PySem.W.mg_of X G a29)
  cases e
  subst e29
  let T : Txt K mg := ⟨def_mk X G a0 l0 c0 k0 (fun _ _ _ _ _ _ us hl => match us, hl with | [_, _, _], _ => rfl),
    def_mk X G a1 l1 c1 k1 (fun _ _ _ _ _ _ us hl => match us, hl with | [_, _], _ => rfl),
    def_mk X G a2 l2 c2 k2 (fun _ _ _ _ _ _ us hl => match us, hl with | [_], _ => rfl),
    def_mk X G a3 l3 c3 k3 (fun _ _ _ _ _ _ us hl => match us, hl with | [_], _ => rfl),
    def_mk X G a4 l4 c4 k4 (fun _ _ _ _ _ _ us hl => match us, hl with | [_], _ => rfl),
    def_mk X G a5 l5 c5 k5 (fun _ _ _ _ _ _ us hl => match us, hl with | [_], _ => rfl),
    def_mk X G a6 l6 c6 k6 (fun _ _ _ _ _ _ us hl => match us, hl with | [_], _ => rfl),
    def_mk X G a7 l7 c7 k7 (fun _ _ _ _ _ _ us hl => match us, hl with | [_], _ => rfl),
    def_mk X G a8 l8 c8 k8 (fun _ _ _ _ _ _ us hl => match us, hl with | [_], _ => rfl),
    def_mk X G a9 l9 c9 k9 (fun _ _ _ _ _ _ us hl => match us, hl with | [_], _ => rfl),
    def_mk X G a10 l10 c10 k10 (fun _ _ _ _ _ _ us hl => match us, hl with | [_], _ => rfl),
    def_mk X G a11 l11 c11 k11 (fun _ _ _ _ _ _ us hl => match us, hl with | [_], _ => rfl),
    def_mk X G a12 l12 c12 k12 (fun _ _ _ _ _ _ us hl => match us, hl with | [_], _ => rfl),
    def_mk X G a13 l13 c13 k13 (fun _ _ _ _ _ _ us hl => match us, hl with | [_, _], _ => rfl),
    def_mk X G a14 l14 c14 k14 (fun _ _ _ _ _ _ us hl => match us, hl with | [_, _], _ => rfl),
    def_mk X G a15 l15 c15 k15 (fun _ _ _ _ _ _ us hl => match us, hl with | [_, _], _ => rfl),
    def_mk X G a16 l16 c16 k16 (fun _ _ _ _ _ _ us hl => match us, hl with | [_], _ => rfl),
    def_mk X G a17 l17 c17 k17 (fun _ _ _ _ _ _ us hl => match us, hl with | [_], _ => rfl),
    def_mk X G a18 l18 c18 k18 (fun _ _ _ _ _ _ us hl => match us, hl with | [_, _], _ => rfl),
    def_mk X G a19 l19 c19 k19 (fun _ _ _ _ _ _ us hl => match us, hl with | [_, _], _ => rfl),
    def_mk X G a20 l20 c20 k20 (fun _ _ _ _ _ _ us hl => match us, hl with | [_, _], _ => rfl),
    def_mk X G a21 l21 c21 k21 (fun _ _ _ _ _ _ us hl => match us, hl with | [_], _ => rfl),
    def_mk X G a22 l22 c22 k22 (fun _ _ _ _ _ _ us hl => match us, hl with | [_, _], _ => rfl),
    def_mk X G a23 l23 c23 k23 (fun _ _ _ _ _ _ us hl => match us, hl with | [_], _ => rfl),
    def_mk X G a24 l24 c24 k24 (fun _ _ _ _ _ _ us hl => match us, hl with | [_], _ => rfl),
    def_mk X G a25 l25 c25 k25 (fun _ _ _ _ _ _ us hl => match us, hl with | [_], _ => rfl),
    def_mk X G a26 l26 c26 k26 (fun _ _ _ _ _ _ us hl => match us, hl with | [_], _ => rfl),
    def_mk X G a27 l27 c27 k27 (fun _ _ _ _ _ _ us hl => match us, hl with | [_], _ => rfl),
    def_mk X G a28 l28 c28 k28 (fun _ _ _ _ _ _ us hl => match us, hl with | [_, _], _ => rfl),
    def_mk X G a29 l29 c29 k29 (fun _ _ _ _ _ _ us hl => match us, hl with | [_], _ => rfl),
    lc29,
    lp29,
    rfl,
    fileN,
    C_MatchError,
    PySem.W.mg_of X G aC_MatchError,
    kC_MatchError,
    C_BadThing,
    PySem.W.mg_of X G aC_BadThing,
    kC_BadThing,
    C_BadClaims,
    PySem.W.mg_of X G aC_BadClaims,
    kC_BadClaims,
    C_BadHeld,
    PySem.W.mg_of X G aC_BadHeld,
    kC_BadHeld,
    C_BadText,
    PySem.W.mg_of X G aC_BadText,
    kC_BadText,
    C_BadRoom,
    PySem.W.mg_of X G aC_BadRoom,
    kC_BadRoom,
    C_BadNumbers,
    PySem.W.mg_of X G aC_BadNumbers,
    kC_BadNumbers,
    C_NoThing,
    PySem.W.mg_of X G aC_NoThing,
    kC_NoThing,
    C_NoHelper,
    PySem.W.mg_of X G aC_NoHelper,
    kC_NoHelper,
    C_TooMany,
    PySem.W.mg_of X G aC_TooMany,
    kC_TooMany,
    ⟨PySem.W.mg_of X G aC_BadText, ⟨ga_BadText, gg_BadText, eC_BadText, hd_BadText⟩, ⟨ga_BadText, gg_BadText, eC_BadText, hd_BadText, cl2_BadText, gN, tN, mo_BadText⟩, no_BadText, ⟨fI_BadText, cc_BadText, cda_BadText, oc_BadText, od_BadText, an_BadText, osl_BadText, .none, kV_BadText, doc_BadText, pm_BadText, ct_BadText, iC_BadText, tI_BadText, lI_BadText, cI_BadText, ⟨⟨⟨nm_BadText, q_BadText, N_BadText, bs_BadText, bm_BadText, sn_BadText, sub_BadText, ab_BadText, col_BadText, dd_BadText, m0_BadText, m1_BadText, m2_BadText, m3_BadText, m5_BadText, xL_BadText, xR_BadText⟩, sa_BadText, eC_BadText, tC_BadText, kC_BadText⟩, ⟨cl_BadText, cld_BadText, csl_BadText, ce_BadText⟩, ⟨ccl_BadText, cdd_BadText, vs_BadText, ccs_BadText, tf_BadText, co_BadText, cf_BadText⟩, PySem.W.mg_none_of X G z_super, stA, su_BadText, vC_BadText, mw_BadText⟩⟩⟩,
    xm_BadText,
    i_BadThing_BadText,
    i_BadClaims_BadText,
    i_BadHeld_BadText,
    i_BadText_BadText,
    i_BadRoom_BadText,
    i_BadNumbers_BadText,
    i_NoThing_BadText,
    i_NoHelper_BadText,
    i_TooMany_BadText,
    i_ValueError_BadText,
    C_Reader,
    ⟨PySem.W.mg_of X G aC_Reader, ⟨pg_Reader, hd_Reader, po_Reader, sa_Reader⟩, mk_Reader, kC_Reader⟩,
    n_Reader_trees,
    n_Reader_path,
    n_Reader_staff,
    meth_mk aReader___init__ iReader___init__ lReader___init__ cReader___init__ kReader___init__ (fun _ _ _ _ _ _ us hl => match us, hl with | [_], _ => rfl),
    meth_mk aReader_take_row iReader_take_row lReader_take_row cReader_take_row kReader_take_row (fun _ _ _ _ _ _ us hl => match us, hl with | [_, _], _ => rfl),
    meth_mk aReader_take_thing iReader_take_thing lReader_take_thing cReader_take_thing kReader_take_thing (fun _ _ _ _ _ _ us hl => match us, hl with | [_, _, _], _ => rfl),
    meth_mk aReader_take_helper iReader_take_helper lReader_take_helper cReader_take_helper kReader_take_helper (fun _ _ _ _ _ _ us hl => match us, hl with | [_, _], _ => rfl),
    meth_mk aReader_take_claim iReader_take_claim lReader_take_claim cReader_take_claim kReader_take_claim (fun _ _ _ _ _ _ us hl => match us, hl with | [_, _], _ => rfl),
    t_ANY,
    PySem.W.mg_of X G c_ANY,
    t_MOST_CLAIMS,
    PySem.W.mg_of X G c_MOST_CLAIMS,
    t_MOST_DEEP,
    PySem.W.mg_of X G c_MOST_DEEP,
    t_MOST_MARK,
    PySem.W.mg_of X G c_MOST_MARK,
    t_MOST_NUMBER,
    PySem.W.mg_of X G c_MOST_NUMBER,
    t_MOST_ROOM,
    PySem.W.mg_of X G c_MOST_ROOM,
    t_MOST_WITHIN,
    PySem.W.mg_of X G c_MOST_WITHIN,
    t_MOST_WORTH,
    PySem.W.mg_of X G c_MOST_WORTH,
    D_FIGURES,
    PySem.W.mg_of X G d_FIGURES,
    PySem.W.mg_none_of X G z_ValueError,
    PySem.W.mg_none_of X G z_all,
    PySem.W.mg_none_of X G z_bool,
    PySem.W.mg_none_of X G z_enumerate,
    PySem.W.mg_none_of X G z_int,
    PySem.W.mg_none_of X G z_isinstance,
    PySem.W.mg_none_of X G z_len,
    PySem.W.mg_none_of X G z_list,
    PySem.W.mg_none_of X G z_max,
    PySem.W.mg_none_of X G z_min,
    PySem.W.mg_none_of X G z_range,
    PySem.W.mg_none_of X G z_reversed,
    PySem.W.mg_none_of X G z_str,
    PySem.W.mg_none_of X G z_super,
    PySem.W.mg_none_of X G z_tuple⟩
  exact ⟨PySem.W.fnOf "law" "law" (defArgs s_law) (defBody s_law) (defScope s_law) .none kV29 dc29 pm29 an29 (.ref lc29) ct29, fun s v => .of_eq rfl, fun base _ _ TB29 => ok_law T TB29 hPF (fig_mk fL_FIGURES fK_FIGURES fS_FIGURES fE_FIGURES v0_FIGURES v1_FIGURES v2_FIGURES v3_FIGURES v4_FIGURES v5_FIGURES v6_FIGURES v7_FIGURES v8_FIGURES v9_FIGURES v10_FIGURES)⟩
theorem at_mk {l : PySem.W.OpenLaw} {w : World} {K : PySem.W.Frag} {h : Heap} {mg : Str → Option Value} {fa c p : Addr} (X : K.In h) (A : ∃ fd : FuncData, (∀ (s : Shared) (v : Value), BindsTo s fd ⟨[v], []⟩ [("_law_script", v)]) ∧ ∀ base : Heap, K.In base → base.Ns mainGlobals mg → TabB base mg c p → L2.FnOk l.prog w K mg base L2.CX0 11 fa fd ["_law_script"] (spLaw K p))
    (hT : h.get? p = some (PySem.W.tabObj #[])) (nP : K.lookup p = none) (hC : PySem.W.codeHdIn K c p = true) : LamX.LawAtS l w K L2.CX0 11 63 "_law_script" mg fa h := by
  obtain ⟨fd, hb, hf⟩ := A
  refine ⟨fd, [(c, p)], spLaw K p, fun q hq => ?_, fun q hq => ?_, fun q hq => ?_, hb, fun H a ns hl _ hH hS => ⟨a, ns, rfl, hS, hl, hH (c, p) (by simp), fun _ => rfl⟩, fun base h1 h2 h3 => hf base h1 h2 (h3 (c, p) (by simp))⟩
  · rw [List.mem_singleton.mp hq]; exact hT
  · rw [List.mem_singleton.mp hq]; exact nP
  · rw [List.mem_singleton.mp hq]; exact PySem.W.codeHd_of_K X hC
end Dm
open PySem PySem.W PyProof.Rows
theorem PySem.Challenge.cw_drivermatch_k14_texts_refused_holds : PySem.Challenge.rw_drivermatch_k14_texts_refused.Holds := by
  w_on; o_law; k_head; (case hw => w_witness2)
  k_fill
  refine LamX.walk_ofTs (l := PySem.Challenge.rw_drivermatch_k14_texts_refused) (n := 63) (k := 11) (x := "_law_script") (CX := fun _ => L2.CX0) rfl (by decide) rfl ⟨rfl, by decide, by decide⟩ (fun w h Y => PySem.W.km_in_of Y) ?F (fun _ _ _ _ _ h => h)
  case F =>
    intro w mg fa h Y KX G hmg
    have hT8 := PySem.W.km_tabs_of Y
    refine' Dm.at_mk KX (Dm.all_mk KX G hmg ?a0 ?l0 ?c0 ?k0 ?a1 ?l1 ?c1 ?k1 ?a2 ?l2 ?c2 ?k2 ?a3 ?l3 ?c3 ?k3 ?a4 ?l4 ?c4 ?k4 ?a5 ?l5 ?c5 ?k5 ?a6 ?l6 ?c6 ?k6 ?a7 ?l7 ?c7 ?k7 ?a8 ?l8 ?c8 ?k8 ?a9 ?l9 ?c9 ?k9 ?a10 ?l10 ?c10 ?k10 ?a11 ?l11 ?c11 ?k11 ?a12 ?l12 ?c12 ?k12 ?a13 ?l13 ?c13 ?k13 ?a14 ?l14 ?c14 ?k14 ?a15 ?l15 ?c15 ?k15 ?a16 ?l16 ?c16 ?k16 ?a17 ?l17 ?c17 ?k17 ?a18 ?l18 ?c18 ?k18 ?a19 ?l19 ?c19 ?k19 ?a20 ?l20 ?c20 ?k20 ?a21 ?l21 ?c21 ?k21 ?a22 ?l22 ?c22 ?k22 ?a23 ?l23 ?c23 ?k23 ?a24 ?l24 ?c24 ?k24 ?a25 ?l25 ?c25 ?k25 ?a26 ?l26 ?c26 ?k26 ?a27 ?l27 ?c27 ?k27 ?a28 ?l28 ?c28 ?k28 ?a29 ?l29 ?c29 ?k29 ?q29 ?e29 ?aC_MatchError ?kC_MatchError ?aC_BadThing ?kC_BadThing ?aC_BadClaims ?kC_BadClaims ?aC_BadHeld ?kC_BadHeld ?aC_BadText ?kC_BadText ?aC_BadRoom ?kC_BadRoom ?aC_BadNumbers ?kC_BadNumbers ?aC_NoThing ?kC_NoThing ?aC_NoHelper ?kC_NoHelper ?aC_TooMany ?kC_TooMany ?xL_BadText ?xR_BadText ?sa_BadText ?ga_BadText ?gg_BadText ?no_BadText ?hd_BadText ?eC_BadText ?vC_BadText ?tC_BadText ?cl2_BadText ?mo_BadText ?mw_BadText ?iC_BadText ?tI_BadText ?lI_BadText ?cI_BadText ?ce_BadText ?co_BadText ?cf_BadText ?su_BadText ?xm_BadText ?i_BadThing_BadText ?i_BadClaims_BadText ?i_BadHeld_BadText ?i_BadText_BadText ?i_BadRoom_BadText ?i_BadNumbers_BadText ?i_NoThing_BadText ?i_NoHelper_BadText ?i_TooMany_BadText ?i_ValueError_BadText ?gN ?tN ?stA ?hPF ?aC_Reader ?pg_Reader ?hd_Reader ?po_Reader ?sa_Reader ?mk_Reader ?kC_Reader ?n_Reader_trees ?n_Reader_path ?n_Reader_staff ?aReader___init__ ?iReader___init__ ?lReader___init__ ?cReader___init__ ?kReader___init__ ?aReader_take_row ?iReader_take_row ?lReader_take_row ?cReader_take_row ?kReader_take_row ?aReader_take_thing ?iReader_take_thing ?lReader_take_thing ?cReader_take_thing ?kReader_take_thing ?aReader_take_helper ?iReader_take_helper ?lReader_take_helper ?cReader_take_helper ?kReader_take_helper ?aReader_take_claim ?iReader_take_claim ?lReader_take_claim ?cReader_take_claim ?kReader_take_claim ?c_ANY ?c_MOST_CLAIMS ?c_MOST_DEEP ?c_MOST_MARK ?c_MOST_NUMBER ?c_MOST_ROOM ?c_MOST_WITHIN ?c_MOST_WORTH ?d_FIGURES ?fL_FIGURES ?fK_FIGURES ?fS_FIGURES ?fE_FIGURES ?v0_FIGURES ?v1_FIGURES ?v2_FIGURES ?v3_FIGURES ?v4_FIGURES ?v5_FIGURES ?v6_FIGURES ?v7_FIGURES ?v8_FIGURES ?v9_FIGURES ?v10_FIGURES ?z_ValueError ?z_all ?z_bool ?z_enumerate ?z_int ?z_isinstance ?z_len ?z_list ?z_max ?z_min ?z_range ?z_reversed ?z_str ?z_super ?z_tuple) ?hT ?nP ?hC
    (case a0 => first | k_is | rfl | kernel_rfl | ks_is | kit_is | (constructor <;> first | rfl | decide +kernel) | decide +kernel)
    (case l0 => first | k_is | rfl | kernel_rfl | ks_is | kit_is | (constructor <;> first | rfl | decide +kernel) | decide +kernel)
    (case c0 => first | k_is | rfl | kernel_rfl | ks_is | kit_is | (constructor <;> first | rfl | decide +kernel) | decide +kernel)
    (case k0 => first | k_is | rfl | kernel_rfl | ks_is | kit_is | (constructor <;> first | rfl | decide +kernel) | decide +kernel)
    (case a1 => first | k_is | rfl | kernel_rfl | ks_is | kit_is | (constructor <;> first | rfl | decide +kernel) | decide +kernel)
    (case l1 => first | k_is | rfl | kernel_rfl | ks_is | kit_is | (constructor <;> first | rfl | decide +kernel) | decide +kernel)
    (case c1 => first | k_is | rfl | kernel_rfl | ks_is | kit_is | (constructor <;> first | rfl | decide +kernel) | decide +kernel)
    (case k1 => first | k_is | rfl | kernel_rfl | ks_is | kit_is | (constructor <;> first | rfl | decide +kernel) | decide +kernel)
    (case a2 => first | k_is | rfl | kernel_rfl | ks_is | kit_is | (constructor <;> first | rfl | decide +kernel) | decide +kernel)
    (case l2 => first | k_is | rfl | kernel_rfl | ks_is | kit_is | (constructor <;> first | rfl | decide +kernel) | decide +kernel)
    (case c2 => first | k_is | rfl | kernel_rfl | ks_is | kit_is | (constructor <;> first | rfl | decide +kernel) | decide +kernel)
    (case k2 => first | k_is | rfl | kernel_rfl | ks_is | kit_is | (constructor <;> first | rfl | decide +kernel) | decide +kernel)
    (case a3 => first | k_is | rfl | kernel_rfl | ks_is | kit_is | (constructor <;> first | rfl | decide +kernel) | decide +kernel)
    (case l3 => first | k_is | rfl | kernel_rfl | ks_is | kit_is | (constructor <;> first | rfl | decide +kernel) | decide +kernel)
    (case c3 => first | k_is | rfl | kernel_rfl | ks_is | kit_is | (constructor <;> first | rfl | decide +kernel) | decide +kernel)
    (case k3 => first | k_is | rfl | kernel_rfl | ks_is | kit_is | (constructor <;> first | rfl | decide +kernel) | decide +kernel)
    (case a4 => first | k_is | rfl | kernel_rfl | ks_is | kit_is | (constructor <;> first | rfl | decide +kernel) | decide +kernel)
    (case l4 => first | k_is | rfl | kernel_rfl | ks_is | kit_is | (constructor <;> first | rfl | decide +kernel) | decide +kernel)
    (case c4 => first | k_is | rfl | kernel_rfl | ks_is | kit_is | (constructor <;> first | rfl | decide +kernel) | decide +kernel)
    (case k4 => first | k_is | rfl | kernel_rfl | ks_is | kit_is | (constructor <;> first | rfl | decide +kernel) | decide +kernel)
    (case a5 => first | k_is | rfl | kernel_rfl | ks_is | kit_is | (constructor <;> first | rfl | decide +kernel) | decide +kernel)
    (case l5 => first | k_is | rfl | kernel_rfl | ks_is | kit_is | (constructor <;> first | rfl | decide +kernel) | decide +kernel)
    (case c5 => first | k_is | rfl | kernel_rfl | ks_is | kit_is | (constructor <;> first | rfl | decide +kernel) | decide +kernel)
    (case k5 => first | k_is | rfl | kernel_rfl | ks_is | kit_is | (constructor <;> first | rfl | decide +kernel) | decide +kernel)
    (case a6 => first | k_is | rfl | kernel_rfl | ks_is | kit_is | (constructor <;> first | rfl | decide +kernel) | decide +kernel)
    (case l6 => first | k_is | rfl | kernel_rfl | ks_is | kit_is | (constructor <;> first | rfl | decide +kernel) | decide +kernel)
    (case c6 => first | k_is | rfl | kernel_rfl | ks_is | kit_is | (constructor <;> first | rfl | decide +kernel) | decide +kernel)
    (case k6 => first | k_is | rfl | kernel_rfl | ks_is | kit_is | (constructor <;> first | rfl | decide +kernel) | decide +kernel)
    (case a7 => first | k_is | rfl | kernel_rfl | ks_is | kit_is | (constructor <;> first | rfl | decide +kernel) | decide +kernel)
    (case l7 => first | k_is | rfl | kernel_rfl | ks_is | kit_is | (constructor <;> first | rfl | decide +kernel) | decide +kernel)
    (case c7 => first | k_is | rfl | kernel_rfl | ks_is | kit_is | (constructor <;> first | rfl | decide +kernel) | decide +kernel)
    (case k7 => first | k_is | rfl | kernel_rfl | ks_is | kit_is | (constructor <;> first | rfl | decide +kernel) | decide +kernel)
    (case a8 => first | k_is | rfl | kernel_rfl | ks_is | kit_is | (constructor <;> first | rfl | decide +kernel) | decide +kernel)
    (case l8 => first | k_is | rfl | kernel_rfl | ks_is | kit_is | (constructor <;> first | rfl | decide +kernel) | decide +kernel)
    (case c8 => first | k_is | rfl | kernel_rfl | ks_is | kit_is | (constructor <;> first | rfl | decide +kernel) | decide +kernel)
    (case k8 => first | k_is | rfl | kernel_rfl | ks_is | kit_is | (constructor <;> first | rfl | decide +kernel) | decide +kernel)
    (case a9 => first | k_is | rfl | kernel_rfl | ks_is | kit_is | (constructor <;> first | rfl | decide +kernel) | decide +kernel)
    (case l9 => first | k_is | rfl | kernel_rfl | ks_is | kit_is | (constructor <;> first | rfl | decide +kernel) | decide +kernel)
    (case c9 => first | k_is | rfl | kernel_rfl | ks_is | kit_is | (constructor <;> first | rfl | decide +kernel) | decide +kernel)
    (case k9 => first | k_is | rfl | kernel_rfl | ks_is | kit_is | (constructor <;> first | rfl | decide +kernel) | decide +kernel)
    (case a10 => first | k_is | rfl | kernel_rfl | ks_is | kit_is | (constructor <;> first | rfl | decide +kernel) | decide +kernel)
    (case l10 => first | k_is | rfl | kernel_rfl | ks_is | kit_is | (constructor <;> first | rfl | decide +kernel) | decide +kernel)
    (case c10 => first | k_is | rfl | kernel_rfl | ks_is | kit_is | (constructor <;> first | rfl | decide +kernel) | decide +kernel)
    (case k10 => first | k_is | rfl | kernel_rfl | ks_is | kit_is | (constructor <;> first | rfl | decide +kernel) | decide +kernel)
    (case a11 => first | k_is | rfl | kernel_rfl | ks_is | kit_is | (constructor <;> first | rfl | decide +kernel) | decide +kernel)
    (case l11 => first | k_is | rfl | kernel_rfl | ks_is | kit_is | (constructor <;> first | rfl | decide +kernel) | decide +kernel)
    (case c11 => first | k_is | rfl | kernel_rfl | ks_is | kit_is | (constructor <;> first | rfl | decide +kernel) | decide +kernel)
    (case k11 => first | k_is | rfl | kernel_rfl | ks_is | kit_is | (constructor <;> first | rfl | decide +kernel) | decide +kernel)
    (case a12 => first | k_is | rfl | kernel_rfl | ks_is | kit_is | (constructor <;> first | rfl | decide +kernel) | decide +kernel)
    (case l12 => first | k_is | rfl | kernel_rfl | ks_is | kit_is | (constructor <;> first | rfl | decide +kernel) | decide +kernel)
    (case c12 => first | k_is | rfl | kernel_rfl | ks_is | kit_is | (constructor <;> first | rfl | decide +kernel) | decide +kernel)
    (case k12 => first | k_is | rfl | kernel_rfl | ks_is | kit_is | (constructor <;> first | rfl | decide +kernel) | decide +kernel)
    (case a13 => first | k_is | rfl | kernel_rfl | ks_is | kit_is | (constructor <;> first | rfl | decide +kernel) | decide +kernel)
    (case l13 => first | k_is | rfl | kernel_rfl | ks_is | kit_is | (constructor <;> first | rfl | decide +kernel) | decide +kernel)
    (case c13 => first | k_is | rfl | kernel_rfl | ks_is | kit_is | (constructor <;> first | rfl | decide +kernel) | decide +kernel)
    (case k13 => first | k_is | rfl | kernel_rfl | ks_is | kit_is | (constructor <;> first | rfl | decide +kernel) | decide +kernel)
    (case a14 => first | k_is | rfl | kernel_rfl | ks_is | kit_is | (constructor <;> first | rfl | decide +kernel) | decide +kernel)
    (case l14 => first | k_is | rfl | kernel_rfl | ks_is | kit_is | (constructor <;> first | rfl | decide +kernel) | decide +kernel)
    (case c14 => first | k_is | rfl | kernel_rfl | ks_is | kit_is | (constructor <;> first | rfl | decide +kernel) | decide +kernel)
    (case k14 => first | k_is | rfl | kernel_rfl | ks_is | kit_is | (constructor <;> first | rfl | decide +kernel) | decide +kernel)
    (case a15 => first | k_is | rfl | kernel_rfl | ks_is | kit_is | (constructor <;> first | rfl | decide +kernel) | decide +kernel)
    (case l15 => first | k_is | rfl | kernel_rfl | ks_is | kit_is | (constructor <;> first | rfl | decide +kernel) | decide +kernel)
    (case c15 => first | k_is | rfl | kernel_rfl | ks_is | kit_is | (constructor <;> first | rfl | decide +kernel) | decide +kernel)
    (case k15 => first | k_is | rfl | kernel_rfl | ks_is | kit_is | (constructor <;> first | rfl | decide +kernel) | decide +kernel)
    (case a16 => first | k_is | rfl | kernel_rfl | ks_is | kit_is | (constructor <;> first | rfl | decide +kernel) | decide +kernel)
    (case l16 => first | k_is | rfl | kernel_rfl | ks_is | kit_is | (constructor <;> first | rfl | decide +kernel) | decide +kernel)
    (case c16 => first | k_is | rfl | kernel_rfl | ks_is | kit_is | (constructor <;> first | rfl | decide +kernel) | decide +kernel)
    (case k16 => first | k_is | rfl | kernel_rfl | ks_is | kit_is | (constructor <;> first | rfl | decide +kernel) | decide +kernel)
    (case a17 => first | k_is | rfl | kernel_rfl | ks_is | kit_is | (constructor <;> first | rfl | decide +kernel) | decide +kernel)
    (case l17 => first | k_is | rfl | kernel_rfl | ks_is | kit_is | (constructor <;> first | rfl | decide +kernel) | decide +kernel)
    (case c17 => first | k_is | rfl | kernel_rfl | ks_is | kit_is | (constructor <;> first | rfl | decide +kernel) | decide +kernel)
    (case k17 => first | k_is | rfl | kernel_rfl | ks_is | kit_is | (constructor <;> first | rfl | decide +kernel) | decide +kernel)
    (case a18 => first | k_is | rfl | kernel_rfl | ks_is | kit_is | (constructor <;> first | rfl | decide +kernel) | decide +kernel)
    (case l18 => first | k_is | rfl | kernel_rfl | ks_is | kit_is | (constructor <;> first | rfl | decide +kernel) | decide +kernel)
    (case c18 => first | k_is | rfl | kernel_rfl | ks_is | kit_is | (constructor <;> first | rfl | decide +kernel) | decide +kernel)
    (case k18 => first | k_is | rfl | kernel_rfl | ks_is | kit_is | (constructor <;> first | rfl | decide +kernel) | decide +kernel)
    (case a19 => first | k_is | rfl | kernel_rfl | ks_is | kit_is | (constructor <;> first | rfl | decide +kernel) | decide +kernel)
    (case l19 => first | k_is | rfl | kernel_rfl | ks_is | kit_is | (constructor <;> first | rfl | decide +kernel) | decide +kernel)
    (case c19 => first | k_is | rfl | kernel_rfl | ks_is | kit_is | (constructor <;> first | rfl | decide +kernel) | decide +kernel)
    (case k19 => first | k_is | rfl | kernel_rfl | ks_is | kit_is | (constructor <;> first | rfl | decide +kernel) | decide +kernel)
    (case a20 => first | k_is | rfl | kernel_rfl | ks_is | kit_is | (constructor <;> first | rfl | decide +kernel) | decide +kernel)
    (case l20 => first | k_is | rfl | kernel_rfl | ks_is | kit_is | (constructor <;> first | rfl | decide +kernel) | decide +kernel)
    (case c20 => first | k_is | rfl | kernel_rfl | ks_is | kit_is | (constructor <;> first | rfl | decide +kernel) | decide +kernel)
    (case k20 => first | k_is | rfl | kernel_rfl | ks_is | kit_is | (constructor <;> first | rfl | decide +kernel) | decide +kernel)
    (case a21 => first | k_is | rfl | kernel_rfl | ks_is | kit_is | (constructor <;> first | rfl | decide +kernel) | decide +kernel)
    (case l21 => first | k_is | rfl | kernel_rfl | ks_is | kit_is | (constructor <;> first | rfl | decide +kernel) | decide +kernel)
    (case c21 => first | k_is | rfl | kernel_rfl | ks_is | kit_is | (constructor <;> first | rfl | decide +kernel) | decide +kernel)
    (case k21 => first | k_is | rfl | kernel_rfl | ks_is | kit_is | (constructor <;> first | rfl | decide +kernel) | decide +kernel)
    (case a22 => first | k_is | rfl | kernel_rfl | ks_is | kit_is | (constructor <;> first | rfl | decide +kernel) | decide +kernel)
    (case l22 => first | k_is | rfl | kernel_rfl | ks_is | kit_is | (constructor <;> first | rfl | decide +kernel) | decide +kernel)
    (case c22 => first | k_is | rfl | kernel_rfl | ks_is | kit_is | (constructor <;> first | rfl | decide +kernel) | decide +kernel)
    (case k22 => first | k_is | rfl | kernel_rfl | ks_is | kit_is | (constructor <;> first | rfl | decide +kernel) | decide +kernel)
    (case a23 => first | k_is | rfl | kernel_rfl | ks_is | kit_is | (constructor <;> first | rfl | decide +kernel) | decide +kernel)
    (case l23 => first | k_is | rfl | kernel_rfl | ks_is | kit_is | (constructor <;> first | rfl | decide +kernel) | decide +kernel)
    (case c23 => first | k_is | rfl | kernel_rfl | ks_is | kit_is | (constructor <;> first | rfl | decide +kernel) | decide +kernel)
    (case k23 => first | k_is | rfl | kernel_rfl | ks_is | kit_is | (constructor <;> first | rfl | decide +kernel) | decide +kernel)
    (case a24 => first | k_is | rfl | kernel_rfl | ks_is | kit_is | (constructor <;> first | rfl | decide +kernel) | decide +kernel)
    (case l24 => first | k_is | rfl | kernel_rfl | ks_is | kit_is | (constructor <;> first | rfl | decide +kernel) | decide +kernel)
    (case c24 => first | k_is | rfl | kernel_rfl | ks_is | kit_is | (constructor <;> first | rfl | decide +kernel) | decide +kernel)
    (case k24 => first | k_is | rfl | kernel_rfl | ks_is | kit_is | (constructor <;> first | rfl | decide +kernel) | decide +kernel)
    (case a25 => first | k_is | rfl | kernel_rfl | ks_is | kit_is | (constructor <;> first | rfl | decide +kernel) | decide +kernel)
    (case l25 => first | k_is | rfl | kernel_rfl | ks_is | kit_is | (constructor <;> first | rfl | decide +kernel) | decide +kernel)
    (case c25 => first | k_is | rfl | kernel_rfl | ks_is | kit_is | (constructor <;> first | rfl | decide +kernel) | decide +kernel)
    (case k25 => first | k_is | rfl | kernel_rfl | ks_is | kit_is | (constructor <;> first | rfl | decide +kernel) | decide +kernel)
    (case a26 => first | k_is | rfl | kernel_rfl | ks_is | kit_is | (constructor <;> first | rfl | decide +kernel) | decide +kernel)
    (case l26 => first | k_is | rfl | kernel_rfl | ks_is | kit_is | (constructor <;> first | rfl | decide +kernel) | decide +kernel)
    (case c26 => first | k_is | rfl | kernel_rfl | ks_is | kit_is | (constructor <;> first | rfl | decide +kernel) | decide +kernel)
    (case k26 => first | k_is | rfl | kernel_rfl | ks_is | kit_is | (constructor <;> first | rfl | decide +kernel) | decide +kernel)
    (case a27 => first | k_is | rfl | kernel_rfl | ks_is | kit_is | (constructor <;> first | rfl | decide +kernel) | decide +kernel)
    (case l27 => first | k_is | rfl | kernel_rfl | ks_is | kit_is | (constructor <;> first | rfl | decide +kernel) | decide +kernel)
    (case c27 => first | k_is | rfl | kernel_rfl | ks_is | kit_is | (constructor <;> first | rfl | decide +kernel) | decide +kernel)
    (case k27 => first | k_is | rfl | kernel_rfl | ks_is | kit_is | (constructor <;> first | rfl | decide +kernel) | decide +kernel)
    (case a28 => first | k_is | rfl | kernel_rfl | ks_is | kit_is | (constructor <;> first | rfl | decide +kernel) | decide +kernel)
    (case l28 => first | k_is | rfl | kernel_rfl | ks_is | kit_is | (constructor <;> first | rfl | decide +kernel) | decide +kernel)
    (case c28 => first | k_is | rfl | kernel_rfl | ks_is | kit_is | (constructor <;> first | rfl | decide +kernel) | decide +kernel)
    (case k28 => first | k_is | rfl | kernel_rfl | ks_is | kit_is | (constructor <;> first | rfl | decide +kernel) | decide +kernel)
    (case a29 => first | k_is | rfl | kernel_rfl | ks_is | kit_is | (constructor <;> first | rfl | decide +kernel) | decide +kernel)
    (case l29 => first | k_is | rfl | kernel_rfl | ks_is | kit_is | (constructor <;> first | rfl | decide +kernel) | decide +kernel)
    (case c29 => first | k_is | rfl | kernel_rfl | ks_is | kit_is | (constructor <;> first | rfl | decide +kernel) | decide +kernel)
    (case k29 => first | k_is | rfl | kernel_rfl | ks_is | kit_is | (constructor <;> first | rfl | decide +kernel) | decide +kernel)
    (case q29 => first | k_is | rfl | kernel_rfl | ks_is | kit_is | (constructor <;> first | rfl | decide +kernel) | decide +kernel)
    (case e29 => first | k_is | rfl | kernel_rfl | ks_is | kit_is | (constructor <;> first | rfl | decide +kernel) | decide +kernel)
    (case aC_MatchError => first | k_is | rfl | kernel_rfl | ks_is | kit_is | (constructor <;> first | rfl | decide +kernel) | decide +kernel)
    (case kC_MatchError => first | k_is | rfl | kernel_rfl | ks_is | kit_is | (constructor <;> first | rfl | decide +kernel) | decide +kernel)
    (case aC_BadThing => first | k_is | rfl | kernel_rfl | ks_is | kit_is | (constructor <;> first | rfl | decide +kernel) | decide +kernel)
    (case kC_BadThing => first | k_is | rfl | kernel_rfl | ks_is | kit_is | (constructor <;> first | rfl | decide +kernel) | decide +kernel)
    (case aC_BadClaims => first | k_is | rfl | kernel_rfl | ks_is | kit_is | (constructor <;> first | rfl | decide +kernel) | decide +kernel)
    (case kC_BadClaims => first | k_is | rfl | kernel_rfl | ks_is | kit_is | (constructor <;> first | rfl | decide +kernel) | decide +kernel)
    (case aC_BadHeld => first | k_is | rfl | kernel_rfl | ks_is | kit_is | (constructor <;> first | rfl | decide +kernel) | decide +kernel)
    (case kC_BadHeld => first | k_is | rfl | kernel_rfl | ks_is | kit_is | (constructor <;> first | rfl | decide +kernel) | decide +kernel)
    (case aC_BadText => first | k_is | rfl | kernel_rfl | ks_is | kit_is | (constructor <;> first | rfl | decide +kernel) | decide +kernel)
    (case kC_BadText => first | k_is | rfl | kernel_rfl | ks_is | kit_is | (constructor <;> first | rfl | decide +kernel) | decide +kernel)
    (case aC_BadRoom => first | k_is | rfl | kernel_rfl | ks_is | kit_is | (constructor <;> first | rfl | decide +kernel) | decide +kernel)
    (case kC_BadRoom => first | k_is | rfl | kernel_rfl | ks_is | kit_is | (constructor <;> first | rfl | decide +kernel) | decide +kernel)
    (case aC_BadNumbers => first | k_is | rfl | kernel_rfl | ks_is | kit_is | (constructor <;> first | rfl | decide +kernel) | decide +kernel)
    (case kC_BadNumbers => first | k_is | rfl | kernel_rfl | ks_is | kit_is | (constructor <;> first | rfl | decide +kernel) | decide +kernel)
    (case aC_NoThing => first | k_is | rfl | kernel_rfl | ks_is | kit_is | (constructor <;> first | rfl | decide +kernel) | decide +kernel)
    (case kC_NoThing => first | k_is | rfl | kernel_rfl | ks_is | kit_is | (constructor <;> first | rfl | decide +kernel) | decide +kernel)
    (case aC_NoHelper => first | k_is | rfl | kernel_rfl | ks_is | kit_is | (constructor <;> first | rfl | decide +kernel) | decide +kernel)
    (case kC_NoHelper => first | k_is | rfl | kernel_rfl | ks_is | kit_is | (constructor <;> first | rfl | decide +kernel) | decide +kernel)
    (case aC_TooMany => first | k_is | rfl | kernel_rfl | ks_is | kit_is | (constructor <;> first | rfl | decide +kernel) | decide +kernel)
    (case kC_TooMany => first | k_is | rfl | kernel_rfl | ks_is | kit_is | (constructor <;> first | rfl | decide +kernel) | decide +kernel)
    (case xL_BadText => first | k_is | rfl | kernel_rfl | ks_is | kit_is | (constructor <;> first | rfl | decide +kernel) | decide +kernel)
    (case xR_BadText => first | k_is | rfl | kernel_rfl | ks_is | kit_is | (constructor <;> first | rfl | decide +kernel) | decide +kernel)
    (case sa_BadText => first | k_is | rfl | kernel_rfl | ks_is | kit_is | (constructor <;> first | rfl | decide +kernel) | decide +kernel)
    (case ga_BadText => first | k_is | rfl | kernel_rfl | ks_is | kit_is | (constructor <;> first | rfl | decide +kernel) | decide +kernel)
    (case gg_BadText => first | k_is | rfl | kernel_rfl | ks_is | kit_is | (constructor <;> first | rfl | decide +kernel) | decide +kernel)
    (case no_BadText => first | k_is | rfl | kernel_rfl | ks_is | kit_is | (constructor <;> first | rfl | decide +kernel) | decide +kernel)
    (case hd_BadText => first | k_is | rfl | kernel_rfl | ks_is | kit_is | (constructor <;> first | rfl | decide +kernel) | decide +kernel)
    (case eC_BadText => first | k_is | rfl | kernel_rfl | ks_is | kit_is | (constructor <;> first | rfl | decide +kernel) | decide +kernel)
    (case vC_BadText => first | k_is | rfl | kernel_rfl | ks_is | kit_is | (constructor <;> first | rfl | decide +kernel) | decide +kernel)
    (case tC_BadText => first | k_is | rfl | kernel_rfl | ks_is | kit_is | (constructor <;> first | rfl | decide +kernel) | decide +kernel)
    (case cl2_BadText => first | k_is | rfl | kernel_rfl | ks_is | kit_is | (constructor <;> first | rfl | decide +kernel) | decide +kernel)
    (case mo_BadText => first | k_is | rfl | kernel_rfl | ks_is | kit_is | (constructor <;> first | rfl | decide +kernel) | decide +kernel)
    (case mw_BadText => first | k_is | rfl | kernel_rfl | ks_is | kit_is | (constructor <;> first | rfl | decide +kernel) | decide +kernel)
    (case iC_BadText => first | k_is | rfl | kernel_rfl | ks_is | kit_is | (constructor <;> first | rfl | decide +kernel) | decide +kernel)
    (case tI_BadText => first | k_is | rfl | kernel_rfl | ks_is | kit_is | (constructor <;> first | rfl | decide +kernel) | decide +kernel)
    (case lI_BadText => first | k_is | rfl | kernel_rfl | ks_is | kit_is | (constructor <;> first | rfl | decide +kernel) | decide +kernel)
    (case cI_BadText => first | k_is | rfl | kernel_rfl | ks_is | kit_is | (constructor <;> first | rfl | decide +kernel) | decide +kernel)
    (case ce_BadText => first | k_is | rfl | kernel_rfl | ks_is | kit_is | (constructor <;> first | rfl | decide +kernel) | decide +kernel)
    (case co_BadText => first | k_is | rfl | kernel_rfl | ks_is | kit_is | (constructor <;> first | rfl | decide +kernel) | decide +kernel)
    (case cf_BadText => first | k_is | rfl | kernel_rfl | ks_is | kit_is | (constructor <;> first | rfl | decide +kernel) | decide +kernel)
    (case su_BadText => first | k_is | rfl | kernel_rfl | ks_is | kit_is | (constructor <;> first | rfl | decide +kernel) | decide +kernel)
    (case xm_BadText => first | k_is | rfl | kernel_rfl | ks_is | kit_is | (constructor <;> first | rfl | decide +kernel) | decide +kernel)
    (case i_BadThing_BadText => first | k_is | rfl | kernel_rfl | ks_is | kit_is | (constructor <;> first | rfl | decide +kernel) | decide +kernel)
    (case i_BadClaims_BadText => first | k_is | rfl | kernel_rfl | ks_is | kit_is | (constructor <;> first | rfl | decide +kernel) | decide +kernel)
    (case i_BadHeld_BadText => first | k_is | rfl | kernel_rfl | ks_is | kit_is | (constructor <;> first | rfl | decide +kernel) | decide +kernel)
    (case i_BadText_BadText => first | k_is | rfl | kernel_rfl | ks_is | kit_is | (constructor <;> first | rfl | decide +kernel) | decide +kernel)
    (case i_BadRoom_BadText => first | k_is | rfl | kernel_rfl | ks_is | kit_is | (constructor <;> first | rfl | decide +kernel) | decide +kernel)
    (case i_BadNumbers_BadText => first | k_is | rfl | kernel_rfl | ks_is | kit_is | (constructor <;> first | rfl | decide +kernel) | decide +kernel)
    (case i_NoThing_BadText => first | k_is | rfl | kernel_rfl | ks_is | kit_is | (constructor <;> first | rfl | decide +kernel) | decide +kernel)
    (case i_NoHelper_BadText => first | k_is | rfl | kernel_rfl | ks_is | kit_is | (constructor <;> first | rfl | decide +kernel) | decide +kernel)
    (case i_TooMany_BadText => first | k_is | rfl | kernel_rfl | ks_is | kit_is | (constructor <;> first | rfl | decide +kernel) | decide +kernel)
    (case i_ValueError_BadText => first | k_is | rfl | kernel_rfl | ks_is | kit_is | (constructor <;> first | rfl | decide +kernel) | decide +kernel)
    (case gN => first | k_is | rfl | kernel_rfl | ks_is | kit_is | (constructor <;> first | rfl | decide +kernel) | decide +kernel)
    (case tN => first | k_is | rfl | kernel_rfl | ks_is | kit_is | (constructor <;> first | rfl | decide +kernel) | decide +kernel)
    (case stA => first | k_is | rfl | kernel_rfl | ks_is | kit_is | (constructor <;> first | rfl | decide +kernel) | decide +kernel)
    (case hPF => first | k_is | rfl | kernel_rfl | ks_is | kit_is | (constructor <;> first | rfl | decide +kernel) | decide +kernel)
    (case aC_Reader => first | k_is | rfl | kernel_rfl | ks_is | kit_is | (constructor <;> first | rfl | decide +kernel) | decide +kernel)
    (case pg_Reader => first | k_is | rfl | kernel_rfl | ks_is | kit_is | (constructor <;> first | rfl | decide +kernel) | decide +kernel)
    (case hd_Reader => first | k_is | rfl | kernel_rfl | ks_is | kit_is | (constructor <;> first | rfl | decide +kernel) | decide +kernel)
    (case po_Reader => first | k_is | rfl | kernel_rfl | ks_is | kit_is | (constructor <;> first | rfl | decide +kernel) | decide +kernel)
    (case sa_Reader => first | k_is | rfl | kernel_rfl | ks_is | kit_is | (constructor <;> first | rfl | decide +kernel) | decide +kernel)
    (case mk_Reader => first | k_is | rfl | kernel_rfl | ks_is | kit_is | (constructor <;> first | rfl | decide +kernel) | decide +kernel)
    (case kC_Reader => first | k_is | rfl | kernel_rfl | ks_is | kit_is | (constructor <;> first | rfl | decide +kernel) | decide +kernel)
    (case n_Reader_trees => first | k_is | rfl | kernel_rfl | ks_is | kit_is | (constructor <;> first | rfl | decide +kernel) | decide +kernel)
    (case n_Reader_path => first | k_is | rfl | kernel_rfl | ks_is | kit_is | (constructor <;> first | rfl | decide +kernel) | decide +kernel)
    (case n_Reader_staff => first | k_is | rfl | kernel_rfl | ks_is | kit_is | (constructor <;> first | rfl | decide +kernel) | decide +kernel)
    (case aReader___init__ => first | k_is | rfl | kernel_rfl | ks_is | kit_is | (constructor <;> first | rfl | decide +kernel) | decide +kernel)
    (case iReader___init__ => first | k_is | rfl | kernel_rfl | ks_is | kit_is | (constructor <;> first | rfl | decide +kernel) | decide +kernel)
    (case lReader___init__ => first | k_is | rfl | kernel_rfl | ks_is | kit_is | (constructor <;> first | rfl | decide +kernel) | decide +kernel)
    (case cReader___init__ => first | k_is | rfl | kernel_rfl | ks_is | kit_is | (constructor <;> first | rfl | decide +kernel) | decide +kernel)
    (case kReader___init__ => first | k_is | rfl | kernel_rfl | ks_is | kit_is | (constructor <;> first | rfl | decide +kernel) | decide +kernel)
    (case aReader_take_row => first | k_is | rfl | kernel_rfl | ks_is | kit_is | (constructor <;> first | rfl | decide +kernel) | decide +kernel)
    (case iReader_take_row => first | k_is | rfl | kernel_rfl | ks_is | kit_is | (constructor <;> first | rfl | decide +kernel) | decide +kernel)
    (case lReader_take_row => first | k_is | rfl | kernel_rfl | ks_is | kit_is | (constructor <;> first | rfl | decide +kernel) | decide +kernel)
    (case cReader_take_row => first | k_is | rfl | kernel_rfl | ks_is | kit_is | (constructor <;> first | rfl | decide +kernel) | decide +kernel)
    (case kReader_take_row => first | k_is | rfl | kernel_rfl | ks_is | kit_is | (constructor <;> first | rfl | decide +kernel) | decide +kernel)
    (case aReader_take_thing => first | k_is | rfl | kernel_rfl | ks_is | kit_is | (constructor <;> first | rfl | decide +kernel) | decide +kernel)
    (case iReader_take_thing => first | k_is | rfl | kernel_rfl | ks_is | kit_is | (constructor <;> first | rfl | decide +kernel) | decide +kernel)
    (case lReader_take_thing => first | k_is | rfl | kernel_rfl | ks_is | kit_is | (constructor <;> first | rfl | decide +kernel) | decide +kernel)
    (case cReader_take_thing => first | k_is | rfl | kernel_rfl | ks_is | kit_is | (constructor <;> first | rfl | decide +kernel) | decide +kernel)
    (case kReader_take_thing => first | k_is | rfl | kernel_rfl | ks_is | kit_is | (constructor <;> first | rfl | decide +kernel) | decide +kernel)
    (case aReader_take_helper => first | k_is | rfl | kernel_rfl | ks_is | kit_is | (constructor <;> first | rfl | decide +kernel) | decide +kernel)
    (case iReader_take_helper => first | k_is | rfl | kernel_rfl | ks_is | kit_is | (constructor <;> first | rfl | decide +kernel) | decide +kernel)
    (case lReader_take_helper => first | k_is | rfl | kernel_rfl | ks_is | kit_is | (constructor <;> first | rfl | decide +kernel) | decide +kernel)
    (case cReader_take_helper => first | k_is | rfl | kernel_rfl | ks_is | kit_is | (constructor <;> first | rfl | decide +kernel) | decide +kernel)
    (case kReader_take_helper => first | k_is | rfl | kernel_rfl | ks_is | kit_is | (constructor <;> first | rfl | decide +kernel) | decide +kernel)
    (case aReader_take_claim => first | k_is | rfl | kernel_rfl | ks_is | kit_is | (constructor <;> first | rfl | decide +kernel) | decide +kernel)
    (case iReader_take_claim => first | k_is | rfl | kernel_rfl | ks_is | kit_is | (constructor <;> first | rfl | decide +kernel) | decide +kernel)
    (case lReader_take_claim => first | k_is | rfl | kernel_rfl | ks_is | kit_is | (constructor <;> first | rfl | decide +kernel) | decide +kernel)
    (case cReader_take_claim => first | k_is | rfl | kernel_rfl | ks_is | kit_is | (constructor <;> first | rfl | decide +kernel) | decide +kernel)
    (case kReader_take_claim => first | k_is | rfl | kernel_rfl | ks_is | kit_is | (constructor <;> first | rfl | decide +kernel) | decide +kernel)
    (case c_ANY => first | k_is | rfl | kernel_rfl | ks_is | kit_is | (constructor <;> first | rfl | decide +kernel) | decide +kernel)
    (case c_MOST_CLAIMS => first | k_is | rfl | kernel_rfl | ks_is | kit_is | (constructor <;> first | rfl | decide +kernel) | decide +kernel)
    (case c_MOST_DEEP => first | k_is | rfl | kernel_rfl | ks_is | kit_is | (constructor <;> first | rfl | decide +kernel) | decide +kernel)
    (case c_MOST_MARK => first | k_is | rfl | kernel_rfl | ks_is | kit_is | (constructor <;> first | rfl | decide +kernel) | decide +kernel)
    (case c_MOST_NUMBER => first | k_is | rfl | kernel_rfl | ks_is | kit_is | (constructor <;> first | rfl | decide +kernel) | decide +kernel)
    (case c_MOST_ROOM => first | k_is | rfl | kernel_rfl | ks_is | kit_is | (constructor <;> first | rfl | decide +kernel) | decide +kernel)
    (case c_MOST_WITHIN => first | k_is | rfl | kernel_rfl | ks_is | kit_is | (constructor <;> first | rfl | decide +kernel) | decide +kernel)
    (case c_MOST_WORTH => first | k_is | rfl | kernel_rfl | ks_is | kit_is | (constructor <;> first | rfl | decide +kernel) | decide +kernel)
    (case d_FIGURES => first | k_is | rfl | kernel_rfl | ks_is | kit_is | (constructor <;> first | rfl | decide +kernel) | decide +kernel)
    (case fL_FIGURES => first | k_is | rfl | kernel_rfl | ks_is | kit_is | (constructor <;> first | rfl | decide +kernel) | decide +kernel)
    (case fK_FIGURES => first | k_is | exact ⟨⟨_, _, rfl, rfl⟩, ⟨_, _, rfl, rfl⟩, ⟨_, _, rfl, rfl⟩, ⟨_, _, rfl, rfl⟩, ⟨_, _, rfl, rfl⟩, ⟨_, _, rfl, rfl⟩, ⟨_, _, rfl, rfl⟩, ⟨_, _, rfl, rfl⟩, ⟨_, _, rfl, rfl⟩, ⟨_, _, rfl, rfl⟩, ⟨_, _, rfl, rfl⟩, trivial⟩)
    (case fS_FIGURES => first | rfl | decide +kernel)
    (case fE_FIGURES => first | rfl | decide +kernel)
    (case v0_FIGURES => first | k_is | rfl | kernel_rfl | ks_is | kit_is | (constructor <;> first | rfl | decide +kernel) | decide +kernel)
    (case v1_FIGURES => first | k_is | rfl | kernel_rfl | ks_is | kit_is | (constructor <;> first | rfl | decide +kernel) | decide +kernel)
    (case v2_FIGURES => first | k_is | rfl | kernel_rfl | ks_is | kit_is | (constructor <;> first | rfl | decide +kernel) | decide +kernel)
    (case v3_FIGURES => first | k_is | rfl | kernel_rfl | ks_is | kit_is | (constructor <;> first | rfl | decide +kernel) | decide +kernel)
    (case v4_FIGURES => first | k_is | rfl | kernel_rfl | ks_is | kit_is | (constructor <;> first | rfl | decide +kernel) | decide +kernel)
    (case v5_FIGURES => first | k_is | rfl | kernel_rfl | ks_is | kit_is | (constructor <;> first | rfl | decide +kernel) | decide +kernel)
    (case v6_FIGURES => first | k_is | rfl | kernel_rfl | ks_is | kit_is | (constructor <;> first | rfl | decide +kernel) | decide +kernel)
    (case v7_FIGURES => first | k_is | rfl | kernel_rfl | ks_is | kit_is | (constructor <;> first | rfl | decide +kernel) | decide +kernel)
    (case v8_FIGURES => first | k_is | rfl | kernel_rfl | ks_is | kit_is | (constructor <;> first | rfl | decide +kernel) | decide +kernel)
    (case v9_FIGURES => first | k_is | rfl | kernel_rfl | ks_is | kit_is | (constructor <;> first | rfl | decide +kernel) | decide +kernel)
    (case v10_FIGURES => first | k_is | rfl | kernel_rfl | ks_is | kit_is | (constructor <;> first | rfl | decide +kernel) | decide +kernel)
    (case z_ValueError => first | k_is | rfl | kernel_rfl | ks_is | kit_is | (constructor <;> first | rfl | decide +kernel) | decide +kernel)
    (case z_all => first | k_is | rfl | kernel_rfl | ks_is | kit_is | (constructor <;> first | rfl | decide +kernel) | decide +kernel)
    (case z_bool => first | k_is | rfl | kernel_rfl | ks_is | kit_is | (constructor <;> first | rfl | decide +kernel) | decide +kernel)
    (case z_enumerate => first | k_is | rfl | kernel_rfl | ks_is | kit_is | (constructor <;> first | rfl | decide +kernel) | decide +kernel)
    (case z_int => first | k_is | rfl | kernel_rfl | ks_is | kit_is | (constructor <;> first | rfl | decide +kernel) | decide +kernel)
    (case z_isinstance => first | k_is | rfl | kernel_rfl | ks_is | kit_is | (constructor <;> first | rfl | decide +kernel) | decide +kernel)
    (case z_len => first | k_is | rfl | kernel_rfl | ks_is | kit_is | (constructor <;> first | rfl | decide +kernel) | decide +kernel)
    (case z_list => first | k_is | rfl | kernel_rfl | ks_is | kit_is | (constructor <;> first | rfl | decide +kernel) | decide +kernel)
    (case z_max => first | k_is | rfl | kernel_rfl | ks_is | kit_is | (constructor <;> first | rfl | decide +kernel) | decide +kernel)
    (case z_min => first | k_is | rfl | kernel_rfl | ks_is | kit_is | (constructor <;> first | rfl | decide +kernel) | decide +kernel)
    (case z_range => first | k_is | rfl | kernel_rfl | ks_is | kit_is | (constructor <;> first | rfl | decide +kernel) | decide +kernel)
    (case z_reversed => first | k_is | rfl | kernel_rfl | ks_is | kit_is | (constructor <;> first | rfl | decide +kernel) | decide +kernel)
    (case z_str => first | k_is | rfl | kernel_rfl | ks_is | kit_is | (constructor <;> first | rfl | decide +kernel) | decide +kernel)
    (case z_super => first | k_is | rfl | kernel_rfl | ks_is | kit_is | (constructor <;> first | rfl | decide +kernel) | decide +kernel)
    (case z_tuple => first | k_is | rfl | kernel_rfl | ks_is | kit_is | (constructor <;> first | rfl | decide +kernel) | decide +kernel)
    (case nP => first | k_is | rfl | kernel_rfl)
    (case hC => first | k_is | rfl | kernel_rfl)
    (case hT => exact hT8 _ (by simp))



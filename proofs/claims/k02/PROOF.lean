import PyProof.Rows.All
import Wide.All
import OpenK.AllK
import Wide.FinOn
import HandS.Base
import HandS.Call
import HandS.List
import HandS.Comp
import HandS.Iter
import HandS.Words
import KE.GoesEnum
import HandS.SortKw
import HandS.Exc
import HandS.WordsList
import PyProof.MinMaxWalk
import HandS.ForMost
import HandS.Zip
import HandS.IsInst
import HandS.Evl
import PySem.Challenge.RW_drivermatch_k02_fits
set_option Elab.async false
set_option linter.all false
set_option maxRecDepth 100000
set_option maxHeartbeats 4000000
/-! my own layer: steps of a reading, nested tuples, what moves -/
namespace Dm
open PySem PySem.Spec PyProof.Rows L2

/-! ### steps of a reading, each at its head -/
section
variable {K : PySem.W.Frag} {s : L2.St} {H : Hp} {Q : VK} {D : Ends} {te ta tb : TE} {t u : L2.TS} {i : Nat} {v x y : V} {a b : Int} {tt tu : TT} {QB : Bool → Hp → Prop} {tA tR : TA} {QA : List V → Hp → Prop}
theorem g_var (h : s[i]? = some (some v)) (q : Q v H) : tVar i s H Q := ⟨v, h, q⟩
theorem g_c (q : Q v H) : tC v s H Q := q
theorem g_seq (q : t { D with nx := u D } s H) : tSeq t u D s H := q
theorem g_asg {g : TG} (q : te s H fun z H1 => g z s H1 D.nx) : tAsg te g D s H := q
theorem g_name {R : L2.St → Hp → Prop} (q : R (s.set i (some v)) H) : gName i v s H R := q
theorem g_ret (q : te s H D.rt) : tRet te D s H := q
theorem g_drop (q : te s H fun _ H1 => D.nx s H1) : tDrop te D s H := q
theorem g_op {r : R2} (q : ta s H fun z H1 => tb s H1 fun w H2 => r z w H2 Q) : tOp r ta tb s H Q := q
theorem g_un {r : V → Hp → VK → Prop} (q : ta s H fun z H1 => r z H1 Q) : tUn r ta s H Q := q
theorem g_ifS {c : TT} (q : c s H fun k H1 => if k = true then t D s H1 else u D s H1) : tIfS c t u D s H := q
theorem g_ifE (q : tt s H fun k H1 => if k = true then ta s H1 Q else tb s H1 Q) : tIf tt ta tb s H Q := q
theorem g_nil (q : QA [] H) : tNil s H QA := q
theorem g_cons (q : te s H fun z H1 => tR s H1 fun zs H2 => QA (z :: zs) H2) : tCons te tR s H QA := q
theorem g_call {sp : Sp} {E : XK} (q : tA s H fun vs H1 => sp vs H1 Q E) : tCall sp [] E tA s H Q := by
  show tA s H fun vs H1 => sp (vs ++ []) H1 Q E
  simpa only [List.append_nil] using q
theorem g_cb {r : List V → Hp → VK → Prop} (q : tA s H fun vs H1 => r vs H1 Q) : tCB r tA s H Q := q
theorem g_and (q : tt s H fun c H1 => if c = true then tu s H1 QB else QB false H1) : tAnd tt tu s H QB := q
theorem g_or (q : tt s H fun c H1 => if c = true then QB true H1 else tu s H1 QB) : tOr tt tu s H QB := q
theorem g_not (q : tt s H fun c H1 => QB (!c) H1) : tNot tt s H QB := q
theorem g_andV (q : ta s H fun z H1 => ∃ c, z = .bl c ∧ if c = true then tb s H1 Q else Q (.bl false) H1) : tAndV ta tb s H Q := q
theorem g_orV (q : ta s H fun z H1 => ∃ c, z = .bl c ∧ if c = true then Q (.bl true) H1 else tb s H1 Q) : tOrV ta tb s H Q := q
theorem g_notV (q : ta s H fun z H1 => ∃ c, z = .bl c ∧ Q (.bl (!c)) H1) : tNotV ta s H Q := q
theorem g_tB (q : te s H fun z H1 => ∃ c, z = .bl c ∧ QB c H1) : tB te s H QB := q
theorem g_test (q : te s H fun z H1 => ∃ c, z = .bl c ∧ QB c H1) : tTest te s H QB := q
theorem g_isN (q : te s H fun z H1 => Q (.bl (decide (z = .non))) H1) : tIsN te s H Q := q
theorem g_notN (q : te s H fun z H1 => Q (.bl (!decide (z = .non))) H1) : tNotN te s H Q := q
theorem g_lst (q : tA s H fun xs H1 => xs.length ≤ sizeLine ∧ ∀ p, H1 p = none → Q (.ref p) (upd H1 p (.lst xs))) : tLst tA s H Q := q
theorem g_I0 {g : Int → Int → V} (q : Q (g a b) H) : rI0 g (.int a) (.int b) H Q := ⟨a, b, rfl, rfl, q⟩
theorem g_I {C : Int → Int → Prop} {g : Int → Int → V} (hc : C a b) (q : Q (g a b) H) : rI C g (.int a) (.int b) H Q := ⟨a, b, rfl, rfl, hc, q⟩
theorem g_neg {g : Int → V} (q : Q (g a) H) : rU g (.int a) H Q := ⟨a, rfl, q⟩
theorem g_eqI (q : Q (.bl (decide (a = b))) H) : rEq (.int a) (.int b) H Q := ⟨rfl, by
  have e : decide (V.int a = V.int b) = decide (a = b) := by rw [Bool.eq_iff_iff]; simp
  rw [e]; exact q⟩
theorem g_neI (q : Q (.bl (!decide (a = b))) H) : rNe (.int a) (.int b) H Q := ⟨rfl, by
  have e : decide (V.int a = V.int b) = decide (a = b) := by rw [Bool.eq_iff_iff]; simp
  rw [e]; exact q⟩
theorem g_eqB {k l : Bool} (q : Q (.bl (decide (k = l))) H) : rEq (.bl k) (.bl l) H Q := ⟨rfl, by
  have e : decide (V.bl k = V.bl l) = decide (k = l) := by rw [Bool.eq_iff_iff]; simp
  rw [e]; exact q⟩
theorem g_neB {k l : Bool} (q : Q (.bl (!decide (k = l))) H) : rNe (.bl k) (.bl l) H Q := ⟨rfl, by
  have e : decide (V.bl k = V.bl l) = decide (k = l) := by rw [Bool.eq_iff_iff]; simp
  rw [e]; exact q⟩
theorem g_bl {k : Bool} {P : Bool → Prop} (q : P k) : ∃ c, V.bl k = .bl c ∧ P c := ⟨k, rfl, q⟩
theorem g_ixL {p : Addr} {xs : List V} (h : SqL K H p xs) (ha : atI xs a = some v) (q : Q v H) : rIx K (.ref p) (.int a) H Q := .inl ⟨p, xs, a, v, rfl, rfl, h, ha, q⟩
theorem g_ixT {p : Addr} {xs : List V} (h : SqT K H p xs) (ha : atI xs a = some v) (q : Q v H) : rIx K (.ref p) (.int a) H Q := .inr (.inl ⟨p, xs, a, v, rfl, rfl, h, ha, q⟩)
theorem g_true {A B : Prop} (h : A) : if true = true then A else B := by rw [if_pos rfl]; exact h
theorem g_false {A B : Prop} (h : B) : if false = true then A else B := by rw [if_neg Bool.false_ne_true]; exact h
end

/-! ### what stays -/
/-- a tuple of xs stands at a, known to its object, which bears no dict -/
def TupAt (H : Hp) (a : Addr) (xs : List V) : Prop := ∃ o : Obj, o.dict = none ∧ H a = some (.frz o (.tup xs))
theorem TupAt.sq {K : PySem.W.Frag} {H : Hp} {a : Addr} {xs : List V} (h : TupAt H a xs) : SqT K H a xs := let ⟨o, _, e⟩ := h; .inl (.inr ⟨o, e⟩)
/-- tuples stay -/
def Tst (H H' : Hp) : Prop := ∀ a o xs, H a = some (.frz o (.tup xs)) → H' a = some (.frz o (.tup xs))
theorem Tst.refl (H : Hp) : Tst H H := fun _ _ _ h => h
theorem Tst.trans {H H1 H2 : Hp} (a : Tst H H1) (b : Tst H1 H2) : Tst H H2 := fun x o xs h => b x o xs (a x o xs h)
theorem TupAt.mono {H H' : Hp} (e : Tst H H') {a : Addr} {xs : List V} (h : TupAt H a xs) : TupAt H' a xs := let ⟨o, d, q⟩ := h; ⟨o, d, e _ _ _ q⟩
theorem TupAt.new {H : Hp} {p : Addr} {o : Obj} {xs : List V} (d : o.dict = none) : TupAt (upd H p (.frz o (.tup xs))) p xs := ⟨o, d, upd_same⟩
theorem TupAt.ne {H : Hp} {a b : Addr} {xs : List V} {u : HO} (h : TupAt H a xs) (h' : H b = some u) (d : ∀ o, u ≠ .frz o (.tup xs)) : a ≠ b := by
  obtain ⟨o, _, e⟩ := h
  exact ne_of e h' (d o).symm
theorem TupAt.ne_none {H : Hp} {a b : Addr} {xs : List V} (h : TupAt H a xs) (h' : H b = none) : a ≠ b := by
  obtain ⟨o, _, e⟩ := h
  exact ne_of_none e h'
/-- all but M stays, tuples stay -/
structure Mv (M : List Addr) (H H' : Hp) : Prop where
  fr : ∀ b o, b ∉ M → H b = some o → H' b = some o
  ts : Tst H H'
theorem Mv.refl (M : List Addr) (H : Hp) : Mv M H H := ⟨fun _ _ _ h => h, Tst.refl H⟩
theorem Mv.trans {M : List Addr} {H H1 H2 : Hp} (a : Mv M H H1) (b : Mv M H1 H2) : Mv M H H2 :=
  ⟨fun x o h e => b.fr x o h (a.fr x o h e), a.ts.trans b.ts⟩
theorem Mv.of {M : List Addr} {H H' : Hp} (e : Same H H') : Mv M H H' := ⟨fun b o _ h => e b o h, fun a o xs h => e a _ h⟩
theorem Mv.same {H H' : Hp} (e : Mv [] H H') : Same H H' := fun b o h => e.fr b o (by simp) h
/-- an object that the start does not know is laid or changed -/
theorem Mv.upd {M : List Addr} {H H' : Hp} {p : Addr} {o : HO} (e : Mv M H H') (h : H p = none) : Mv M H (upd H' p o) :=
  ⟨fun b u hb q => by rw [upd_ne (ne_of_none q h)]; exact e.fr b u hb q, fun b o xs q => by rw [upd_ne (ne_of_none q h)]; exact e.ts b o xs q⟩
/-- an object of M that is no tuple is changed -/
theorem Mv.upd' {M : List Addr} {H H' : Hp} {p : Addr} {o : HO} (e : Mv M H H') (h : p ∈ M) (ht : ∀ u xs, H p ≠ some (.frz u (.tup xs))) : Mv M H (L2.upd H' p o) :=
  ⟨fun b u hb q => by rw [upd_ne (fun z => hb (by rw [z]; exact h))]; exact e.fr b u hb q, fun b u xs q => by
    rw [upd_ne (fun z => ht u xs (by rw [← z]; exact q))]; exact e.ts b u xs q⟩
theorem Mv.sub {M M' : List Addr} {H H' : Hp} (e : Mv M H H') (h : ∀ a ∈ M, a ∈ M') : Mv M' H H' := ⟨fun b o hb q => e.fr b o (fun z => hb (h b z)) q, e.ts⟩
theorem Mv.free {M : List Addr} {H H' : Hp} (e : Mv M H H') {p : Addr} (hp : p ∉ M) (h : H' p = none) : H p = none := by
  cases q : H p with
  | none => rfl
  | some o => rw [e.fr p o hp q] at h; cases h
theorem Same.new {H : Hp} {p : Addr} {o : HO} (h : H p = none) : Same H (upd H p o) := fun b u e => by rw [upd_ne (ne_of_none e h)]; exact e
theorem Same.ts {H H' : Hp} (e : Same H H') : Tst H H' := fun a o xs h => e a _ h

/-! ### nested tuples -/
mutual
inductive Tp (H : Hp) : V → PyData → Prop
  | non : Tp H .non .none
  | bl (b : Bool) : Tp H (.bl b) (.bool b)
  | int (i : Int) : Tp H (.int i) (.int i)
  | str (x : Str) : Tp H (.str x) (.str x)
  | tup {a : Addr} {xs : List V} {ds : List PyData} : TupAt H a xs → Tps H xs ds → Tp H (.ref a) (.tuple ds)
inductive Tps (H : Hp) : List V → List PyData → Prop
  | nil : Tps H [] []
  | cons {v : V} {vs : List V} {d : PyData} {ds : List PyData} : Tp H v d → Tps H vs ds → Tps H (v :: vs) (d :: ds)
end
mutual
theorem Tp.mono {H H' : Hp} (e : Tst H H') : ∀ {v : V} {d : PyData}, Tp H v d → Tp H' v d
  | _, _, .non => .non
  | _, _, .bl b => .bl b
  | _, _, .int i => .int i
  | _, _, .str x => .str x
  | _, _, .tup h t => .tup (h.mono e) (Tps.mono e t)
theorem Tps.mono {H H' : Hp} (e : Tst H H') : ∀ {vs : List V} {ds : List PyData}, Tps H vs ds → Tps H' vs ds
  | _, _, .nil => .nil
  | _, _, .cons h t => .cons (Tp.mono e h) (Tps.mono e t)
end
mutual
theorem Tp.dp {K : PySem.W.Frag} {H : Hp} : ∀ {v : V} {d : PyData}, Tp H v d → Dp K H v d
  | _, _, .non => .non
  | _, _, .bl b => .bl b
  | _, _, .int i => .int i
  | _, _, .str x => .str x
  | _, _, .tup h t => .tup h.sq (Tps.dp t)
theorem Tps.dp {K : PySem.W.Frag} {H : Hp} : ∀ {vs : List V} {ds : List PyData}, Tps H vs ds → DpAll K H vs ds
  | _, _, .nil => .nil
  | _, _, .cons h t => .cons (Tp.dp h) (Tps.dp t)
end
section
variable {H : Hp}
theorem Tp.tup_inv {v : V} {ds : List PyData} (h : Tp H v (.tuple ds)) : ∃ a xs, v = .ref a ∧ TupAt H a xs ∧ Tps H xs ds := by
  cases h with
  | tup h t => exact ⟨_, _, rfl, h, t⟩
theorem Tp.int_inv {v : V} {i : Int} (h : Tp H v (.int i)) : v = .int i := by cases h; rfl
theorem Tps.length : ∀ {vs : List V} {ds : List PyData}, Tps H vs ds → vs.length = ds.length
  | _, _, .nil => rfl
  | _, _, .cons _ t => congrArg (· + 1) (Tps.length t)
theorem Tps.get : ∀ {vs : List V} {ds : List PyData} {i : Nat} {x : V}, Tps H vs ds → vs[i]? = some x → ∃ d, ds[i]? = some d ∧ Tp H x d
  | _, _, i, _, .nil, e => by simp at e
  | _, _, 0, x, .cons h _, e => by
    have e' := Option.some.inj e
    subst e'
    exact ⟨_, rfl, h⟩
  | _, _, i + 1, x, .cons _ t, e => Tps.get (i := i) (x := x) t (by simpa using e)
theorem Tps.get' : ∀ {vs : List V} {ds : List PyData} {i : Nat} {d : PyData}, Tps H vs ds → ds[i]? = some d → ∃ x, vs[i]? = some x ∧ Tp H x d
  | _, _, i, _, .nil, e => by simp at e
  | _, _, 0, x, .cons h _, e => by
    have e' := Option.some.inj e
    subst e'
    exact ⟨_, rfl, h⟩
  | _, _, i + 1, x, .cons _ t, e => Tps.get' (i := i) t (by simpa using e)
theorem Tps.ints : ∀ {vs : List V} {ns : List Int}, Tps H vs (ns.map .int) → vs = ns.map V.int
  | _, [], .nil => rfl
  | _, n :: ns, .cons h t => by
    rw [h.int_inv, Tps.ints t]; rfl
theorem Tps.of_ints : ∀ (ns : List Int), Tps H (ns.map V.int) (ns.map .int)
  | [] => .nil
  | n :: ns => .cons (.int n) (Tps.of_ints ns)
theorem Tps.append : ∀ {vs ws : List V} {ds es : List PyData}, Tps H vs ds → Tps H ws es → Tps H (vs ++ ws) (ds ++ es)
  | _, _, _, _, .nil, s => s
  | _, _, _, _, .cons h t, s => .cons h (Tps.append t s)
theorem Tps.two {vs : List V} {d e : PyData} (h : Tps H vs [d, e]) : ∃ x y, vs = [x, y] ∧ Tp H x d ∧ Tp H y e := by
  cases h with
  | cons h t => cases t with
    | cons h' t' => cases t'; exact ⟨_, _, rfl, h, h'⟩
theorem Tps.three {vs : List V} {d e f : PyData} (h : Tps H vs [d, e, f]) : ∃ x y z, vs = [x, y, z] ∧ Tp H x d ∧ Tp H y e ∧ Tp H z f := by
  cases h with
  | cons h t =>
    obtain ⟨y, z, rfl, h2, h3⟩ := Tps.two t
    exact ⟨_, _, _, rfl, h, h2, h3⟩
end

/-! ### tuples made, known to their objects -/
def tTupF (t : TA) : TE := fun σ H Q => t σ H fun xs H1 => xs.length ≤ sizeLine ∧ ∀ p o, H1 p = none → o.dict = none → Q (.ref p) (upd H1 p (.frz o (.tup xs)))
section
variable {X : Cx} {pins : List (Addr × Obj)} {σ : L2.St} {H : Hp} {s : Shared} {xs : List V} {us : List Value}
theorem newTupF {Q : VK} (I : L2.Inv X pins σ H s) (r : Vals xs us) (z : xs.length ≤ sizeLine) (q : ∀ p o, H p = none → o.dict = none → Q (.ref p) (upd H p (.frz o (.tup xs)))) :
    EP X pins σ Q (.ref s.heap.objs.size) { s with heap := s.heap.push { cls := .type "tuple", data := .seq us.toArray } } := by
  have h0 := Heap.get?_push_size s.heap (o := { cls := .type "tuple", data := .seq us.toArray }) rfl
  refine ⟨.ref s.heap.objs.size, upd H s.heap.objs.size (.frz { cls := .type "tuple", data := .seq us.toArray } (.tup xs)), I.laid (t' := s.toks) (fun b u e => Heap.get?_push_of_some _ e) (Nat.le_refl _) ?_, rfl, q _ _ (I.hok.fresh (Nat.le_refl _)) rfl⟩
  exact ⟨h0, z, us, r, ⟨_, h0, rfl, _, rfl⟩⟩
theorem pe_tupF {es : List Expr} {t : TA} {pos : Pos} {k} (h : PA X es t) : PE X (.Tuple es k pos) (tTupF t) := by
  refine ⟨fun pins s σ H Q I hq => ?_⟩
  refine wpAny_Tuple_spliced (thn (h.run pos pins s σ H _ I hq) fun us s1 ⟨xs, H1, I1, r, z, q⟩ => ⟨by rw [← r.length]; exact z, ?_⟩)
  exact newTupF I1 r z q
def rTupF (K : PySem.W.Frag) : List V → Hp → VK → Prop := fun vs H Q => ∃ p ys, vs = [.ref p] ∧ ((SqL K H p ys ∧ ∀ l o, H l = none → o.dict = none → Q (.ref l) (upd H l (.frz o (.tup ys)))) ∨ (SqT K H p ys ∧ Q (.ref p) H))
theorem call_tupleF : CallR X (.type "tuple") (rTupF X.K) := by
  intro pins s σ H vs us Q I r h
  obtain ⟨p, ys, rfl, h⟩ := h
  obtain ⟨u, rfl, rx⟩ := vals1 r
  cases rx
  rcases h with ⟨hq, q⟩ | ⟨hq, q⟩
  · obtain ⟨its, r', pl, hz⟩ := I.list hq
    have hlen := r'.length
    refine call_tuple_list pl.isList (fun h' kp => ?_) (by simp only [List.size_toArray] <;> omega)
    exact newTupF (s := { s with heap := h' }) (I.kept (t' := s.toks) kp) r' hz q
  · obtain ⟨its, r', pl, hz⟩ := I.tuple hq
    exact call_tuple_same pl ⟨.ref p, H, I, rfl, q⟩
end
end Dm

namespace Dm
open PySem PySem.Spec PyProof.Rows L2

/-! ### max(xs, default=d) -/
theorem args_maxd (a d : Value) : argsOk "max" ⟨[a], [(Str.ofString "default", d)]⟩ := by unfold argsOk; kernel_rfl
section
variable {prog : Program} {w : World} {A : Around} {R : Result → Shared → Prop} {J : Addr} {fp wr : List Addr} {n : Nat} {P : Nat → Value → Prop} {St : Nat → Heap → Prop} {kw : List (Str × Value)}
/-- the loop with a best one so far, whatever keywords it bears -/
theorem maxk_loop (W : Walks prog w A.in1 J fp wr n P St) (bt : Nat → Nat → Bool) (hc : CmpOf prog w A.in1 .Gt P bt) (B : Addr) (hB : B ∉ fp) :
    ∀ (m j : Nat) (s : Shared) (b : Value) (c : Nat), n = m + (j + 1) → St (j + 1) s.heap → P (argBest bt j) b →
      s.heap.get? B = some { cls := .type "list", dict := none, data := .seq #[b, b] c, slots := #[] } →
      (∀ v g tk, P (argBest bt (n - 1)) v → (∀ x o, x ∉ wr → x ≠ B → s.heap.get? x = some o → g.get? x = some o) → R (.ok (.ret v)) { s with heap := g, toks := tk }) →
      codeAny (model prog w) A (.builtin "max.loop" ⟨[.ref J, .none, .ref B], kw⟩) R s := by
  have hw : B ∉ wr := fun z => hB (W.sub _ z)
  have nm : (toString "max" ++ toString ".loop" : String) = "max.loop" := by decide
  intro m
  induction m with
  | zero =>
    intro j s b c hn st pb ho q
    refine codeAny_builtin PySem.F.entry_max_loop ?_ ; rw [Around.under_plainId PySem.F.plain_max_loop _]
    show wpAny _ A.in1 (seqItems? (.ref B) >>= _) _ _ s ; refine wpAny_bind (wpAny_seqItems ho rfl ?_)
    show wpAny _ A.in1 (tryCatch (pyNext (.ref J)) _ >>= _) _ _ s
    have st' : St n s.heap := by rw [hn, Nat.zero_add]; exact st
    refine wpAny_bind (wpAny_tryCatch (W.done s _ _ st' fun g tk kp => ?_))
    have ho' := kp B _ hw ho
    show wpAny _ A.in1 (updateSeq B (fun _ => #[]) >>= _) _ _ _ ; refine wpAny_bind (wpAny_updateSeq ho' rfl (wpAny_bind (wpAny_letGo (wpAny_pure ?_))))
    exact q b _ tk (by rw [hn]; simpa using pb) fun x o h1 h2 e => (Heap.get?_update_other _ _ (Ne.symm h2)).trans (kp x o h1 e)
  | succ m ih =>
    intro j s b c hn st pb ho q
    refine codeAny_builtin PySem.F.entry_max_loop ?_ ; rw [Around.under_plainId PySem.F.plain_max_loop _]
    show wpAny _ A.in1 (seqItems? (.ref B) >>= _) _ _ s ; refine wpAny_bind (wpAny_seqItems ho rfl ?_)
    show wpAny _ A.in1 (tryCatch (pyNext (.ref J)) _ >>= _) _ _ s
    refine wpAny_bind (wpAny_tryCatch (W.item (j + 1) s _ _ (by omega) st fun v g tk hP st2 kp => ?_))
    have ho' := kp B _ hw ho
    show wpAny _ A.in1 (tryCatch (holding [v, v] (richCompare .Gt v b >>= _)) _ >>= _) _ _ _
    refine wpAny_bind (wpAny_tryCatch (wpAny_holding (wpAny_bind (hc (j + 1) (argBest bt j) v b _ _ _ hP pb (wpAny_bind (wpAny_holding (wpAny_truthy_bool ?_)))))))
    refine wpAny_bind (wpAny_letGo (wpAny_pure ?_)) ; have pn : P (argBest bt (j + 1)) (if bt (j + 1) (argBest bt j) = true then v else b) := by
      show P (if bt (j + 1) (argBest bt j) = true then j + 1 else argBest bt j) _
      split
      · exact hP
      · exact pb
    cases hb : bt (j + 1) (argBest bt j) with
    | true =>
      rw [hb, if_pos rfl] at pn
      simp only [if_true] ; refine wpAny_bind (wpAny_updateSeq ho' rfl (wpAny_bind (wpAny_letGo ?_))) ; rw [nm]
      refine wpAny_pure ⟨plainId_quiet PySem.F.plain_max_loop _, ih (j + 1) _ v _ (by omega) (W.frame _ _ _ st2 fun x hx o e => ?_) pn (Heap.get?_update_self _ ho' rfl) fun v' g' tk' hP' kp' => ?_⟩
      · exact (Heap.get?_update_other _ _ (fun z : B = x => hB (by rw [z]; exact hx))).trans e
      · exact q v' g' tk' hP' fun x o h1 h2 e => kp' x o h1 h2 ((Heap.get?_update_other _ _ (Ne.symm h2)).trans (kp x o h1 e))
    | false =>
      rw [hb, if_neg Bool.false_ne_true] at pn
      simp only [Bool.false_eq_true, if_false] ; refine wpAny_bind (wpAny_letGo ?_) ; rw [nm]
      refine wpAny_pure ⟨plainId_quiet PySem.F.plain_max_loop _, ih (j + 1) _ b c (by omega) st2 pn ho' fun v' g' tk' hP' kp' => ?_⟩
      exact q v' g' tk' hP' fun x o h1 h2 e => kp' x o h1 h2 (kp x o h1 e)
/-- .. from nothing -/
theorem maxk_first (W : Walks prog w A.in1 J fp wr n P St) (bt : Nat → Nat → Bool) (hc : CmpOf prog w A.in1 .Gt P bt) (B : Addr) (hB : B ∉ fp) {s : Shared} {c : Nat} {d : Value} (st : St 0 s.heap)
    (ho : s.heap.get? B = some { cls := .type "list", dict := none, data := .seq #[] c, slots := #[] })
    (q0 : n = 0 → ∀ g tk, (∀ x o, x ∉ wr → x ≠ B → s.heap.get? x = some o → g.get? x = some o) → R (.ok (.ret d)) { s with heap := g, toks := tk })
    (q : 0 < n → ∀ v g tk, P (argBest bt (n - 1)) v → (∀ x o, x ∉ wr → x ≠ B → s.heap.get? x = some o → g.get? x = some o) → R (.ok (.ret v)) { s with heap := g, toks := tk }) :
    codeAny (model prog w) A (.builtin "max.loop" ⟨[.ref J, .none, .ref B], [(Str.ofString "default", d)]⟩) R s := by
  have hw : B ∉ wr := fun z => hB (W.sub _ z)
  have nm : (toString "max" ++ toString ".loop" : String) = "max.loop" := by decide
  refine codeAny_builtin PySem.F.entry_max_loop ?_ ; rw [Around.under_plainId PySem.F.plain_max_loop _]
  show wpAny _ A.in1 (seqItems? (.ref B) >>= _) _ _ s ; refine wpAny_bind (wpAny_seqItems ho rfl ?_)
  show wpAny _ A.in1 (tryCatch (pyNext (.ref J)) _ >>= _) _ _ s
  by_cases hn : n = 0
  · subst hn
    refine wpAny_bind (wpAny_tryCatch (W.done s _ _ st fun g tk kp => ?_))
    exact wpAny_bind (wpAny_rule (wpAny_pure (q0 rfl g tk fun x o h1 _ e => kp x o h1 e)))
  · refine wpAny_bind (wpAny_tryCatch (W.item 0 s _ _ (by omega) st fun v g tk hP st2 kp => ?_))
    have ho' := kp B _ hw ho
    show wpAny _ A.in1 (updateSeq B (fun _ => #[v, v]) >>= _) _ _ _ ; refine wpAny_bind (wpAny_updateSeq ho' rfl ?_) ; rw [nm]
    refine wpAny_pure ⟨plainId_quiet PySem.F.plain_max_loop _, maxk_loop W bt hc B hB (n - 1) 0 _ v _ (by omega) (W.frame _ _ _ st2 fun x hx o e => ?_) hP (Heap.get?_update_self _ ho' rfl) fun v' g' tk' hP' kp' => ?_⟩
    · exact (Heap.get?_update_other _ _ (fun z : B = x => hB (by rw [z]; exact hx))).trans e
    · exact q (by omega) v' g' tk' hP' fun x o h1 h2 e => kp' x o h1 h2 ((Heap.get?_update_other _ _ (Ne.symm h2)).trans (kp x o h1 e))
end
section
variable {prog : Program} {w : World} {A : Around} {E : Value → Shared → Prop} {s : Shared}
theorem maxd_walk {x d : Value} {Q : Value → Shared → Prop}
    (h : wpAny (model prog w) A.in1 (pyIter x) (fun it t => ∃ J fp wr n P St bt, it = .ref J ∧ Walks prog w A.in1 J fp wr n P St ∧ St 0 t.heap ∧ (∀ b ∈ fp, b < t.heap.objs.size) ∧ CmpOf prog w A.in1 .Gt P bt ∧
      (n = 0 → ∀ g tk, (∀ b o, b ∉ wr → t.heap.get? b = some o → g.get? b = some o) → Q d { t with heap := g, toks := tk }) ∧
      (0 < n → ∀ v g tk, P (argBest bt (n - 1)) v → (∀ b o, b ∉ wr → t.heap.get? b = some o → g.get? b = some o) → Q v { t with heap := g, toks := tk })) E s) :
    wpAny (model prog w) A (call (.builtin "max") [x] [(Str.ofString "default", d)]) Q E s := by
  have nm : (toString "max" ++ toString ".loop" : String) = "max.loop" := by decide
  refine wpAny_call (codeAny_call_builtin PySem.F.plain_max PySem.F.entry_max ?_)
  have key : wpAny (model prog w) A.in1 (Builtin.«max» ⟨[x], [(Str.ofString "default", d)]⟩) (fun fin s' => match fin with
      | .done f => (match (Except.ok f : Result) with | .ok (.ret v) => Q v s' | .ok _ => False | .error e => E e s')
      | .again c' => c'.quiet = true ∧ codeAny (model prog w) A c' (fun r s' => match r with | .ok (.ret v) => Q v s' | .ok _ => False | .error e => E e s') s') E s := by
    show wpAny _ A.in1 (Builtin.Builtins.bindParams "max" ["key", "default"] 0 ⟨[], [(Str.ofString "default", d)]⟩ >>= _) _ _ s
    refine wpAny_bind (wpAny_of_eq (show Builtin.Builtins.bindParams "max" ["key", "default"] 0 ⟨[], [(Str.ofString "default", d)]⟩ = pure [none, some d] from rfl) ?_)
    refine wpAny_bind (wpAny_pure (wpAny_bind (wpAny_mono h (fun it t ht => ?_) fun _ _ e => e)))
    obtain ⟨J, fp, wr, n, P, St, bt, rfl, W, st, hfp, hc, q0, q1⟩ := ht
    refine wpAny_bind (wpAny_newObj_type ?_)
    have hB : t.heap.objs.size ∉ fp := fun z => absurd (hfp _ z) (Nat.lt_irrefl _)
    rw [nm]
    have up : ∀ (g : Heap) (wr' : List Addr), (∀ b o, b ∉ wr → b ≠ t.heap.objs.size → (t.heap.push { cls := .type "list", data := .seq #[] }).get? b = some o → g.get? b = some o) → ∀ b o, b ∉ wr → t.heap.get? b = some o → g.get? b = some o :=
      fun g _ k b o h1 e => k b o h1 (Nat.ne_of_lt (Heap.lt_size e)) (Heap.get?_push_of_some _ e)
    exact wpAny_pure ⟨plainId_quiet PySem.F.plain_max_loop _, maxk_first W bt hc t.heap.objs.size hB (W.frame _ _ _ st fun b _ o e => Heap.get?_push_of_some _ e) (Heap.get?_push_size _ rfl)
      (fun e g tk k => q0 e g tk (up g wr k)) (fun e v g tk hP k => q1 e v g tk hP (up g wr k))⟩
  simp only [checkBuiltinCall, PySem.F.kind_max]
  cases hsig : Manifest.signature? "max" with
  | none => exact wpAny_pure key
  | some sig =>
    have ha : Bind.checkArgs "max" sig ⟨[x], [(Str.ofString "default", d)]⟩ = pure () := by
      have z := args_maxd x d
      simpa only [argsOk, hsig] using z
    simp only [ha]
    exact wpAny_pure key
end
/-- the greatest of a list of ints, None of none -/
def maxV : List Int → V
  | [] => .non
  | x :: xs => .int (xs.foldl max x)
theorem foldl_max_mem : ∀ (xs : List Int) (x : Int), xs.foldl max x ∈ x :: xs
  | [], x => List.mem_singleton.mpr rfl
  | y :: ys, x => by
    rw [List.foldl_cons]
    rcases List.mem_cons.mp (foldl_max_mem ys (max x y)) with h | h
    · rw [h]
      rcases Int.le_total x y with l | l
      · rw [Int.max_eq_right l]; simp
      · rw [Int.max_eq_left l]; simp
    · exact List.mem_cons_of_mem _ (List.mem_cons_of_mem _ h)
theorem foldl_max_ge : ∀ (xs : List Int) (x : Int), ∀ a ∈ x :: xs, a ≤ xs.foldl max x
  | [], x, a, h => by rw [List.mem_singleton.mp h]; exact Int.le_refl _
  | y :: ys, x, a, h => by
    rw [List.foldl_cons]
    have g := foldl_max_ge ys (max x y)
    have hx : x ≤ max x y := Int.le_max_left _ _
    have hy : y ≤ max x y := Int.le_max_right _ _
    have g0 := g (max x y) (List.mem_cons_self ..)
    rcases List.mem_cons.mp h with e | h
    · rw [e]; omega
    · rcases List.mem_cons.mp h with e | h
      · rw [e]; omega
      · exact g a (List.mem_cons_of_mem _ h)
def rMaxD (K : PySem.W.Frag) : List V → List V → Hp → VK → Prop := fun vs zs H Q => ∃ (a : Addr) (ns : List Int), vs = [V.ref a] ∧ zs = [.non] ∧ SqL K H a (ns.map V.int) ∧ Q (maxV ns) H
theorem cr_maxD {X : Cx} (hc : X.calm = true) : CallRK X (.builtin "max") [Str.ofString "default"] (rMaxD X.K) := by
  intro pins s σ H vs zs us ws Q I r rz h
  obtain ⟨a, ns, rfl, rfl, hs, q⟩ := h
  obtain ⟨its, rv, hl, _⟩ := I.list hs
  obtain rfl := Vals.ref1 r
  obtain ⟨w1, rfl, e1⟩ := vals1 rz
  obtain rfl : w1 = Value.none := e1
  obtain ⟨xs, e⟩ := rv.ints.allInts.items
  have hn : numsOf (intItems xs).toList = ns := by rw [← e]; exact rv.ints.numsOf
  rw [nums_intItems] at hn
  subst hn
  have hl := hl.isList
  rw [e] at hl
  refine maxd_walk (iter_intList hl fun s2 e2 st hfp hlI => ?_)
  subst e2
  refine ⟨_, _, _, _, _, _, _, rfl, Walks.list (A := X.A.in1) (I.ok.hd hc) _ a hlI (intItems xs), st, hfp, CmpOf.ints_gt (numAt xs) (fun _ _ => intItems_at), fun hz g tk hk => ?_, fun hz v g tk hP hk => ?_⟩
  · have hz' : xs.toList = [] := by
      have : xs.size = 0 := by simpa [intItems] using hz
      exact List.length_eq_zero_iff.mp (by simpa using this)
    rw [hz'] at q
    exact ⟨.non, H, I.kept (old_kept hk), rfl, q⟩
  · have hP' : (intItems xs)[argBest (fun i j => decide (numAt xs i > numAt xs j)) (xs.size - 1)]? = some v := by simpa [intItems] using hP
    obtain ⟨t, rfl⟩ := intItems_at hP'
    have hz' : 0 < xs.size := by simpa [intItems] using hz
    obtain ⟨h1, h2⟩ := argBest_gt (numAt xs) (xs.size - 1)
    refine ⟨V.int _, H, I.kept (old_kept hk), ⟨_, rfl⟩, ?_⟩
    have em : maxV (xs.toList.map (·.1)) = .int (numAt xs (argBest (fun i j => decide (numAt xs i > numAt xs j)) (xs.size - 1))) := by
      have hm : numAt xs (argBest (fun i j => decide (numAt xs i > numAt xs j)) (xs.size - 1)) ∈ xs.toList.map (·.1) := by
        rw [numAt_eq]; exact PySem.getD_mem (by rw [List.length_map, Array.length_toList]; omega)
      have hg : ∀ b, b ∈ xs.toList.map (·.1) → b ≤ numAt xs (argBest (fun i j => decide (numAt xs i > numAt xs j)) (xs.size - 1)) := fun b hb => by
        obtain ⟨j, hj, rfl⟩ := mem_getD hb
        rw [List.length_map, Array.length_toList] at hj
        rw [← numAt_eq]; exact h2 j (by omega)
      generalize numAt xs (argBest (fun i j => decide (numAt xs i > numAt xs j)) (xs.size - 1)) = M at hm hg
      generalize xs.toList.map (·.1) = l at hm hg
      cases l with
      | nil => cases hm
      | cons x r =>
        have a1 := hg _ (foldl_max_mem r x)
        have a2 := foldl_max_ge r x M hm
        show V.int _ = V.int M
        congr 1
        omega
    rw [em] at q
    exact q
theorem pe_maxDef {X : Cx} {e d : Expr} {te td : TE} {p pos kp : Pos} (hc : X.calm = true) (hg : Gl X "max") (hm : X.mg "max" = none) (ha : PE X e te) (hd : PE X d td)
    (h1 : starEach [e] X.env = (false, eval e X.env) :: starEach [] X.env := by rfl) (h2 : backTo pos (starEach [e] X.env) = (false, eval e X.env) :: backTo pos (starEach [] X.env) := by rfl)
    (h3 : (backTo pos (starEach [e] X.env)).any (·.1) = false := by rfl) :
    PE X (.Call (.Name "max" p) [e] [⟨some "default", d, kp⟩] pos) (tCKw (rMaxD X.K) (tCons te tNil) (tCons td tNil)) :=
  pe_callBK (cr_maxD hc) hg hm (by decide +kernel) (pa_cons ha pa_nil h1) (pk_cons hd pk_nil) (he := h2) (hpl := h3)

/-! ### tuple.count of ints -/
def rCountT (K : PySem.W.Frag) : V → List V → Hp → VK → Prop := fun x vs H Q => ∃ (a : Addr) (ns : List Int) (k : Int), x = .ref a ∧ vs = [.int k] ∧ SqT K H a (ns.map V.int) ∧ Q (.int (ns.count k : Nat)) H
theorem mt_tcount {X : Cx} : MtM X "tuple.count" (rCountT X.K) := by
  intro pins s σ H x vs v us Q I rx rv h
  obtain ⟨a, ns, k, rfl, rfl, hs, q⟩ := h
  cases rx
  obtain ⟨u, rfl, ru⟩ := rv.one
  obtain ⟨t, rfl⟩ := ru
  obtain ⟨its, r, ⟨o, e, hcl, n, hd⟩, hz⟩ := I.tuple hs
  obtain ⟨cls, dd, data, sl⟩ := o
  simp only at hcl hd
  subst hcl hd
  have hints := intsAre_of r
  refine call_meets PySem.F.slot_tuple_count ⟨_, e, rfl⟩ PySem.F.entry_tuple_count (PySem.F.args_tuple_count_2 _ _)
    (SeqAt.tuple_countAt a its.toArray n dd sl (.int k t) (fun y => eqU (.int k) y)) ⟨e, fun y hy => ?_, ?_⟩
  · have hall : (ns.map V.int).all flatV = true := by simp [flatV]
    exact mem_eqAt (x := .int k) ⟨t, rfl⟩ rfl r hall y (by simpa using hy)
  · have ec : its.toArray.toList.countP (fun y => eqU (.int k) y) = ns.count k := by
      show its.countP _ = _
      clear q hs e hz
      induction hints with
      | nil => rfl
      | cons n' t' _ ih =>
        rename_i its' ns' hh
        have r' : Vals (ns'.map V.int) its' := by cases r with | cons _ r => exact r
        rw [List.countP_cons, List.count_cons, ih r']
        rfl
    rw [ec]
    exact ⟨.int _, H, I.tok _, ⟨_, rfl⟩, q⟩
end Dm

namespace Dm
open PySem PySem.Spec PyProof.Rows L2
open PySem.AutoSeq1 (wpAny_loadPart')
/-! ### enumerate(tuple) -/
theorem meets_enumT (a : Addr) (items : Array Value) :
    Meets (Builtin.«enumerate.__new__» ⟨[.type "enumerate", .ref a], []⟩) (fun _ R s => s.heap.IsTuple a items ∧
      R (.ok (.ret (.ref (s.heap.push { cls := .type "tuple_iterator", data := .fields #[.ref a, .int 0 0] }).objs.size)))
        { s with heap := (s.heap.push { cls := .type "tuple_iterator", data := .fields #[.ref a, .int 0 0] }).push { cls := .type "enumerate", data := .fields #[.none, .bool false, .ref s.heap.objs.size, rawInt 0, .none, .none] } }) :=
  .of_wp fun prog w A R s h => by
    obtain ⟨hp, g, d, tk, os⟩ := s ; obtain ⟨ht, h⟩ := h
    have h1 := sub_enumerate
    have hT : Heap.IsTuple (Shared.heap ⟨hp, g, d, tk, os⟩) a items := ht
    wp_walk using wpAny_pyIter_tuple hT
    refine wpAny_stack_any fun st => wpAny_pure ?_
    split
    · rename_i c _ _ _ _ _
      cases (c == Value.type "enumerate") <;> (wp_walk using wpAny_pyIter_tuple hT ; exact ⟨_, rfl, h⟩)
    · wp_walk using wpAny_pyIter_tuple hT
      exact ⟨_, rfl, h⟩
section
variable {prog : Program} {w : World} {A : Around} {E : Value → Shared → Prop} {s : Shared}
theorem call_enumT {a : Addr} {items : Array Value} {Q : Value → Shared → Prop} (ht : s.heap.IsTuple a items)
    (h : ∀ h', IsEnum h' (s.heap.objs.size + 1) s.heap.objs.size 0 .none → h'.IsTupleIter s.heap.objs.size a 0 → (∀ b o, s.heap.get? b = some o → h'.get? b = some o) → Q (.ref (s.heap.objs.size + 1)) { s with heap := h' }) :
    wpAny (model prog w) A (call (.type "enumerate") [.ref a]) Q E s := by
  have hz : (s.heap.push { cls := .type "tuple_iterator", data := .fields #[.ref a, .int 0 0] }).objs.size = s.heap.objs.size + 1 := Heap.size_push ..
  refine callType_new PySem.F.called_enumerate (by decide) (PySem.F.typeCall_enumerate_1 _) (PySem.F.newCall_enumerate_1 _) (fun obj => PySem.F.args_object_init_2 obj _) PySem.F.entry_enumerate_new (meets_enumT a items) ⟨ht, ?_⟩
  show _ ∧ _
  rw [hz]
  have he := Heap.get?_push_size (s.heap.push { cls := .type "tuple_iterator", data := .fields #[.ref a, .int 0 0] })
    (o := { cls := .type "enumerate", data := .fields #[.none, .bool false, .ref s.heap.objs.size, rawInt 0, .none, .none] }) rfl
  rw [hz] at he
  exact ⟨⟨_, he, rfl⟩, h _ he ⟨_, Heap.get?_push_of_some _ (Heap.get?_push_size _ rfl), rfl, rfl⟩ fun b o x => Heap.get?_push_of_some _ (Heap.get?_push_of_some _ x)⟩
end
/-- the tuple at a, each item in a new pair with its number -/
def IteT (K : PySem.W.Frag) (a : Addr) : It :=
  ⟨fun i H => ∃ (xs : List V) (x : V), SqT K H a xs ∧ xs[i]? = some x, fun i H v H' => ∃ T x, v = .ref T ∧ H T = none ∧ H' = upd H T (.tup [.int (i : Nat), x]) ∧ ∀ xs, SqT K H a xs → xs[i]? = some x,
    fun i H => ∃ xs : List V, SqT K H a xs ∧ xs.length = i⟩
theorem turn_enumT {P : Program} {w : World} {K : PySem.W.Frag} {elts : List Expr} {kk : Nat} {tpos : Pos} (a e it : Addr) :
    Turn P w K (.Tuple elts kk tpos) (IteT K a) [e, it] e (fun i h => (∃ old, IsEnum h e it ((i : Nat) : Int) old) ∧ h.IsTupleIter it a i ∧ e ≠ it) where
  mem := by simp
  obj := fun i h st b hb => by
    obtain ⟨⟨old, he⟩, ⟨o, ho, hc, hd⟩, _⟩ := st
    have hb' : b = e ∨ b = it := by simpa using hb
    rcases hb' with rfl | rfl
    · exact ⟨_, he, fun v q => nomatch q⟩
    · exact ⟨o, ho, fun v q => by rw [hd] at q; cases q⟩
  keep := fun i h h' st k => let ⟨⟨old, he⟩, hi, hne⟩ := st; ⟨⟨old, k e (by simp) _ he⟩, hi.at fun o q => k it (by simp) o q, hne⟩
  item := by
    intro X hP hw hK hc i pins s σ H E I hf st hg
    subst hP hw hK
    obtain ⟨⟨old, he⟩, hit, hne⟩ := st
    obtain ⟨xs, x, hq, hx⟩ := hg
    obtain ⟨its, rv, p, hz⟩ := I.tuple hq
    obtain ⟨u, hu, ru⟩ := rv.get hx
    have hel : e < s.heap.objs.size := Heap.lt_size he
    have hil : it < s.heap.objs.size := by obtain ⟨_, q, _⟩ := hit; exact Heap.lt_size q
    have hap : e ≠ a := fun z => by
      obtain ⟨o, q, hcl, _⟩ := p
      rw [← z, he] at q ; cases q ; exact absurd hcl (by simp)
    have hai : a ≠ it := fun z => by
      obtain ⟨o, q, hcl, _⟩ := p ; obtain ⟨o2, q2, hc2, _⟩ := hit
      rw [z, q2] at q ; cases q ; rw [hc2] at hcl ; exact absurd hcl (by simp)
    have pT : s.heap.IsTuple a its.toArray := p
    have D := Draws.tuple (prog := X.prog) (w := X.w) (A := X.A.in1) (I.ok.hd hc) it a hai its.toArray
    have hlt : i < its.toArray.size := by
      have z := (List.getElem?_eq_some_iff.mp hu).1
      simpa using z
    refine wpAny_pyNext_enum_itemC D he ⟨hit, pT⟩ hlt hne (by simp [hne, hap]) fun x' h' tk hP' ho hst' hT hsz hk => ?_
    have ex : x' = u := by
      have z : its[i]? = some x' := by simpa using hP'
      exact Option.some.inj (z.symm.trans hu)
    subst ex
    refine ⟨_, rfl, wpAny_letOwnedTupleGo_enum (s := { s with heap := h', toks := tk + 1 }) ho fun h'' he' sb => ?_⟩
    have hT2 : h''.get? s.heap.objs.size = some { cls := .type "tuple", data := .seq #[.int i tk, x'] } := (sb.2 _ (Nat.ne_of_gt hel)).trans hT
    have new : ObjOk X.prog X.w (upd H s.heap.objs.size (.tup [.int (i : Nat), x])) h'' s.heap.objs.size (.tup [.int (i : Nat), x]) :=
      ⟨by show 2 ≤ sizeLine; decide, [.int i tk, x'], .cons ⟨_, rfl⟩ (.cons ru .nil), ⟨_, hT2, rfl, _, rfl⟩⟩
    have I1 : Inv X pins σ (upd H s.heap.objs.size (.tup [.int (i : Nat), x])) { s with heap := h'', toks := tk + 1 } :=
      I.turnedNew (ch := [e, it]) (fun b ob hb q => (sb.2 b (fun z => hb (by simp [z]))).trans (hk b ob (fun z => hb (by simp [z])) (fun z => hb (by simp [z])) q)) hf (Nat.le_refl _) new
    refine ⟨.ref s.heap.objs.size, _, I1, rfl, ⟨_, x, rfl, I.hok.fresh (Nat.le_refl _), rfl, fun ys hy => by rw [I.tuple_inj hy hq]; exact hx⟩, ⟨⟨x', ?_⟩, hst'.1.at fun o q => (sb.2 it (Ne.symm hne)).trans q, hne⟩, fun b hb => ?_⟩
    · have e1 : ((i + 1 : Nat) : Int) = (i : Int) + 1 := by omega
      rw [e1] ; exact he'
    · have hb' : b < s.heap.objs.size := by
        have z : b = e ∨ b = it := by simpa using hb
        rcases z with rfl | rfl
        · exact hel
        · exact hil
      rw [upd_ne (Nat.ne_of_lt hb')] ; exact (hf b hb).1
  done := by
    intro X hP hw hK hc i pins s σ H E I hf st hg
    subst hP hw hK
    obtain ⟨⟨old, he⟩, hit, hne⟩ := st
    obtain ⟨xs, hq, hx⟩ := hg
    obtain ⟨its, rv, p, hz⟩ := I.tuple hq
    obtain ⟨f0, f1, f2, f3, f4, f5⟩ := hf it (by simp)
    have hl := rv.length
    have hai : a ≠ it := fun z => by
      obtain ⟨o, q, hcl, _⟩ := p ; obtain ⟨o2, q2, hc2, _⟩ := hit
      rw [z, q2] at q ; cases q ; rw [hc2] at hcl ; exact absurd hcl (by simp)
    have hsz : its.toArray.size = i := by rw [List.size_toArray]; omega
    have D := Draws.tuple (prog := X.prog) (w := X.w) (A := X.A.in1) (I.ok.hd hc) it a hai its.toArray
    rw [hsz] at D
    exact wpAny_pyNext_enum_endD D he ⟨hit, p⟩ fun h' eb => ⟨rfl, I.turned (t' := s.toks) (fun b o hb q => eb b o hb q) f0 f1 f3 f4 f5⟩
  self := fun A i s Q E st h => let ⟨⟨_, he⟩, _⟩ := st; wpAny_pyIter_enum he h
def iEnumT (K : PySem.W.Frag) (ta : TA) : TI := fun σ H R => ta σ H fun vs H1 => ∃ a xs, vs = [.ref a] ∧ SqT K H1 a xs ∧ R (IteT K a) H1
theorem pi_enumT {X : Cx} {e : Expr} {ta : TA} {p pos tpos : Pos} {elts : List Expr} {kk : Nat} (hg : Gl X "enumerate") (hm : X.mg "enumerate" = none) (ha : PA X [e] ta) (hs : starEach [e] X.env = [(false, eval e X.env)] := by rfl) :
    PI X (.Tuple elts kk tpos) (.Call (.Name "enumerate" p) [e] [] pos) (iEnumT X.K ta) := by
  refine ⟨fun pins s σ H R I h => ?_⟩
  refine Call_ (ld_blt I hg hm boot_enumerate (PyProof.Rows.callWith_type1 (thn (ha.run pos pins s σ H _ I h) fun us t ⟨vs, H1, I1, r1, q1⟩ => ?_) hs rfl))
  obtain ⟨a, xs, rfl, hq, q⟩ := q1
  obtain ⟨u, rfl, ru⟩ := vals1 r1
  cases ru
  obtain ⟨its, rv, p', hz⟩ := I1.tuple hq
  refine call_enumT (items := its.toArray) p' fun h' he hit hk => wpAny_pyIter_enum he ?_
  refine ⟨t.heap.objs.size + 1, [t.heap.objs.size + 1, t.heap.objs.size], _, _, H1, rfl, I1.kept (t' := t.toks) hk, turn_enumT a (t.heap.objs.size + 1) t.heap.objs.size, ⟨⟨.none, he⟩, hit, Nat.succ_ne_self _⟩, fun b hb => ?_, q⟩
  have hb' : b = t.heap.objs.size + 1 ∨ b = t.heap.objs.size := by simpa using hb
  have hle : t.heap.objs.size ≤ b := by
    rcases hb' with rfl | rfl
    · exact Nat.le_succ _
    · exact Nat.le_refl _
  exact I1.fpOk hle (I1.hok.fresh hle)
/-- a loop over enumerate of a tuple -/
theorem for_enumT {K : PySem.W.Frag} {a : Addr} {xs : List V} {g : TG} {tb : L2.TS} {D : Ends} {σ : L2.St} {H : Hp} (Pv : Nat → L2.St → Hp → Prop) (h0 : Pv 0 σ H) (hl : ∀ i σ H, i ≤ xs.length → Pv i σ H → SqT K H a xs)
    (hs : ∀ (i : Nat) (x : V) (T : Addr) (σ : L2.St) (H : Hp), xs[i]? = some x → Pv i σ H → H T = none → g (.ref T) σ (upd H T (.tup [.int (i : Nat), x])) fun σ2 H2 => tb { D with nx := Pv (i + 1), ct := Pv (i + 1), bk := D.nx } σ2 H2) (hd : ∀ σ H, Pv xs.length σ H → D.nx σ H) :
    ∃ W : Nat → Nat → L2.St → Hp → Prop, (∃ m, W 0 m σ H) ∧ ∀ i m σ H, W i m σ H →
      ((IteT K a).stop i H ∧ D.nx σ H) ∨ ((IteT K a).go i H ∧ ∃ N : L2.St → Hp → Prop, (∀ σ' H', N σ' H' → ∃ m', m' < m ∧ W (i + 1) m' σ' H') ∧ ∀ v H', (IteT K a).yld i H v H' → g v σ H' fun σ2 H2 => tb { D with nx := N, ct := N, bk := D.nx } σ2 H2) := by
  refine ⟨fun i m σ H => m = xs.length - i ∧ i ≤ xs.length ∧ Pv i σ H, ⟨xs.length, rfl, Nat.zero_le _, h0⟩, ?_⟩
  rintro i m σ H ⟨rfl, hi, p⟩
  have q := hl i σ H hi p
  by_cases hlt : i < xs.length
  · refine .inr ⟨⟨xs, xs[i], q, List.getElem?_eq_getElem hlt⟩, Pv (i + 1), fun σ' H' p' => ⟨xs.length - (i + 1), by omega, rfl, hlt, p'⟩, fun v H' y => ?_⟩
    obtain ⟨T, x, rfl, hT, rfl, f⟩ := y
    exact hs i x T σ H (f xs q) p hT
  · obtain rfl : i = xs.length := by omega
    exact .inl ⟨⟨xs, q, rfl⟩, hd σ H p⟩
end Dm

namespace Dm
open PySem PySem.Spec PyProof.Rows L2 Evl

/-! ### a method of a tuple -/
def tTM (r : V → List V → Hp → VK → Prop) (to : TE) (t : TA) : TE := fun σ H Q => to σ H fun x H1 => (∃ a xs, x = .ref a ∧ TupAt H1 a xs) ∧ t σ H1 fun vs H2 => r x vs H2 Q
section
variable {X : Cx} {o e : Expr} {es : List Expr} {to : TE} {t : TA} {name : Str} {apos cpos : Pos} {id : String} {r : V → List V → Hp → VK → Prop}
theorem pe_tm (pa : PlainAttrs "tuple") (slot : Slot "tuple" name id) (hty : typeOf (.builtin id) = pure (.type "method_descriptor")) (hm : MtR X id r) (ho : PE X o to) (ha : PA X (e :: es) t)
    (q1 : attributeBase o name X.env (eval o X.env) = eval o X.env := by rfl)
    (q2 : ((backTo cpos (starEach (e :: es) X.env)).all (fun x => !x.1) && (backToKw cpos (keywordEach [] X.env)).all (fun x => x.1.isSome)
      && decide ((e :: es).length + ([] : List Keyword).length + (if ([] : List Keyword).isEmpty then 0 else 1) < 30)) = true := by rfl)
    (q3 : (apos.endLine == cpos.line) = true := by rfl) (q4 : starEach (e :: es) X.env = (false, eval e X.env) :: starEach es X.env := by rfl) (q5 : (backTo cpos (starEach es X.env)).any (·.1) = false := by rfl) :
    PE X (.Call (.Attribute o name apos) (e :: es) [] cpos) (tTM r to t) := by
  refine ⟨fun pins s σ H Q I h => wpAny_Call_method_late q1 q2 q3 rfl (thn (ho.run pins s σ H _ I h) fun v s1 ⟨x, H1, I1, r1, ⟨a, xs, ex, ta⟩, k⟩ => ?_)⟩
  subst ex
  cases r1
  obtain ⟨ob, hd, hf⟩ := ta
  obtain ⟨hg, _, _, _, ob', hg', hc', _⟩ := (show ObjOk X.prog X.w H1 s1.heap a (.frz ob (.tup xs)) from I1.hok a _ hf)
  rw [hg] at hg' ; cases hg'
  refine ⟨"tuple", id, pa, slot, hty, ⟨ob, hg, hc'⟩, fun b eb => by cases eb ; exact ⟨ob, hg, hd⟩, ?_⟩
  have z := ha.run cpos pins s1 σ H1 _ I1 k
  rw [q4] at z ⊢
  refine Calls.callWith_builtin (by show (false || (backTo cpos (starEach es X.env)).any (·.1)) = false ; rw [q5] ; rfl) (Calls.evalArgs_plain (thn z fun us s2 ⟨vs, H2, I2, r2, k2⟩ => ?_))
  exact hm pins s2 σ H2 (.ref a) vs (.ref a) us Q I2 rfl r2 k2
end

/-! ### what evaluates to what, further -/
section
variable {K : PySem.W.Frag} {σ : L2.St} {H H' : Hp} {ta tb tc te : TE} {x y z v : V} {i j k : Int} {p a : Addr} {xs ys : List V}
def tyD : PyData → Value
  | .none => .type "NoneType"
  | .bool _ => .type "bool"
  | .int _ => .type "int"
  | .str _ => .type "str"
  | .tuple _ => .type "tuple"
  | _ => .type "list"
theorem Tp.ty {d : PyData} (h : Tp H v d) : TyX K H v (tyD d) := by
  cases h with
  | non => exact .base .non
  | bl b => exact .base (.bl b)
  | int i => exact .base (.int i)
  | str x => exact .base (.str x)
  | tup h _ => obtain ⟨o, _, e⟩ := h; exact .fTuple e
theorem ev_isi {n : String} {t : Value} {b : Bool} (ha : Ev ta σ H x) (ht : ∀ H1, Same H H1 → TyX K H1 x t) (hk : PySem.W.kitOne K t (.type n) = some b) : Ev (tCB (rIsi K) (tCons ta (tCons (tC (.ty n)) tNil))) σ H (.bl b) :=
  fun H1 e Q q => ha H1 e _ fun H2 e2 => ⟨x, .ty n, t, .type n, b, rfl, .ty n, ht H2 (e.trans e2), hk, q H2 e2⟩
theorem ev_isiD {n : String} {d : PyData} {b : Bool} (ha : Ev ta σ H x) (ht : Tp H x d) (hk : PySem.W.kitOne K (tyD d) (.type n) = some b) : Ev (tCB (rIsi K) (tCons ta (tCons (tC (.ty n)) tNil))) σ H (.bl b) :=
  ev_isi ha (fun H1 e => (ht.mono (Same.ts e)).ty) hk
theorem ev_lenT (ha : Ev ta σ H (.ref p)) (h : TupAt H p xs) : Ev (tCB (rLenS K) (tCons ta tNil)) σ H (.int (xs.length : Int)) := fun H1 e Q q =>
  ha H1 e _ fun H2 e2 => ⟨p, xs, rfl, .inr (h.mono (Same.ts (e.trans e2))).sq, q H2 e2⟩
abbrev rLe : R2 := rI0 fun i j => .bl (decide (i ≤ j))
theorem ev_chainLe (ha : Ev ta σ H (.int i)) (hb : Ev tb σ H (.int j)) (hc : Ev tc σ H (.int k)) : Ev (tChain rLe rLe ta tb tc) σ H (.bl (decide (i ≤ j) && decide (j ≤ k))) := fun H1 e Q q =>
  ha H1 e _ fun H2 e2 => hb H2 (e.trans e2) _ fun H3 e3 => ⟨i, j, rfl, rfl, _, rfl, by
    cases h : decide (i ≤ j) with
    | true =>
      rw [if_pos rfl]
      refine hc H3 ((e.trans e2).trans e3) _ fun H4 e4 => ⟨j, k, rfl, rfl, ?_⟩
      have z := q H4 ((e2.trans e3).trans e4)
      rw [h] at z
      exact z
    | false =>
      rw [if_neg Bool.false_ne_true]
      have z := q H3 (e2.trans e3)
      rw [h] at z
      exact z⟩
theorem ev_all {bs : List Bool} (h : EvL te σ H (bs.map V.bl)) : Ev (tCB (rAll K) (tCons te tNil)) σ H (.bl (bs.all id)) := fun H1 e Q q =>
  h H1 e _ fun p H2 _ e2 h2 => ⟨p, bs, rfl, .inl (.inl h2), q H2 e2⟩
theorem ev_maxD {ns : List Int} (h : EvL te σ H (ns.map V.int)) : Ev (tCKw (rMaxD K) (tCons te tNil) (tCons (tC .non) tNil)) σ H (maxV ns) := fun H1 e Q q =>
  h H1 e _ fun p H2 _ e2 h2 => ⟨p, ns, rfl, rfl, .inl (.inl h2), q H2 e2⟩
theorem ev_tcount {ns : List Int} (ha : Ev ta σ H (.ref p)) (h : TupAt H p (ns.map V.int)) (hb : Ev tb σ H (.int k)) : Ev (tTM (rCountT K) ta (tCons tb tNil)) σ H (.int (ns.count k : Nat)) := fun H1 e Q q =>
  ha H1 e _ fun H2 e2 => ⟨⟨p, _, rfl, h.mono (Same.ts (e.trans e2))⟩, hb H2 (e.trans e2) _ fun H3 e3 => ⟨p, ns, k, rfl, rfl, (h.mono (Same.ts ((e.trans e2).trans e3))).sq, q H3 (e2.trans e3)⟩⟩
theorem ev_ixT (ha : Ev ta σ H (.ref p)) (hb : Ev tb σ H (.int i)) (h : TupAt H p xs) (hi : atI xs i = some v) : Ev (tOp (rIx K) ta tb) σ H v := fun H1 e Q q =>
  ha H1 e _ fun H2 e2 => hb H2 (e.trans e2) _ fun H3 e3 => .inr (.inl ⟨p, xs, i, v, rfl, rfl, (h.mono (Same.ts ((e.trans e2).trans e3))).sq, hi, q H3 (e2.trans e3)⟩)
theorem ev_ixL (ha : Ev ta σ H (.ref p)) (hb : Ev tb σ H (.int i)) (h : SqL K H p xs) (hi : atI xs i = some v) : Ev (tOp (rIx K) ta tb) σ H v := fun H1 e Q q =>
  ha H1 e _ fun H2 e2 => hb H2 (e.trans e2) _ fun H3 e3 => .inl ⟨p, xs, i, v, rfl, rfl, ex_l ((e.trans e2).trans e3) h, hi, q H3 (e2.trans e3)⟩
theorem rv_eqI : RV rEq (.int i) (.int j) H (.bl (decide (i = j))) := fun H1 _ Q q => g_eqI (q H1 (Ex.refl H1))
theorem rv_neI : RV rNe (.int i) (.int j) H (.bl (!decide (i = j))) := fun H1 _ Q q => g_neI (q H1 (Ex.refl H1))
theorem ev_isN (ha : Ev ta σ H x) : Ev (tIsN ta) σ H (.bl (decide (x = .non))) := fun H1 e Q q => ha H1 e _ fun H2 e2 => q H2 e2
theorem ev_notN (ha : Ev ta σ H x) : Ev (tNotN ta) σ H (.bl (!decide (x = .non))) := fun H1 e Q q => ha H1 e _ fun H2 e2 => q H2 e2
/-! a promise whose answer is told by the arguments, all else as it was -/
def PV (pre : List V → Hp → V → Prop) : Sp := fun vs H Q _ => ∃ v, pre vs H v ∧ ∀ H', Same H H' → Q v H'
theorem ev_pv {pre : List V → Hp → V → Prop} {vs : List V} {E : XK} {t : TA} (h : EvA t σ H vs) (hp : ∀ H1, Same H H1 → pre vs H1 z) : Ev (tCall (PV pre) [] E t) σ H z := fun H1 e Q q =>
  h H1 e _ fun H2 e2 => by
    show PV pre (vs ++ []) H2 Q E
    rw [List.append_nil]
    exact ⟨z, hp H2 (e.trans e2), fun H3 e3 => q H3 (e2.trans e3)⟩
/-- a comprehension over a tuple -/
theorem el_lcT {t : TT} {tl : TE} {j : Nat} {vs : List Nat} (f : Nat → Bool) (g : Nat → V) (h : Ev tl σ H (.ref a)) (hx : TupAt H a xs) (hz : xs.length ≤ 40000) (hw : ∀ x, wipe ((wipe σ vs).set j (some x)) vs = wipe σ vs)
    (ht : ∀ (i : Nat) (x : V) H1, Ex H H1 → xs[i]? = some x → EvT t ((wipe σ vs).set j (some x)) H1 (f i)) (he : ∀ (i : Nat) (x : V) H1, Ex H H1 → xs[i]? = some x → f i = true → Ev te ((wipe σ vs).set j (some x)) H1 (g i)) :
    EvL (tLc (iTup K tl) (gName j) t te vs) σ H (given xs.length f g) := fun H0 e Q q => h H0 e _ fun H1 e1 => ⟨a, rfl, ⟨xs, (hx.mono (Same.ts (e.trans e1))).sq⟩, fun Dl hD =>
  lc_tup (xs := xs) (Cw H1 f g Dl) ⟨hD, Ex.new hD, upd_same⟩ (fun i H' _ c => (hx.mono (Same.ts ((e.trans e1).trans c.2.1))).sq) (fun i x H' hi c => ⟨hw x, cw_turn c (by have := (List.getElem?_eq_some_iff.mp hi).1; omega) (ht i x H1 (e.trans e1) hi) (fun hf => he i x H1 (e.trans e1) hi hf)⟩)
    (fun H' c => q Dl H' (fresh_back e1 c.1) (e1.trans c.2.1) c.2.2)⟩
theorem et_yes : EvT tYes σ H true := fun H1 _ _ q => q H1 (Ex.refl H1)
/-- given, by the list itself -/
theorem given_take {α : Type} (l : List α) (f : α → Bool) (g : α → V) (F : Nat → Bool) (G : Nat → V) (hf : ∀ i a, l[i]? = some a → F i = f a) (hg : ∀ i a, l[i]? = some a → G i = g a) : ∀ n, n ≤ l.length → given n F G = ((l.take n).filter f).map g
  | 0, _ => by rw [List.take_zero]; rfl
  | n + 1, h => by
    have hn : n < l.length := h
    have e : l[n]? = some l[n] := List.getElem?_eq_getElem hn
    have ih := given_take l f g F G hf hg n (by omega)
    rw [List.take_add_one, e, Option.toList_some, List.filter_append, List.map_append, ← ih]
    cases hF : F n with
    | true =>
      rw [given_yes hF, hg n _ e]
      have hf' : f l[n] = true := by rw [← hf n _ e]; exact hF
      rw [List.filter_cons, if_pos hf'] ; rfl
    | false =>
      rw [given_no hF]
      have hf' : f l[n] = false := by rw [← hf n _ e]; exact hF
      rw [List.filter_cons, if_neg (by rw [hf']; exact Bool.false_ne_true)]
      exact (List.append_nil _).symm
theorem given_map {α : Type} (l : List α) (f : α → Bool) (g : α → V) (F : Nat → Bool) (G : Nat → V) (hf : ∀ i a, l[i]? = some a → F i = f a) (hg : ∀ i a, l[i]? = some a → G i = g a) : given l.length F G = (l.filter f).map g := by
  have h := given_take l f g F G hf hg l.length (Nat.le_refl _)
  rwa [List.take_length] at h
theorem given_all {α : Type} (l : List α) (g : α → V) (G : Nat → V) (hg : ∀ i a, l[i]? = some a → G i = g a) : given l.length (fun _ => true) G = l.map g := by
  rw [given_map l (fun _ => true) g _ G (fun _ _ _ => rfl) hg, List.filter_eq_self.mpr (fun _ _ => rfl)]
end
end Dm

namespace Dm
/-! ### things, claims: plain data and what is reckoned of it -/
open PySem PySem.Spec PyProof.Rows L2 Evl
def dInt : PyData → Bool
  | .int _ => true
  | .bool _ => true
  | _ => false
def dBool : PyData → Bool
  | .bool _ => true
  | _ => false
def dStr : PyData → Bool
  | .str _ => true
  | _ => false
def dTup : PyData → Bool
  | .tuple _ => true
  | _ => false
def dLst (d : PyData) : Bool := !(dInt d || dStr d || dTup d || (match d with | .none => true | _ => false))
theorem kit_int {K : PySem.W.Frag} {d : PyData} : PySem.W.kitOne K (tyD d) (.type "int") = some (dInt d) := by cases d <;> first | exact kit_ty (r := true) (by decide +kernel) | exact kit_ty (r := false) (by decide +kernel)
theorem kit_bool {K : PySem.W.Frag} {d : PyData} : PySem.W.kitOne K (tyD d) (.type "bool") = some (dBool d) := by cases d <;> first | exact kit_ty (r := true) (by decide +kernel) | exact kit_ty (r := false) (by decide +kernel)
theorem kit_str {K : PySem.W.Frag} {d : PyData} : PySem.W.kitOne K (tyD d) (.type "str") = some (dStr d) := by cases d <;> first | exact kit_ty (r := true) (by decide +kernel) | exact kit_ty (r := false) (by decide +kernel)
theorem kit_tup {K : PySem.W.Frag} {d : PyData} : PySem.W.kitOne K (tyD d) (.type "tuple") = some (dTup d) := by cases d <;> first | exact kit_ty (r := true) (by decide +kernel) | exact kit_ty (r := false) (by decide +kernel)
theorem kit_lst {K : PySem.W.Frag} {d : PyData} : PySem.W.kitOne K (tyD d) (.type "list") = some (dLst d) := by cases d <;> first | exact kit_ty (r := true) (by decide +kernel) | exact kit_ty (r := false) (by decide +kernel)
def isNum (lo hi : Int) : PyData → Bool
  | .int i => decide (lo ≤ i) && decide (i ≤ hi)
  | _ => false
def isThree (low : Int) : PyData → Bool
  | .tuple ds => (ds.length == 3) && ds.all (isNum low 9)
  | _ => false
def isClaimD : PyData → Bool
  | .tuple [w, n] => isThree (-1) w && isNum 0 9 n
  | _ => false
def mkD (m : List Int) : PyData := .tuple (m.map .int)
def clD (c : List Int × Int) : PyData := .tuple [mkD c.1, .int c.2]
def clsD (cs : List (List Int × Int)) : PyData := .tuple (cs.map clD)
def okMarks (m : List Int) : Prop := m.length = 3 ∧ ∀ x ∈ m, 0 ≤ x ∧ x ≤ 9
def okClaim (c : List Int × Int) : Prop := c.1.length = 3 ∧ (∀ x ∈ c.1, -1 ≤ x ∧ x ≤ 9) ∧ 0 ≤ c.2 ∧ c.2 ≤ 9
def okClaims (cs : List (List Int × Int)) : Prop := cs.length ≤ 6 ∧ ∀ c ∈ cs, okClaim c
theorem three_of {low : Int} {m : List Int} (h : m.length = 3) (hr : ∀ x ∈ m, low ≤ x ∧ x ≤ 9) : isThree low (mkD m) = true := by
  show ((m.map PyData.int).length == 3 && (m.map PyData.int).all (isNum low 9)) = true
  rw [List.length_map, h, List.all_map, Bool.and_eq_true]
  refine ⟨rfl, List.all_eq_true.mpr fun x hx => ?_⟩
  have := hr x hx
  show (decide (low ≤ x) && decide (x ≤ 9)) = true
  rw [decide_eq_true this.1, decide_eq_true this.2]; rfl
theorem okMarks.three {m : List Int} (h : okMarks m) : isThree 0 (mkD m) = true := three_of h.1 h.2
theorem okClaim.is {c : List Int × Int} (h : okClaim c) : isClaimD (clD c) = true := by
  show (isThree (-1) (mkD c.1) && (decide (0 ≤ c.2) && decide (c.2 ≤ 9))) = true
  rw [three_of h.1 h.2.1, decide_eq_true h.2.2.1, decide_eq_true h.2.2.2]; rfl
/-- the claim fits the marks; how much; the greatest of those that fit -/
def fitsM (w m : List Int) : Bool := (w.zip m).all fun p => decide (p.1 = -1) || decide (p.1 = p.2)
def sizeM (c : List Int × Int) : Int := 10 * c.2 + (c.1.length : Int) - (c.1.count (-1) : Nat)
def bestL (cs : List (List Int × Int)) (m : List Int) : List Int := (cs.filter fun c => fitsM c.1 m).map sizeM
end Dm

namespace Dm
open PySem PySem.Spec PyProof.Rows L2 Evl
/-! ### loops and comprehensions over anything of n turns -/
theorem for_any {J : It} {n : Nat} {g : TG} {tb : L2.TS} {D : Ends} {σ : L2.St} {H : Hp} (Pv : Nat → L2.St → Hp → Prop) (h0 : Pv 0 σ H)
    (hg : ∀ i σ H, i < n → Pv i σ H → J.go i H) (hp : ∀ σ H, Pv n σ H → J.stop n H)
    (hs : ∀ i x σ H H', i < n → Pv i σ H → J.yld i H x H' → g x σ H' fun σ2 H2 => tb { D with nx := Pv (i + 1), ct := Pv (i + 1), bk := D.nx } σ2 H2) (hd : ∀ σ H, Pv n σ H → D.nx σ H) :
    ∃ W : Nat → Nat → L2.St → Hp → Prop, (∃ m, W 0 m σ H) ∧ ∀ i m σ H, W i m σ H →
      (J.stop i H ∧ D.nx σ H) ∨ (J.go i H ∧ ∃ N : L2.St → Hp → Prop, (∀ σ' H', N σ' H' → ∃ m', m' < m ∧ W (i + 1) m' σ' H') ∧ ∀ x H', J.yld i H x H' → g x σ H' fun σ2 H2 => tb { D with nx := N, ct := N, bk := D.nx } σ2 H2) := by
  refine ⟨fun i m σ H => m = n - i ∧ i ≤ n ∧ Pv i σ H, ⟨n, rfl, Nat.zero_le _, h0⟩, fun i m σ H ⟨em, hi, p⟩ => ?_⟩
  by_cases hlt : i < n
  · exact .inr ⟨hg i σ H hlt p, Pv (i + 1), fun σ' H' p' => ⟨n - (i + 1), by omega, rfl, hlt, p'⟩, fun x H' y => hs i x σ H H' hlt p y⟩
  · obtain rfl : i = n := by omega
    exact .inl ⟨hp σ H p, hd σ H p⟩
theorem lc_any {J : It} {n : Nat} {g : TG} {tt : TT} {te : TE} {vs : List Nat} {σ : L2.St} {H1 : Hp} {L : Addr} {Qd : Hp → Prop} (Pv : Nat → Hp → Prop) (h0 : Pv 0 (upd H1 L (.lst [])))
    (hg : ∀ i H, i < n → Pv i H → J.go i H) (hp : ∀ H, Pv n H → J.stop n H)
    (hs : ∀ i x H H', i < n → Pv i H → J.yld i H x H' → g x (wipe σ vs) H' fun σ2 H2 => wipe σ2 vs = wipe σ vs ∧ tt σ2 H2 fun b H3 =>
      if b = true then te σ2 H3 fun y H4 => ∃ acc, H4 L = some (.lst acc) ∧ acc.length < sizeLine ∧ Pv (i + 1) (upd H4 L (.lst (acc ++ [y]))) else Pv (i + 1) H3) (hd : ∀ H, Pv n H → Qd H) :
    ∃ W : Nat → Nat → Hp → Prop, (∃ m, W 0 m (upd H1 L (.lst []))) ∧ ∀ i m H, W i m H →
      (J.stop i H ∧ Qd H) ∨ (J.go i H ∧ ∃ Nx : Hp → Prop, (∀ H', Nx H' → ∃ m', m' < m ∧ W (i + 1) m' H') ∧ ∀ x H', J.yld i H x H' → g x (wipe σ vs) H' fun σ2 H2 => wipe σ2 vs = wipe σ vs ∧ tt σ2 H2 fun b H3 =>
        if b = true then te σ2 H3 fun y H4 => ∃ acc, H4 L = some (.lst acc) ∧ acc.length < sizeLine ∧ Nx (upd H4 L (.lst (acc ++ [y]))) else Nx H3) := by
  refine ⟨fun i m H => m = n - i ∧ i ≤ n ∧ Pv i H, ⟨n, rfl, Nat.zero_le _, h0⟩, fun i m H ⟨em, hi, p⟩ => ?_⟩
  by_cases hlt : i < n
  · exact .inr ⟨hg i H hlt p, Pv (i + 1), fun H' p' => ⟨n - (i + 1), by omega, rfl, hlt, p'⟩, fun x H' y => hs i x H H' hlt p y⟩
  · obtain rfl : i = n := by omega
    exact .inl ⟨hp H p, hd H p⟩
section
variable {K : PySem.W.Frag} {σ : L2.St} {H H' : Hp} {ta tb tc te tl : TE} {t : TT} {x y z v : V} {a b : Addr} {xs ys : List V} {D : Ends} {tu tz : L2.TS} {vs : List Nat} {i j k : Nat}
/-! ### targets of two and three names -/
abbrev gT2 (K : PySem.W.Frag) (i j : Nat) : TG := gTup K 2 (gCons (gName i) (gCons (gName j) gNil))
abbrev gT3 (K : PySem.W.Frag) (i j k : Nat) : TG := gTup K 3 (gCons (gName i) (gCons (gName j) (gCons (gName k) gNil)))
theorem g_un2 {R : L2.St → Hp → Prop} (ha : SqT K H a [x, y]) (q : R ((σ.set i (some x)).set j (some y)) H) : gT2 K i j (.ref a) σ H R := ⟨a, [x, y], rfl, ha, rfl, x, [y], rfl, y, [], rfl, rfl, q⟩
theorem g_un3 {R : L2.St → Hp → Prop} (ha : SqT K H a [x, y, z]) (q : R (((σ.set i (some x)).set j (some y)).set k (some z)) H) : gT3 K i j k (.ref a) σ H R := ⟨a, [x, y, z], rfl, ha, rfl, x, [y, z], rfl, y, [z], rfl, z, [], rfl, rfl, q⟩
theorem s_un2 (h : Ev te σ H (.ref a)) (ha : TupAt H a [x, y]) (q : ∀ H1, Ex H H1 → D.nx ((σ.set i (some x)).set j (some y)) H1) : tAsg te (gT2 K i j) D σ H :=
  h H (Ex.refl H) _ fun H1 e => g_un2 (ha.mono (Same.ts e)).sq (q H1 e)
theorem q_un2 (h : Ev te σ H (.ref a)) (ha : TupAt H a [x, y]) (q : ∀ H1, Ex H H1 → tz D ((σ.set i (some x)).set j (some y)) H1) : tSeq (tAsg te (gT2 K i j)) tz D σ H := s_un2 (D := { D with nx := tz D }) h ha q
theorem q_un3 (h : Ev te σ H (.ref a)) (ha : TupAt H a [x, y, z]) (q : ∀ H1, Ex H H1 → tz D (((σ.set i (some x)).set j (some y)).set k (some z)) H1) : tSeq (tAsg te (gT3 K i j k)) tz D σ H :=
  h H (Ex.refl H) _ fun H1 e => g_un3 (ha.mono (Same.ts e)).sq (q H1 e)
theorem Cw.more {f : Nat → Bool} {g : Nat → V} {L : Addr} {n : Nat} {T : Addr} {o : HO} (c : Cw H f g L n H') (hT : H' T = none) : Cw H f g L n (upd H' T o) := by
  obtain ⟨c1, c2, c3⟩ := c
  exact ⟨c1, c2.trans (Ex.new hT), by rw [upd_ne (ne_of_none c3 hT)] ; exact c3⟩
/-- a comprehension over zip of two tuples of one length -/
theorem el_lcZ (f : Nat → Bool) (g : Nat → V) (h1 : Ev ta σ H (.ref a)) (h2 : Ev tb σ H (.ref b)) (hx : TupAt H a xs) (hy : TupAt H b ys) (hl : xs.length = ys.length) (hz : xs.length ≤ 40000)
    (hw : ∀ x y, wipe (((wipe σ vs).set i (some x)).set j (some y)) vs = wipe σ vs)
    (ht : ∀ (n : Nat) (x y : V) H1, Ex H H1 → xs[n]? = some x → ys[n]? = some y → EvT t (((wipe σ vs).set i (some x)).set j (some y)) H1 (f n))
    (he : ∀ (n : Nat) (x y : V) H1, Ex H H1 → xs[n]? = some x → ys[n]? = some y → f n = true → Ev te (((wipe σ vs).set i (some x)).set j (some y)) H1 (g n)) :
    EvL (tLc (RZ.iZipA K (tCons ta (tCons tb tNil))) (gT2 K i j) t te vs) σ H (given xs.length f g) := fun H0 e Q q =>
  h1 H0 e _ fun H1 e1 => h2 H1 (e.trans e1) _ fun H2 e2 => ⟨a, b, xs, ys, rfl, .inr ⟨(hx.mono (Same.ts ((e.trans e1).trans e2))).sq, (hy.mono (Same.ts ((e.trans e1).trans e2))).sq, fun L hL => by
    have E : Ex H H2 := (e.trans e1).trans e2
    have qx : ∀ n H', Cw H2 f g L n H' → SqT K H' a xs := fun n H' c => (hx.mono (Same.ts (E.trans c.2.1))).sq
    have qy : ∀ n H', Cw H2 f g L n H' → SqT K H' b ys := fun n H' c => (hy.mono (Same.ts (E.trans c.2.1))).sq
    refine lc_any (n := xs.length) (Cw H2 f g L) ⟨hL, Ex.new hL, upd_same⟩ (fun n H' hn c => ⟨xs, ys, _, _, qx n H' c, qy n H' c, List.getElem?_eq_getElem hn, List.getElem?_eq_getElem (by omega : n < ys.length)⟩)
      (fun H' c => ⟨xs, ys, qx _ H' c, qy _ H' c, .inl (Nat.le_refl _)⟩) (fun n u H' H'' hn c y => ?_) (fun H' c => q L H' (fresh_back (e1.trans e2) c.1) ((e1.trans e2).trans c.2.1) c.2.2)
    obtain ⟨T, x, y, rfl, hT, rfl, fx, fy⟩ := y
    have ex := fx xs (qx n H' c)
    have ey := fy ys (qy n H' c)
    have c' : Cw H2 f g L n (upd H' T (.tup [x, y])) := Cw.more c hT
    exact g_un2 (SqT.of upd_same) ⟨hw x y, cw_turn c' (by omega) (ht n x y H2 E ex ey) (fun hf => he n x y H2 E ex ey hf)⟩⟩⟩
end
end Dm

namespace Dm
open PySem PySem.Spec PyProof.Rows L2 Evl
/-! ### the rules that name the written part, by the part itself: their readings do not lean on the context -/
section
variable {X : Cx} {K : PySem.W.Frag} {e l : Expr} {tg : Expr} {ta : TA} {tl to : TE} {t : TGs} {es : List Expr} {p pos cpos apos : Pos} {k n : Nat}
theorem ixK (h : X.K = K) : IxR X (rIx K) := h ▸ ix_seq
theorem lenK (h : X.K = K) : CallR X (.builtin "len") (rLenS K) := h ▸ call_len_seq
theorem isiK (h : X.K = K) : CallR X (.builtin "isinstance") (rIsi K) := h ▸ call_isi
theorem isiTK (h : X.K = K) : CallR X (.builtin "isinstance") (rIsiT K) := h ▸ call_isiT
theorem allK (h : X.K = K) (hc : X.calm = true) : CallR X (.builtin "all") (rAll K) := h ▸ cr_all hc
theorem tupleK (h : X.K = K) : CallR X (.type "tuple") (rTupF K) := h ▸ call_tupleF
theorem listK (h : X.K = K) : CallR X (.type "list") (rListS K) := h ▸ call_list_of
theorem inK (h : X.K = K) : OpR X (compareOp .In) (rIn K false) := h ▸ op_in_seq
theorem notInK (h : X.K = K) : OpR X (compareOp .NotIn) (rIn K true) := h ▸ op_notIn_seq
theorem eqDK (h : X.K = K) (hu : X.A.units + 64 < cLine) : OpR X (compareOp .Eq) (rEqD K) := h ▸ op_eqD hu
theorem neDK (h : X.K = K) (hu : X.A.units + 64 < cLine) : OpR X (compareOp .NotEq) (rNeD K) := h ▸ op_neD hu
theorem pi_listK (h : X.K = K) (hl : PE X l tl) : PI X tg l (iList K tl) := h ▸ pi_list hl
theorem pi_tupK (h : X.K = K) (hl : PE X l tl) : PI X tg l (iTup K tl) := h ▸ pi_tup hl
theorem pg_tupK (h : X.K = K) (hc : X.calm = true) (hp : PGs X es t) (hn : (assignEach es X.env).length = n := by rfl) (hst : (assignEach es X.env).findIdx? (·.1) = none := by rfl) : PG X (.Tuple es k pos) (gTup K n t) := h ▸ pg_tup hc hp hn hst
end
end Dm

namespace Dm
open PySem PySem.Spec PyProof.Rows L2 Evl
/-! ### the law's own draws: the cell that they turn -/
/-- [mixed, cells, place] stands at h, its cells at c -/
def Dr (H : Hp) (h c : Addr) : Prop := ∃ (m at_ : Int) (cells : List Int), H h = some (.lst [.int m, .ref c, .int at_]) ∧ H c = some (.lst (cells.map V.int)) ∧ 0 ≤ m ∧ m < 2147483647 ∧ 0 ≤ at_ ∧ cells.length ≤ 63
theorem Dr.mono {H H' : Hp} {h c : Addr} (e : Same H H') (d : Dr H h c) : Dr H' h c := by
  obtain ⟨m, a, cs, h1, h2, r⟩ := d
  exact ⟨m, a, cs, e _ _ h1, e _ _ h2, r⟩
theorem Dr.ne {H : Hp} {h c : Addr} (d : Dr H h c) : h ≠ c := by
  obtain ⟨m, a, cs, h1, h2, _⟩ := d
  refine ne_of h1 h2 fun z => ?_
  injection z with z
  match cs, z with
  | [], z => cases z
  | [_], z => cases z
  | _ :: _ :: _, z => simp at z
theorem Dr.noT {H : Hp} {h c : Addr} (d : Dr H h c) {p : Addr} (hp : p = h ∨ p = c) : ∀ u xs, H p ≠ some (.frz u (.tup xs)) := by
  obtain ⟨m, a, cs, h1, h2, _⟩ := d
  rintro u xs z
  rcases hp with rfl | rfl
  · rw [h1] at z ; cases z
  · rw [h2] at z ; cases z
/-- what is new is neither of the two -/
theorem Dr.new {H : Hp} {h c p : Addr} (d : Dr H h c) (hp : H p = none) : p ∉ [h, c] := by
  obtain ⟨m, a, cs, h1, h2, _⟩ := d
  intro z
  simp only [List.mem_cons, List.not_mem_nil, or_false] at z
  rcases z with rfl | rfl
  · rw [h1] at hp ; cases hp
  · rw [h2] at hp ; cases hp
/-- another object is laid or changed -/
theorem Dr.upd {H : Hp} {h c p : Addr} {o : HO} (d : Dr H h c) (hp : p ∉ [h, c]) : Dr (L2.upd H p o) h c := by
  obtain ⟨m, a, cs, h1, h2, r⟩ := d
  simp only [List.mem_cons, List.not_mem_nil, or_false, not_or] at hp
  exact ⟨m, a, cs, by rw [upd_ne (Ne.symm hp.1)]; exact h1, by rw [upd_ne (Ne.symm hp.2)]; exact h2, r⟩
/-- a list of the frame's own stays over what moves the two cells -/
theorem Mv.at {M : List Addr} {H H' : Hp} {p : Addr} {o : HO} (e : Mv M H H') (hp : p ∉ M) (h : H p = some o) : H' p = some o := e.fr p o hp h
theorem Mv.new {M : List Addr} {H H' : Hp} (e : Mv M H H') {p : Addr} (hp : p ∉ M) {o : HO} (h : H p = none) : Mv M H (L2.upd H' p o) := e.upd h

/-! ### data in lists too: alike -/
section
variable {K : PySem.W.Frag} {H : Hp} {v : V} {d : PyData}
mutual
theorem Dp.mono' {H' : Hp} (e : Same H H') : ∀ {v : V} {d : PyData}, Dp K H v d → Dp K H' v d
  | _, _, .non => .non
  | _, _, .bl b => .bl b
  | _, _, .int i => .int i
  | _, _, .str x => .str x
  | _, _, .lst h t => .lst (e.seq h) (DpAll.mono' e t)
  | _, _, .tup h t => .tup (ex_t e h) (DpAll.mono' e t)
theorem DpAll.mono' {H' : Hp} (e : Same H H') : ∀ {vs : List V} {ds : List PyData}, DpAll K H vs ds → DpAll K H' vs ds
  | _, _, .nil => .nil
  | _, _, .cons h t => .cons (Dp.mono' e h) (DpAll.mono' e t)
end
theorem Dp.ty (h : Dp K H v d) : TyX K H v (tyD d) := by
  cases h with
  | non => exact .base .non
  | bl b => exact .base (.bl b)
  | int i => exact .base (.int i)
  | str x => exact .base (.str x)
  | lst h _ =>
    rcases h with (h | ⟨o, h⟩) | ⟨o, its, n, h, hc, _⟩
    · exact .base (.lst h)
    · exact .base (.frz h)
    · exact .kList h hc
  | tup h _ =>
    rcases h with (h | ⟨o, h⟩) | ⟨o, its, n, h, hc, _⟩
    · exact .base (.tup h)
    · exact .fTuple h
    · exact .kTuple h hc
theorem DpAll.length : ∀ {vs : List V} {ds : List PyData}, DpAll K H vs ds → vs.length = ds.length
  | _, _, .nil => rfl
  | _, _, .cons _ t => congrArg (· + 1) (DpAll.length t)
theorem DpAll.get' : ∀ {vs : List V} {ds : List PyData} {i : Nat} {d : PyData}, DpAll K H vs ds → ds[i]? = some d → ∃ x, vs[i]? = some x ∧ Dp K H x d
  | _, _, i, _, .nil, e => by simp at e
  | _, _, 0, x, .cons h _, e => by
    have e' := Option.some.inj e
    subst e'
    exact ⟨_, rfl, h⟩
  | _, _, i + 1, x, .cons _ t, e => DpAll.get' (i := i) t (by simpa using e)
/-- at most n deep, no list beyond what is walked, no dict -/
inductive Fine : Nat → PyData → Prop
  | non (n) : Fine n .none
  | bool (n b) : Fine n (.bool b)
  | int (n i) : Fine n (.int i)
  | str (n x) : Fine n (.str x)
  | list {n ds} : ds.length ≤ 40000 → (∀ d ∈ ds, Fine n d) → Fine (n + 1) (.list ds)
  | tuple {n ds} : ds.length ≤ 40000 → (∀ d ∈ ds, Fine n d) → Fine (n + 1) (.tuple ds)
def dSeq : PyData → Bool
  | .list _ => true
  | .tuple _ => true
  | .dict _ => true
  | _ => false
theorem kit_seq {K : PySem.W.Frag} {d : PyData} : PySem.W.kitAny K (tyD d) [.type "tuple", .type "list"] = some (dSeq d) := by
  refine kitAny_cons (b := dTup d) kit_tup (fun h => kitAny_cons (b := dLst d) kit_lst (fun h' => ?_) fun h' => ?_) fun h => ?_
  · cases d <;> first | rfl | exact absurd h Bool.noConfusion | exact absurd h' Bool.noConfusion
  · cases d <;> first | rfl | exact absurd h Bool.noConfusion | exact absurd h' Bool.noConfusion
  · cases d <;> first | rfl | exact absurd h Bool.noConfusion
theorem lay_all : ∀ {ds : List PyData}, (∀ d ∈ ds, d.canLay0 = true) → PyData.canLayAll0 ds = true
  | [], _ => by simp only [PyData.canLayAll0]
  | d :: ds, h => by
    simp only [PyData.canLayAll0, Bool.and_eq_true]
    exact ⟨h d (List.mem_cons_self ..), lay_all fun e he => h e (List.mem_cons_of_mem _ he)⟩
theorem dep_all {n : Nat} : ∀ {ds : List PyData}, (∀ d ∈ ds, d.depth ≤ n) → PyData.depthAll ds ≤ n
  | [], _ => by simp only [PyData.depthAll]; exact Nat.zero_le _
  | d :: ds, h => by
    simp only [PyData.depthAll]
    exact Nat.max_le.mpr ⟨h d (List.mem_cons_self ..), dep_all fun e he => h e (List.mem_cons_of_mem _ he)⟩
theorem shaped_list {ds : List PyData} (h : ∀ d ∈ ds, d.canLay0 = true ∧ d.depth ≤ 63) : SeqAt.shaped (.list ds) = true := by
  unfold SeqAt.shaped
  rw [Bool.and_eq_true]
  refine ⟨?_, decide_eq_true ?_⟩
  · simp only [PyData.canLay0]
    exact lay_all fun d hd => (h d hd).1
  · simp only [PyData.depth]
    have := dep_all (n := 63) fun d hd => (h d hd).2
    omega
theorem shaped_ints (ns : List Int) : SeqAt.shaped (.list (ns.map .int)) = true := shaped_list fun d hd => by
  obtain ⟨i, _, rfl⟩ := List.mem_map.mp hd
  simp only [PyData.canLay0, PyData.depth, true_and]
  exact Nat.zero_le _
theorem DpAll.of_ints : ∀ ns : List Int, DpAll K H (ns.map V.int) (ns.map .int)
  | [] => .nil
  | n :: ns => .cons (.int n) (DpAll.of_ints ns)
theorem eqv_nil (ns : List Int) : PyData.eqv (.list (ns.map .int)) (.list []) = decide (ns = []) := by
  cases ns with
  | nil => simp only [List.map_nil, PyData.eqv, PyData.eqvAll]; rfl
  | cons n ns => simp only [List.map_cons, PyData.eqv, PyData.eqvAll]; rfl
end
section
variable {K : PySem.W.Frag} {σ : L2.St} {H H' : Hp} {ta tb tc te : TE} {x y z v : V} {i j k : Int} {p a c h : Addr} {xs ys : List V}
theorem ev_isiD' {n : String} {d : PyData} {b : Bool} (ha : Ev ta σ H x) (ht : Dp K H x d) (hk : PySem.W.kitOne K (tyD d) (.type n) = some b) : Ev (tCB (rIsi K) (tCons ta (tCons (tC (.ty n)) tNil))) σ H (.bl b) :=
  ev_isi ha (fun H1 e => (Dp.ty (Dp.mono' e ht))) hk
theorem ev_isiSeq {d : PyData} (ha : Ev ta σ H x) (ht : Dp K H x d) : Ev (tCB (rIsiT K) (tCons ta (tCons (tTup (tCons (tC (.ty "tuple")) (tCons (tC (.ty "list")) tNil))) tNil))) σ H (.bl (dSeq d)) := fun H1 e Q q =>
  ha H1 e _ fun H2 e2 => ⟨by show 2 ≤ sizeLine; decide, fun p hp => ⟨x, p, [.ty "tuple", .ty "list"], tyD d, [.type "tuple", .type "list"], dSeq d, rfl, upd_same, .cons (.ty _) (.cons (.ty _) .nil), Dp.ty (Dp.mono' ((e.trans e2).trans (Same.new hp)) ht), kit_seq, q _ (e2.trans (Same.new hp))⟩⟩
/-- the cells, against [] -/
theorem rv_neNil {ns : List Int} (hc : H c = some (.lst (ns.map V.int))) (hp : H p = some (.lst [])) : RV (rNeD K) (.ref c) (.ref p) H (.bl (!decide (ns = []))) := fun H1 e Q q =>
  ⟨.list (ns.map .int), .list [], .lst (SqL.of (e _ _ hc)) (DpAll.of_ints ns), .lst (SqL.of (e _ _ hp)) .nil, shaped_ints ns, shaped_ints [], by rw [eqv_nil]; exact q H1 (Ex.refl H1)⟩
theorem ev_lenD {ds : List PyData} (ha : Ev ta σ H x) (hd : Dp K H x (.list ds) ∨ Dp K H x (.tuple ds)) : Ev (tCB (rLenS K) (tCons ta tNil)) σ H (.int (ds.length : Int)) := fun H1 e Q q =>
  ha H1 e _ fun H2 e2 => by
    rcases hd with hd | hd
    · cases hd with
      | lst h t => exact ⟨_, _, rfl, .inl (ex_l (e.trans e2) h), by rw [DpAll.length t]; exact q H2 e2⟩
    · cases hd with
      | tup h t => exact ⟨_, _, rfl, .inr (ex_t (e.trans e2) h), by rw [DpAll.length t]; exact q H2 e2⟩
theorem ev_ixD {ds : List PyData} {n : Nat} {d : PyData} (ha : Ev ta σ H x) (hb : Ev tb σ H (.int (n : Int))) (hd : Dp K H x (.list ds) ∨ Dp K H x (.tuple ds)) (hn : ds[n]? = some d) : ∃ v, Dp K H v d ∧ Ev (tOp (rIx K) ta tb) σ H v := by
  rcases hd with hd | hd
  · cases hd with
    | lst h t =>
      obtain ⟨v, hv, hd⟩ := DpAll.get' t hn
      exact ⟨v, hd, ev_ixL ha hb h (atI_nat hv)⟩
  · cases hd with
    | tup h t =>
      obtain ⟨v, hv, hd⟩ := DpAll.get' t hn
      refine ⟨v, hd, fun H1 e Q q => ha H1 e _ fun H2 e2 => hb H2 (e.trans e2) _ fun H3 e3 => .inr (.inl ⟨_, _, _, v, rfl, rfl, ex_t ((e.trans e2).trans e3) h, atI_nat hv, q H3 (e2.trans e3)⟩)⟩
theorem rv_eqNil {q : Addr} (hp : H p = some (.lst [])) (hq : H q = some (.lst [])) : RV (rEqD K) (.ref p) (.ref q) H (.bl true) := fun H1 e Q k =>
  ⟨.list [], .list [], .lst (SqL.of (e _ _ hp)) .nil, .lst (SqL.of (e _ _ hq)) .nil, shaped_ints [], shaped_ints [], by
    have z : PyData.eqv (.list []) (.list []) = true := by simp only [PyData.eqv, PyData.eqvAll]
    rw [z]; exact k H1 (Ex.refl H1)⟩
abbrev rGeI : R2 := rI0 fun i j => .bl (decide (j ≤ i))
end
end Dm

namespace Dm
open PySem PySem.Spec PyProof.Rows L2 Evl
/-! ### the mathematics of fit, two ways -/
def cntEq (w m : List Int) : Nat := ((List.range 3).filter fun k => decide (w.getD k 0 = m.getD k 0)).length
def cntTold (w : List Int) : Nat := ((List.range 3).filter fun k => !decide (w.getD k 0 = -1)).length
def stepF (m : List Int) (best : Option Int) (c : List Int × Int) : Option Int :=
  if decide (cntEq c.1 m = cntTold c.1) && (best.isNone || decide (10 * c.2 + (cntEq c.1 m : Int) > best.getD 0)) then some (10 * c.2 + (cntEq c.1 m : Int)) else best
def lawFit (cs : List (List Int × Int)) (m : List Int) : Option Int := cs.foldl (stepF m) none
def optV : Option Int → V
  | none => .non
  | some i => .int i
theorem cnt_fits {w m : List Int} (hw : w.length = 3) (hm : okMarks m) : decide (cntEq w m = cntTold w) = fitsM w m ∧ (fitsM w m = true → (w.length : Int) - (w.count (-1) : Nat) = (cntEq w m : Int)) := by
  obtain ⟨h3, hr⟩ := hm
  match w, hw, m, h3 with
  | [a, b, c], _, [x, y, z], _ =>
    have hx := hr x (by simp)
    have hy := hr y (by simp)
    have hz := hr z (by simp)
    have e3 : List.range 3 = [0, 1, 2] := rfl
    have k0 : ∀ (p q r : Int), [p, q, r].getD 0 0 = p := fun _ _ _ => rfl
    have k1 : ∀ (p q r : Int), [p, q, r].getD 1 0 = q := fun _ _ _ => rfl
    have k2 : ∀ (p q r : Int), [p, q, r].getD 2 0 = r := fun _ _ _ => rfl
    unfold cntEq cntTold fitsM
    rw [e3]
    simp only [List.filter_cons, List.filter_nil, k0, k1, k2, List.zip_cons_cons, List.zip_nil_right, List.all_cons, List.all_nil, List.count_cons, List.count_nil]
    have nx : ¬ (-1 = x) := by omega
    have ny : ¬ (-1 = y) := by omega
    have nz : ¬ (-1 = z) := by omega
    rcases (show a = -1 ∨ (a ≠ -1 ∧ a = x) ∨ (a ≠ -1 ∧ a ≠ x) by omega) with ha | ⟨ha, ha'⟩ | ⟨ha, ha'⟩ <;>
    rcases (show b = -1 ∨ (b ≠ -1 ∧ b = y) ∨ (b ≠ -1 ∧ b ≠ y) by omega) with hb | ⟨hb, hb'⟩ | ⟨hb, hb'⟩ <;>
    rcases (show c = -1 ∨ (c ≠ -1 ∧ c = z) ∨ (c ≠ -1 ∧ c ≠ z) by omega) with hc | ⟨hc, hc'⟩ | ⟨hc, hc'⟩ <;>
    first
    | (subst_vars; simp_all; done)
    | (simp_all; done)
    | (subst_vars; simp_all; omega)
theorem step_eq {m : List Int} {best : Option Int} {c : List Int × Int} (hc : okClaim c) (hm : okMarks m) :
    stepF m best c = if fitsM c.1 m then (match best with | none => some (sizeM c) | some b => some (max b (sizeM c))) else best := by
  obtain ⟨h1, h2⟩ := cnt_fits hc.1 hm
  unfold stepF
  rw [h1]
  cases hf : fitsM c.1 m with
  | false => rfl
  | true =>
    have hs : 10 * c.2 + (cntEq c.1 m : Int) = sizeM c := by unfold sizeM ; have := h2 hf ; omega
    rw [hs]
    cases best with
    | none => rfl
    | some b =>
      show (if (true && (false || decide (sizeM c > b))) = true then some (sizeM c) else some b) = some (max b (sizeM c))
      by_cases hb : sizeM c > b
      · rw [decide_eq_true hb, if_pos (by rfl), Int.max_eq_right (by omega)]
      · rw [decide_eq_false hb, if_neg (by decide), Int.max_eq_left (by omega)]
theorem fold_fit {m : List Int} (hm : okMarks m) : ∀ (cs : List (List Int × Int)) (best : Option Int), (∀ c ∈ cs, okClaim c) →
    optV (cs.foldl (stepF m) best) = match best with | none => maxV (bestL cs m) | some b => .int ((bestL cs m).foldl max b)
  | [], none, _ => rfl
  | [], some b, _ => rfl
  | c :: cs, best, h => by
    have hc := h c (List.mem_cons_self ..)
    have ih := fun b => fold_fit hm cs b fun d hd => h d (List.mem_cons_of_mem _ hd)
    rw [List.foldl_cons, step_eq hc hm]
    unfold bestL at ih ⊢
    rw [List.filter_cons]
    cases hf : fitsM c.1 m with
    | false => exact ih best
    | true =>
      rw [if_pos rfl, if_pos rfl, List.map_cons]
      cases best with
      | none => exact ih (some (sizeM c))
      | some b => exact ih (some (max b (sizeM c)))
theorem fit_eq {cs : List (List Int × Int)} {m : List Int} (hc : okClaims cs) (hm : okMarks m) : maxV (bestL cs m) = optV (lawFit cs m) := (fold_fit hm cs none hc.2).symm
/-! ### what the law's helpers promise -/
def spNext : Sp := fun vs H Q _ => ∃ (h c : Addr) (k : Int), vs = [.ref h, .int k] ∧ Dr H h c ∧ 0 < k ∧ k < 1000000 ∧ ∀ (H' : Hp) (r : Int), Dr H' h c → Mv [h, c] H H' → 0 ≤ r → r < k → Q (.int r) H'
def spMix (K : PySem.W.Frag) : Sp := fun vs H Q _ => ∃ (a : Addr) (ns : List Int) (sd : Int), vs = [.ref a, .int sd] ∧ SqL K H a (ns.map V.int) ∧ ns.length ≤ 63 ∧ 0 ≤ sd ∧ sd < 2147483647 ∧
  ∀ (H' : Hp) (h c : Addr), Dr H' h c → Same H H' → H h = none → H c = none → Q (.ref h) H'
def spAlike (K : PySem.W.Frag) : Nat → Sp
  | 0 => fun _ _ _ _ => False
  | n + 1 => PV fun vs H v => ∃ x y d, vs = [x, y] ∧ Dp K H x d ∧ Dp K H y d ∧ Fine n d ∧ v = .bl true
def spMarks : Sp := fun vs H Q _ => ∃ (h c : Addr), vs = [.ref h] ∧ Dr H h c ∧ ∀ (H' : Hp) (v : V) (m : List Int), Dr H' h c → Mv [h, c] H H' → Tp H' v (mkD m) → okMarks m → Q v H'
def spClaims : Sp := fun vs H Q _ => ∃ (h c : Addr), vs = [.ref h] ∧ Dr H h c ∧ ∀ (H' : Hp) (v : V) (cs : List (List Int × Int)), Dr H' h c → Mv [h, c] H H' → Tp H' v (clsD cs) → okClaims cs → Q v H'
def spLawFit : Sp := PV fun vs H v => ∃ x y cs m, vs = [x, y] ∧ Tp H x (clsD cs) ∧ Tp H y (mkD m) ∧ okClaims cs ∧ okMarks m ∧ v = optV (lawFit cs m)
section
variable {K : PySem.W.Frag} {σ : L2.St} {H : Hp} {ta te : TE} {tl : TA} {i : Nat} {h c : Addr} {Q : VK} {E : XK}
theorem ev_alike {n : Nat} {x y : V} {d : PyData} (ha : EvA tl σ H [x, y]) (hd : ∀ H1, Same H H1 → Dp K H1 x d ∧ Dp K H1 y d) (hf : Fine n d) : Ev (tCall (spAlike K (n + 1)) [] E tl) σ H (.bl true) :=
  ev_pv ha fun H1 e => ⟨x, y, d, rfl, (hd H1 e).1, (hd H1 e).2, hf, rfl⟩
theorem el_is {xs ys : List V} (z : EvL te σ H xs) (e : xs = ys) : EvL te σ H ys := e ▸ z
/-- a draw -/
theorem nx {k : Int} (dr : Dr H h c) (h0 : 0 < k) (h1 : k < 1000000) (q : ∀ (H' : Hp) (r : Int), Dr H' h c → Mv [h, c] H H' → 0 ≤ r → r < k → Q (.int r) H') : spNext ([.ref h, .int k] ++ []) H Q E := ⟨h, c, k, rfl, dr, h0, h1, q⟩
/-- an item of a written menu, drawn -/
theorem rd_menu {n : Int} {xs : List Int} (ht : EvA tl σ H (xs.map V.int)) (hv : σ[i]? = some (some (.ref h))) (dr : Dr H h c) (hn : (xs.length : Int) = n) (h0 : 0 < n) (h1 : n < 1000)
    (q : ∀ (H' : Hp) (v : Int), Dr H' h c → Mv [h, c] H H' → v ∈ xs → Q (.int v) H') : tOp (rIx K) (tLst tl) (tCall spNext [] E (tCons (tVar i) (tCons (tC (.int n)) tNil))) σ H Q :=
  ht H (Ex.refl H) _ fun H1 e1 => ⟨sz_of (by rw [List.length_map]; omega), fun p hp => ⟨.ref h, hv, by
    show spNext ([V.ref h, V.int n] ++ []) _ (fun y H2 => rIx K (V.ref p) y H2 Q) E
    refine nx (((dr.mono e1)).upd ((dr.mono e1).new hp)) h0 (by omega) fun H2 r d2 m2 r0 r1 => ?_
    have hL : H2 p = some (.lst (xs.map V.int)) := m2.at ((dr.mono e1).new hp) upd_same
    obtain ⟨j, rfl⟩ : ∃ j : Nat, r = (j : Int) := ⟨r.toNat, by omega⟩
    have hj : j < xs.length := by omega
    have e : (xs.map V.int)[j]? = some (.int xs[j]) := by rw [List.getElem?_map, List.getElem?_eq_getElem hj] ; rfl
    exact .inl ⟨p, _, _, _, rfl, rfl, SqL.of hL, atI_nat e, q H2 _ d2 ((((Mv.of e1).trans (Mv.of (Same.new hp)))).trans m2) (List.getElem_mem hj)⟩⟩⟩
end
end Dm

namespace Dm
open PySem PySem.Spec PyProof.Rows L2 Evl
/-! ### a def of the text, how it is called -/
structure DefT (K : PySem.W.Frag) (mg : Str → Option Value) (x : Str) (st : Stmt) (ps : List Str) where
  f : Addr
  fd : FuncData
  F : Fun K x x st f fd
  m : mg x = some (.ref f)
  b : Binds K fd ps []
def def_mk {K : PySem.W.Frag} {h : Heap} {mg : Str → Option Value} {x : Str} {st : Stmt} {ps : List Str} (X : K.In h) (G : h.Ns mainGlobals mg) {f : Addr} {oc : Value} {od an : Option Addr} {osl : Array (Option Value)} {kV doc pm cdv ct : Value}
    (a : PySem.W.nsIn K mainGlobals x = some (some (.ref f))) (l : K.lookup f = some ⟨oc, od, .func (PySem.W.fnOf x x (defArgs st) (defBody st) (defScope st) .none kV doc pm an cdv ct), osl⟩) (c : PySem.W.codeIn K cdv x = true) (k : PySem.W.keepIn K (.ref f) = true)
    (b : ∀ (kV doc pm : Value) (an : Option Addr) (cdv ct : Value) (us : List Value), us.length = ps.length → bindArgs (PySem.W.fnOf x x (defArgs st) (defBody st) (defScope st) .none kV doc pm an cdv ct) ⟨us, []⟩ = pure (ps.zip us)) : DefT K mg x st ps :=
  ⟨f, PySem.W.fnOf x x (defArgs st) (defBody st) (defScope st) .none kV doc pm an cdv ct, fun_mk l c k, PySem.W.mg_of X G a, (fun_mk l c k).binds b⟩

def topS (i : Nat) : Stmt := PySem.Challenge.pw_drivermatch_k02_fits.main.body.getD i (.Pass ⟨0, 0, 0, 0⟩)
abbrev s_is_number : Stmt := topS 9
theorem sc_is_number : FnScope ["value", "low", "high"] ["value", "low", "high"] (defScope s_is_number) := ⟨rfl, rfl, rfl, by decide +kernel, rfl, by decide +kernel, by decide +kernel⟩
abbrev s_is_three : Stmt := topS 10
theorem sc_is_three : FnScope ["value", "low", "mark"] ["value", "low"] (defScope s_is_three) := ⟨rfl, rfl, rfl, by decide +kernel, rfl, by decide +kernel, by decide +kernel⟩
abbrev s_is_marks : Stmt := topS 11
theorem sc_is_marks : FnScope ["value"] ["value"] (defScope s_is_marks) := ⟨rfl, rfl, rfl, by decide +kernel, rfl, by decide +kernel, by decide +kernel⟩
abbrev s_is_wanted : Stmt := topS 12
theorem sc_is_wanted : FnScope ["value"] ["value"] (defScope s_is_wanted) := ⟨rfl, rfl, rfl, by decide +kernel, rfl, by decide +kernel, by decide +kernel⟩
abbrev s_is_claim : Stmt := topS 13
theorem sc_is_claim : FnScope ["value", "wanted", "worth"] ["value"] (defScope s_is_claim) := ⟨rfl, rfl, rfl, by decide +kernel, rfl, by decide +kernel, by decide +kernel⟩
abbrev s_check_marks : Stmt := topS 14
theorem sc_check_marks : FnScope ["marks"] ["marks"] (defScope s_check_marks) := ⟨rfl, rfl, rfl, by decide +kernel, rfl, by decide +kernel, by decide +kernel⟩
abbrev s_check_claims : Stmt := topS 15
theorem sc_check_claims : FnScope ["claims", "at", "claim"] ["claims"] (defScope s_check_claims) := ⟨rfl, rfl, rfl, by decide +kernel, rfl, by decide +kernel, by decide +kernel⟩
abbrev s_fits : Stmt := topS 17
theorem sc_fits : FnScope ["claim", "marks", "wanted", "_", "want", "mark"] ["claim", "marks"] (defScope s_fits) := ⟨rfl, rfl, rfl, by decide +kernel, rfl, by decide +kernel, by decide +kernel⟩
abbrev s_size : Stmt := topS 18
theorem sc_size : FnScope ["claim", "wanted", "worth"] ["claim"] (defScope s_size) := ⟨rfl, rfl, rfl, by decide +kernel, rfl, by decide +kernel, by decide +kernel⟩
abbrev s_best_fit : Stmt := topS 19
theorem sc_best_fit : FnScope ["claims", "marks", "claim"] ["claims", "marks"] (defScope s_best_fit) := ⟨rfl, rfl, rfl, by decide +kernel, rfl, by decide +kernel, by decide +kernel⟩
abbrev s_fit : Stmt := topS 21
theorem sc_fit : FnScope ["claims", "marks"] ["claims", "marks"] (defScope s_fit) := ⟨rfl, rfl, rfl, by decide +kernel, rfl, by decide +kernel, by decide +kernel⟩
abbrev s__law_mix : Stmt := topS 23
theorem sc__law_mix : FnScope ["_law_script", "_law_seed", "_law_mixed", "_law_cell"] ["_law_script", "_law_seed"] (defScope s__law_mix) := ⟨rfl, rfl, rfl, by decide +kernel, rfl, by decide +kernel, by decide +kernel⟩
abbrev s__law_next : Stmt := topS 24
theorem sc__law_next : FnScope ["_law_h", "_law_many", "_law_at", "_law_cell"] ["_law_h", "_law_many"] (defScope s__law_next) := ⟨rfl, rfl, rfl, by decide +kernel, rfl, by decide +kernel, by decide +kernel⟩
abbrev s__law_alike : Stmt := topS 25
theorem sc__law_alike : FnScope ["_law_found", "_law_due", "_law_k"] ["_law_found", "_law_due"] (defScope s__law_alike) := ⟨rfl, rfl, rfl, by decide +kernel, rfl, by decide +kernel, by decide +kernel⟩
abbrev s__law_marks : Stmt := topS 26
theorem sc__law_marks : FnScope ["_law_h", "_law_k"] ["_law_h"] (defScope s__law_marks) := ⟨rfl, rfl, rfl, by decide +kernel, rfl, by decide +kernel, by decide +kernel⟩
abbrev s__law_claims : Stmt := topS 28
theorem sc__law_claims : FnScope ["_law_h", "_law_found", "_law_k", "_law_marks_here", "_law_wanted", "_law_mark"] ["_law_h"] (defScope s__law_claims) := ⟨rfl, rfl, rfl, by decide +kernel, rfl, by decide +kernel, by decide +kernel⟩
abbrev s__law_fit : Stmt := topS 29
theorem sc__law_fit : FnScope ["_law_claims_here", "_law_marks_here", "_law_best", "_law_wanted", "_law_worth", "_law_many", "_law_k"] ["_law_claims_here", "_law_marks_here"] (defScope s__law_fit) := ⟨rfl, rfl, rfl, by decide +kernel, rfl, by decide +kernel, by decide +kernel⟩
abbrev s_law : Stmt := topS 30
theorem sc_law : FnScope ["_law_script", "_law_h", "_law_turn", "_law_claims_here", "_law_marks_here"] ["_law_script"] (defScope s_law) := ⟨rfl, rfl, rfl, by decide +kernel, rfl, by decide +kernel, by decide +kernel⟩
structure Txt (K : PySem.W.Frag) (mg : Str → Option Value) where
  is_number : DefT K mg "is_number" s_is_number ["value", "low", "high"]
  is_three : DefT K mg "is_three" s_is_three ["value", "low"]
  is_marks : DefT K mg "is_marks" s_is_marks ["value"]
  is_wanted : DefT K mg "is_wanted" s_is_wanted ["value"]
  is_claim : DefT K mg "is_claim" s_is_claim ["value"]
  check_marks : DefT K mg "check_marks" s_check_marks ["marks"]
  check_claims : DefT K mg "check_claims" s_check_claims ["claims"]
  fits : DefT K mg "fits" s_fits ["claim", "marks"]
  size : DefT K mg "size" s_size ["claim"]
  best_fit : DefT K mg "best_fit" s_best_fit ["claims", "marks"]
  fit : DefT K mg "fit" s_fit ["claims", "marks"]
  _law_mix : DefT K mg "_law_mix" s__law_mix ["_law_script", "_law_seed"]
  _law_next : DefT K mg "_law_next" s__law_next ["_law_h", "_law_many"]
  _law_alike : DefT K mg "_law_alike" s__law_alike ["_law_found", "_law_due"]
  _law_marks : DefT K mg "_law_marks" s__law_marks ["_law_h"]
  _law_claims : DefT K mg "_law_claims" s__law_claims ["_law_h"]
  _law_fit : DefT K mg "_law_fit" s__law_fit ["_law_claims_here", "_law_marks_here"]
  law : DefT K mg "law" s_law ["_law_script"]
  t_ANY : Tok
  c_ANY : mg "ANY" = some (.int (-1) t_ANY)
  t_MOST_CLAIMS : Tok
  c_MOST_CLAIMS : mg "MOST_CLAIMS" = some (.int (6) t_MOST_CLAIMS)
  t_MOST_MARK : Tok
  c_MOST_MARK : mg "MOST_MARK" = some (.int (9) t_MOST_MARK)
  t_MOST_WORTH : Tok
  c_MOST_WORTH : mg "MOST_WORTH" = some (.int (9) t_MOST_WORTH)
  z_all : mg "all" = none
  z_bool : mg "bool" = none
  z_enumerate : mg "enumerate" = none
  z_int : mg "int" = none
  z_isinstance : mg "isinstance" = none
  z_len : mg "len" = none
  z_list : mg "list" = none
  z_max : mg "max" = none
  z_range : mg "range" = none
  z_str : mg "str" = none
  z_tuple : mg "tuple" = none
  z_zip : mg "zip" = none


end Dm
namespace Dm
open PySem PySem.Spec PyProof.Rows L2 Evl
section
variable {P : Program} {w : World} {K : PySem.W.Frag} {mg : Str → Option Value} {base : Heap}
/-! ### is_number, is_three .. -/
def spIsNumber : Sp := PV fun vs H v => ∃ x d lo hi, vs = [x, .int lo, .int hi] ∧ Tp H x d ∧ v = .bl (isNum lo hi d)
theorem ok_is_number (T : Txt K mg) : FnOk P w K mg base CX0 1 T.is_number.f T.is_number.fd ["value", "low", "high"] spIsNumber := by
  refine T.is_number.F.ok sc_is_number (fun vs H Q E h => ?_) (fun cdv A outer s H vs Q E hr h => ?_)
  · obtain ⟨v, ⟨x, d, lo, hi, rfl, _⟩, _⟩ := h ; rfl
  obtain ⟨v, ⟨x, d, lo, hi, rfl, hd, rfl⟩, q⟩ := h
  refine ⟨_, (pss_one (ps_ret (pe_and (pe_callB (isiK (K := K) rfl) (by rfl) T.z_isinstance (by decide +kernel) (pa_cons (pv 0) (pa_cons (pe_bltn (v := .ty "int") rfl T.z_int (by decide +kernel) rfl) pa_nil))) (pe_and (pe_not (pe_callB (isiK (K := K) rfl) (by rfl) T.z_isinstance (by decide +kernel) (pa_cons (pv 0) (pa_cons (pe_bltn (v := .ty "bool") rfl T.z_bool (by decide +kernel) rfl) pa_nil)))) (pe_one (pe_chain op_le op_le (pv 1) (pv 0) (pv 2))))))), ?_⟩
  refine s_ret ?_ q
  refine ev_is (v := .bl (dInt d && ((!dBool d) && isNum lo hi d))) (ev_andV (ev_isiD (ev_var rfl) hd kit_int) fun h1 => ev_andV (ev_notV (ev_isiD (ev_var rfl) hd kit_bool)) fun h2 => ?_) (by cases d <;> rfl)
  cases hd with
  | int i => exact ev_chainLe (ev_var rfl) (ev_var rfl) (ev_var rfl)
  | bl k => cases h2
  | _ => cases h1
def not3 : PyData → Bool
  | .tuple ds => decide ((ds.length : Int) = 3)
  | _ => true
def spIsThree : Sp := PV fun vs H v => ∃ x d lo, vs = [x, .int lo] ∧ Tp H x d ∧ v = .bl (isThree lo d)
theorem ok_is_three (T : Txt K mg) : FnOk P w K mg base CX0 2 T.is_three.f T.is_three.fd ["value", "low"] spIsThree := by
  refine T.is_three.F.ok sc_is_three (fun vs H Q E h => ?_) (fun cdv A outer s H vs Q E hr h => ?_)
  · obtain ⟨v, ⟨x, d, lo, rfl, _⟩, _⟩ := h ; rfl
  obtain ⟨v, ⟨x, d, lo, rfl, hd, rfl⟩, q⟩ := h
  refine ⟨_, (pss_cons (ps_if (PW.pt (pw_or (pt_not (pt_val (pe_callB (isiK (K := K) rfl) (by rfl) T.z_isinstance (by decide +kernel) (pa_cons (pv 0) (pa_cons (pe_bltn (v := .ty "tuple") rfl T.z_tuple (by decide +kernel) rfl) pa_nil))))) (pw_or1 (pt_cmpR op_ne (pe_callB (lenK (K := K) rfl) (by rfl) T.z_len PySem.boot_len (pa_cons (pv 0) pa_nil)) pe_int (nomark _))))) (pss_one (ps_ret pe_bl)) pss_nil)
  (pss_one (ps_ret (pe_callB (allK (K := K) rfl rfl) (by rfl) T.z_all (by decide +kernel) (pa_cons (pe_lc (own := [("mark", 2)]) rfl sc_is_three.nd (pi_tupK (K := K) rfl (pv 0)) (blkOk_by (own := [("mark", 2)]) (N := ["value", "low", "mark"]) (sc := defScope s_is_three) (by decide +kernel)) (fun _ _ _ _ _ => by exact (pg_name (i := 2) sc_is_three.nd rfl (by first | exact Or.inl rfl | exact Or.inr rfl))) (fun _ _ _ _ _ => pts_nil) (fun _ _ _ _ _ => (pe_call (ok_is_number T) (hr.mono (by decide)) rfl T.is_number.m T.is_number.F.kp T.is_number.b .nil pass0 (pa_cons (pv 2) (pa_cons (pv 1) (pa_cons (pe_glob (v := .int (9)) rfl T.c_MOST_MARK ⟨_, rfl⟩) pa_nil)))))) pa_nil))))), ?_⟩
  have tup : ∀ {ds : List PyData}, d = .tuple ds → ∃ a xs, x = .ref a ∧ TupAt H a xs ∧ Tps H xs ds := fun {ds} e => by rw [e] at hd ; exact hd.tup_inv
  refine q_when (b := !dTup d || !not3 d) (et_or (et_not (et_B (ev_isiD (ev_var rfl) hd kit_tup))) ?_) (fun hb H1 e1 => ?_) (fun hb H1 e1 => ?_)
  · intro hz
    cases hd with
    | tup h t =>
      refine et_test (ev_op (ev_lenT (ev_var rfl) h) ev_c ?_)
      rw [t.length]
      exact rv_neI
    | _ => cases hz
  · refine s_ret ev_c fun H2 e2 => ?_
    have ev : isThree lo d = false := by
      cases d with
      | tuple ds =>
        have h3 : (!decide ((ds.length : Int) = 3)) = true := by
            have z : (!true || !decide ((ds.length : Int) = 3)) = true := hb
            exact z
        show ((ds.length == 3) && _) = false
        have : (ds.length == 3) = false := by
          rw [beq_eq_false_iff_ne]
          intro z ; rw [z] at h3 ; exact absurd h3 (by decide)
        rw [this] ; rfl
      | _ => rfl
    rw [← ev]
    exact q H2 (e1.trans e2)
  · cases d with
    | tuple ds =>
      obtain ⟨a, xs, rfl, ht, hs⟩ := tup rfl
      have h3 : ds.length = 3 := by
        have z : (!true || !decide ((ds.length : Int) = 3)) = false := hb
        have z' : decide ((ds.length : Int) = 3) = true := by simpa using z
        have := of_decide_eq_true z' ; omega
      have hx : xs.length = 3 := by rw [hs.length, h3]
      refine s_ret ?_ fun H2 e2 => q H2 (e1.trans e2)
      have key : given xs.length (fun _ => true) (fun i => .bl (isNum lo 9 (ds.getD i .none))) = (ds.map (isNum lo 9)).map V.bl := by
        rw [hs.length, List.map_map]
        refine given_all ds _ _ fun i b hb => ?_
        rw [List.getD_eq_getElem?_getD, hb] ; rfl
      refine ev_is (ev_all (bs := ds.map (isNum lo 9)) ?_) ?_
      · rw [← key]
        refine el_lcT (a := a) (xs := xs) _ _ (ev_var rfl) (ht.mono (Same.ts e1)) (by omega) (fun x => rfl) (fun i x H2 e2 hi => et_yes) (fun i x H2 e2 hi _ => ?_)
        obtain ⟨d, hd1, hd2⟩ := hs.get hi
        refine ev_pv (ea_cons (ev_var rfl) (ea_cons (ev_var rfl) (ea_cons ev_c ea_nil))) fun H3 e3 => ⟨x, d, lo, 9, rfl, hd2.mono (Same.ts (e1.trans (e2.trans e3))), ?_⟩
        rw [List.getD_eq_getElem?_getD, hd1] ; rfl
      · show V.bl ((ds.map (isNum lo 9)).all id) = V.bl ((ds.length == 3) && ds.all (isNum lo 9))
        rw [h3, List.all_map] ; rfl
    | _ => exact absurd hb Bool.noConfusion
def spIsMarks : Sp := PV fun vs H v => ∃ x d, vs = [x] ∧ Tp H x d ∧ v = .bl (isThree 0 d)
theorem ok_is_marks (T : Txt K mg) : FnOk P w K mg base CX0 3 T.is_marks.f T.is_marks.fd ["value"] spIsMarks := by
  refine T.is_marks.F.ok sc_is_marks (fun vs H Q E h => ?_) (fun cdv A outer s H vs Q E hr h => ?_)
  · obtain ⟨v, ⟨x, d, rfl, _⟩, _⟩ := h ; rfl
  obtain ⟨v, ⟨x, d, rfl, hd, rfl⟩, q⟩ := h
  refine ⟨_, (pss_one (ps_ret (pe_call (ok_is_three T) (hr.mono (by decide)) rfl T.is_three.m T.is_three.F.kp T.is_three.b .nil pass0 (pa_cons (pv 0) (pa_cons pe_int pa_nil))))), ?_⟩
  exact s_ret (ev_pv (ea_cons (ev_var rfl) (ea_cons ev_c ea_nil)) fun H3 e3 => ⟨x, d, 0, rfl, hd.mono (Same.ts e3), rfl⟩) q
def spIsWanted : Sp := PV fun vs H v => ∃ x d, vs = [x] ∧ Tp H x d ∧ v = .bl (isThree (-1) d)
theorem ok_is_wanted (T : Txt K mg) : FnOk P w K mg base CX0 3 T.is_wanted.f T.is_wanted.fd ["value"] spIsWanted := by
  refine T.is_wanted.F.ok sc_is_wanted (fun vs H Q E h => ?_) (fun cdv A outer s H vs Q E hr h => ?_)
  · obtain ⟨v, ⟨x, d, rfl, _⟩, _⟩ := h ; rfl
  obtain ⟨v, ⟨x, d, rfl, hd, rfl⟩, q⟩ := h
  refine ⟨_, (pss_one (ps_ret (pe_call (ok_is_three T) (hr.mono (by decide)) rfl T.is_three.m T.is_three.F.kp T.is_three.b .nil pass0 (pa_cons (pv 0) (pa_cons (pe_glob (v := .int (-1)) rfl T.c_ANY ⟨_, rfl⟩) pa_nil))))), ?_⟩
  exact s_ret (ev_pv (ea_cons (ev_var rfl) (ea_cons ev_c ea_nil)) fun H3 e3 => ⟨x, d, -1, rfl, hd.mono (Same.ts e3), rfl⟩) q


end
end Dm
namespace Dm
open PySem PySem.Spec PyProof.Rows L2 Evl
section
variable {P : Program} {w : World} {K : PySem.W.Frag} {mg : Str → Option Value} {base : Heap}
def not2 : PyData → Bool
  | .tuple ds => decide ((ds.length : Int) = 2)
  | _ => true
def spIsClaim : Sp := PV fun vs H v => ∃ x d, vs = [x] ∧ Tp H x d ∧ v = .bl (isClaimD d)
theorem ok_is_claim (T : Txt K mg) : FnOk P w K mg base CX0 4 T.is_claim.f T.is_claim.fd ["value"] spIsClaim := by
  refine T.is_claim.F.ok sc_is_claim (fun vs H Q E h => ?_) (fun cdv A outer s H vs Q E hr h => ?_)
  · obtain ⟨v, ⟨x, d, rfl, _⟩, _⟩ := h ; rfl
  obtain ⟨v, ⟨x, d, rfl, hd, rfl⟩, q⟩ := h
  refine ⟨_, (pss_cons (ps_if (PW.pt (pw_or (pt_not (pt_val (pe_callB (isiK (K := K) rfl) (by rfl) T.z_isinstance (by decide +kernel) (pa_cons (pv 0) (pa_cons (pe_bltn (v := .ty "tuple") rfl T.z_tuple (by decide +kernel) rfl) pa_nil))))) (pw_or1 (pt_cmpR op_ne (pe_callB (lenK (K := K) rfl) (by rfl) T.z_len PySem.boot_len (pa_cons (pv 0) pa_nil)) pe_int (nomark _))))) (pss_one (ps_ret pe_bl)) pss_nil)
  (pss_cons (ps_asg (pv 0) (pg_tupK (K := K) (n := 2) rfl rfl (pgs_cons (pg_name (i := 1) sc_is_claim.nd rfl (by first | exact Or.inl rfl | exact Or.inr rfl)) (pgs_cons (pg_name (i := 2) sc_is_claim.nd rfl (by first | exact Or.inl rfl | exact Or.inr rfl)) pgs_nil))))
  (pss_one (ps_ret (pe_and (pe_call (ok_is_wanted T) (hr.mono (by decide)) rfl T.is_wanted.m T.is_wanted.F.kp T.is_wanted.b .nil pass0 (pa_cons (pv 1) pa_nil)) (pe_one (pe_call (ok_is_number T) (hr.mono (by decide)) rfl T.is_number.m T.is_number.F.kp T.is_number.b .nil pass0 (pa_cons (pv 2) (pa_cons pe_int (pa_cons (pe_glob (v := .int (9)) rfl T.c_MOST_WORTH ⟨_, rfl⟩) pa_nil)))))))))), ?_⟩
  refine q_when (b := !dTup d || !not2 d) (et_or (et_not (et_B (ev_isiD (ev_var rfl) hd kit_tup))) ?_) (fun hb H1 e1 => ?_) (fun hb H1 e1 => ?_)
  · intro hz
    cases hd with
    | tup h t =>
      refine et_test (ev_op (ev_lenT (ev_var rfl) h) ev_c ?_)
      rw [t.length]
      exact rv_neI
    | _ => cases hz
  · refine s_ret ev_c fun H2 e2 => ?_
    have ev : isClaimD d = false := by
      cases d with
      | tuple ds =>
        have h3 : (!decide ((ds.length : Int) = 2)) = true := by
            have z : (!true || !decide ((ds.length : Int) = 2)) = true := hb
            exact z
        match ds, h3 with
        | [], _ => rfl
        | [_], _ => rfl
        | [_, _], h3 => exact absurd h3 (by simp)
        | _ :: _ :: _ :: _, _ => rfl
      | _ => rfl
    rw [← ev]
    exact q H2 (e1.trans e2)
  · cases d with
    | tuple ds =>
      have z : (!true || !decide ((ds.length : Int) = 2)) = false := hb
      have h2 : ds.length = 2 := by
        have z' : decide ((ds.length : Int) = 2) = true := by simpa using z
        have := of_decide_eq_true z' ; omega
      obtain ⟨dw, dn, rfl⟩ : ∃ dw dn, ds = [dw, dn] := by
        match ds, h2 with
        | [p, q], _ => exact ⟨p, q, rfl⟩
      obtain ⟨a, xs, rfl, ht, hs⟩ := hd.tup_inv
      obtain ⟨p, n, rfl, hp, hn⟩ := hs.two
      refine q_un2 (ev_var rfl) (ht.mono (Same.ts e1)) fun H2 e2 => ?_
      have E2 := e1.trans e2
      refine s_ret (ev_andV (ev_pv (ea_cons (ev_var rfl) ea_nil) fun H3 e3 => ⟨p, dw, rfl, hp.mono (Same.ts (E2.trans e3)), rfl⟩) fun _ => ev_pv (ea_cons (ev_var rfl) (ea_cons ev_c (ea_cons ev_c ea_nil))) fun H3 e3 => ⟨n, dn, 0, 9, rfl, hn.mono (Same.ts (E2.trans e3)), rfl⟩) fun H3 e3 => q H3 (E2.trans e3)
    | _ => exact absurd hb Bool.noConfusion
/-! ### check_claims where nothing is refused -/
def spCheckClaims : Sp := PV fun vs H v => ∃ x ds, vs = [x] ∧ Tp H x (.tuple ds) ∧ ds.length ≤ 6 ∧ (∀ d ∈ ds, isClaimD d = true) ∧ v = .non
theorem ok_check_claims (T : Txt K mg) : FnOk P w K mg base CX0 5 T.check_claims.f T.check_claims.fd ["claims"] spCheckClaims := by
  refine T.check_claims.F.ok sc_check_claims (fun vs H Q E h => ?_) (fun cdv A outer s H vs Q E hr h => ?_)
  · obtain ⟨v, ⟨x, d, rfl, _⟩, _⟩ := h ; rfl
  obtain ⟨v, ⟨x, ds, rfl, hd, h6, hok, rfl⟩, q⟩ := h
  obtain ⟨a, xs, rfl, ht, hs⟩ := hd.tup_inv
  refine ⟨_, (pss_one (ps_for PassesOwn.never rfl (pi_enumT rfl T.z_enumerate (pa_cons (pv 0) pa_nil)) (pg_tupK (K := K) (n := 2) rfl rfl (pgs_cons (pg_name (i := 1) sc_check_claims.nd rfl (by first | exact Or.inl rfl | exact Or.inr rfl)) (pgs_cons (pg_name (i := 2) sc_check_claims.nd rfl (by first | exact Or.inl rfl | exact Or.inr rfl)) pgs_nil)))
  (pss_one (ps_if (PW.pt (pw_or (pt_cmpR op_ge (pv 1) (pe_glob (v := .int (6)) rfl T.c_MOST_CLAIMS ⟨_, rfl⟩) (nomark _)) (pw_or1 (pt_not (pt_val (pe_call (ok_is_claim T) (hr.mono (by decide)) rfl T.is_claim.m T.is_claim.F.kp T.is_claim.b .nil pass0 (pa_cons (pv 2) pa_nil))))))) (pss_one ps_never) pss_nil)))), ?_⟩
  refine ⟨.ref a, rfl, a, xs, rfl, ht.sq, for_enumT (K := K) (xs := xs) (fun i σ H' => (∃ y z, σ = [some (.ref a), y, z]) ∧ Same H H') ⟨⟨none, none, rfl⟩, Same.refl H⟩ (fun i σ H' _ p => (ht.mono (Same.ts p.2)).sq) (fun i x T' σ H' hx p hT => ?_) (fun σ H' p => q H' p.2)⟩
  obtain ⟨⟨y, z, rfl⟩, e⟩ := p
  obtain ⟨d, hd1, hd2⟩ := hs.get hx
  have e' : Same H (upd H' T' (.tup [.int (i : Nat), x])) := e.trans (Same.new hT)
  refine g_un2 (SqT.of upd_same) ?_
  have hi : (i : Int) < 6 := by
    have := (List.getElem?_eq_some_iff.mp hd1).1
    omega
  refine s_when (b := decide ((6 : Int) ≤ i) || !isClaimD d) (et_or (et_test (ev_op (ev_var rfl) ev_c rv_I0)) fun _ => et_not (et_B (ev_pv (ea_cons (ev_var rfl) ea_nil) fun H3 e3 => ⟨x, d, rfl, hd2.mono (Same.ts (e'.trans e3)), rfl⟩))) (fun hb => ?_) (fun _ H1 e1 => ⟨⟨_, _, rfl⟩, e'.trans e1⟩)
  rw [decide_eq_false (by omega), hok d (List.mem_of_getElem? hd1)] at hb
  cases hb
/-! ### fits, size, best_fit, fit -/
def spFits : Sp := PV fun vs H v => ∃ x y c m, vs = [x, y] ∧ Tp H x (clD c) ∧ Tp H y (mkD m) ∧ c.1.length = m.length ∧ m.length ≤ 40000 ∧ v = .bl (fitsM c.1 m)
theorem ok_fits (T : Txt K mg) : FnOk P w K mg base CX0 1 T.fits.f T.fits.fd ["claim", "marks"] spFits := by
  refine T.fits.F.ok sc_fits (fun vs H Q E h => ?_) (fun cdv A outer s H vs Q E hr h => ?_)
  · obtain ⟨v, ⟨x, y, c, m, rfl, _⟩, _⟩ := h ; rfl
  obtain ⟨v, ⟨x, y, c, m, rfl, hc, hm, hl, hz, rfl⟩, q⟩ := h
  refine ⟨_, (pss_cons (ps_asg (pv 0) (pg_tupK (K := K) (n := 2) rfl rfl (pgs_cons (pg_name (i := 2) sc_fits.nd rfl (by first | exact Or.inl rfl | exact Or.inr rfl)) (pgs_cons (pg_name (i := 3) sc_fits.nd rfl (by first | exact Or.inl rfl | exact Or.inr rfl)) pgs_nil))))
  (pss_one (ps_ret (pe_callB (allK (K := K) rfl rfl) (by rfl) T.z_all (by decide +kernel) (pa_cons (pe_lc (own := [("want", 4), ("mark", 5)]) rfl sc_fits.nd (RZ.pi_zipA rfl T.z_zip (pa_cons (pv 2) (pa_cons (pv 1) pa_nil))) (blkOk_by (own := [("want", 4), ("mark", 5)]) (N := ["claim", "marks", "wanted", "_", "want", "mark"]) (sc := defScope s_fits) (by decide +kernel)) (fun _ _ _ _ _ => by exact (pg_tupK (K := K) (n := 2) rfl rfl (pgs_cons (pg_name (i := 4) sc_fits.nd rfl (by first | exact Or.inl rfl | exact Or.inr rfl)) (pgs_cons (pg_name (i := 5) sc_fits.nd rfl (by first | exact Or.inl rfl | exact Or.inr rfl)) pgs_nil)))) (fun _ _ _ _ _ => pts_nil) (fun _ _ _ _ _ => (pe_or (pe_cmpR op_eq (pv 4) (pe_glob (v := .int (-1)) rfl T.c_ANY ⟨_, rfl⟩) (nomark _)) (pe_one (pe_cmpR op_eq (pv 4) (pv 5) (nomark _)))))) pa_nil))))), ?_⟩
  obtain ⟨a, xs, rfl, ha, hs⟩ := hc.tup_inv
  obtain ⟨p, n, rfl, hp, hn⟩ := hs.two
  obtain ⟨b, ws, rfl, hb, hw⟩ := hp.tup_inv
  obtain ⟨e, ms, rfl, he, hms⟩ := hm.tup_inv
  have e1 := hw.ints ; have e2 := hms.ints
  subst e1 e2
  refine q_un2 (ev_var rfl) ha fun H1 e1 => ?_
  refine s_ret ?_ fun H2 e2 => q H2 (e1.trans e2)
  refine ev_is (ev_all (bs := (c.1.zip m).map fun p => decide (p.1 = -1) || decide (p.1 = p.2)) ?_) ?_
  · have hzl : (c.1.zip m).length = c.1.length := by rw [List.length_zip, hl, Nat.min_self]
    have key : given (c.1.map V.int).length (fun _ => true) (fun i => .bl (decide (c.1.getD i 0 = -1) || decide (c.1.getD i 0 = m.getD i 0))) = ((c.1.zip m).map fun p => decide (p.1 = -1) || decide (p.1 = p.2)).map V.bl := by
      rw [List.length_map, List.map_map, ← hzl]
      refine given_all (c.1.zip m) _ _ fun i u hu => ?_
      obtain ⟨h1, h2⟩ := List.getElem?_zip_eq_some.mp hu
      rw [List.getD_eq_getElem?_getD, List.getD_eq_getElem?_getD, h1, h2] ; rfl
    rw [← key]
    refine el_lcZ (xs := c.1.map V.int) (ys := m.map V.int) _ _ (ev_var rfl) (ev_var rfl) (hb.mono (Same.ts e1)) (he.mono (Same.ts e1)) (by rw [List.length_map, List.length_map]; exact hl) (by rw [List.length_map]; omega) (fun x y => rfl) (fun n x y H2 _ _ _ => et_yes) (fun n x y H2 _ hx hy _ => ?_)
    rw [List.getElem?_map, Option.map_eq_some_iff] at hx hy
    obtain ⟨i, hi, rfl⟩ := hx
    obtain ⟨j, hj, rfl⟩ := hy
    rw [List.getD_eq_getElem?_getD, List.getD_eq_getElem?_getD, hi, hj]
    exact ev_orV (ev_op (ev_var rfl) ev_c rv_eqI) fun _ => ev_op (ev_var rfl) (ev_var rfl) rv_eqI
  · show V.bl (((c.1.zip m).map fun p => decide (p.1 = -1) || decide (p.1 = p.2)).all id) = V.bl (fitsM c.1 m)
    rw [List.all_map] ; rfl
def spSize : Sp := PV fun vs H v => ∃ x c, vs = [x] ∧ Tp H x (clD c) ∧ v = .int (sizeM c)
theorem ok_size (T : Txt K mg) : FnOk P w K mg base CX0 1 T.size.f T.size.fd ["claim"] spSize := by
  refine T.size.F.ok sc_size (fun vs H Q E h => ?_) (fun cdv A outer s H vs Q E hr h => ?_)
  · obtain ⟨v, ⟨x, c, rfl, _⟩, _⟩ := h ; rfl
  obtain ⟨v, ⟨x, c, rfl, hc, rfl⟩, q⟩ := h
  refine ⟨_, (pss_cons (ps_asg (pv 0) (pg_tupK (K := K) (n := 2) rfl rfl (pgs_cons (pg_name (i := 1) sc_size.nd rfl (by first | exact Or.inl rfl | exact Or.inr rfl)) (pgs_cons (pg_name (i := 2) sc_size.nd rfl (by first | exact Or.inl rfl | exact Or.inr rfl)) pgs_nil))))
  (pss_one (ps_ret (pe_op op_sub (pe_op op_add (pe_op op_mul pe_int (pv 2)) (pe_callB (lenK (K := K) rfl) (by rfl) T.z_len PySem.boot_len (pa_cons (pv 1) pa_nil))) (pe_tm PySem.F.plainAttrs_tuple PySem.F.slot_tuple_count PySem.F.type_tuple_count mt_tcount (pv 1) (pa_cons (pe_glob (v := .int (-1)) rfl T.c_ANY ⟨_, rfl⟩) pa_nil)))))), ?_⟩
  obtain ⟨a, xs, rfl, ha, hs⟩ := hc.tup_inv
  obtain ⟨p, n, rfl, hp, hn⟩ := hs.two
  obtain ⟨b, ws, rfl, hb, hw⟩ := hp.tup_inv
  have e1 := hw.ints
  subst e1
  rw [hn.int_inv] at ha
  refine q_un2 (ev_var rfl) ha fun H1 e1 => ?_
  refine s_ret ?_ fun H2 e2 => q H2 (e1.trans e2)
  refine ev_is (ev_op (ev_op (ev_op ev_c (ev_var rfl) (rv_I (.inl ⟨by decide, by decide⟩))) (ev_lenT (ev_var rfl) (hb.mono (Same.ts e1))) rv_I0) (ev_tcount (ev_var rfl) (hb.mono (Same.ts e1)) ev_c) rv_I0) ?_
  rw [List.length_map] ; rfl
def spBest : Sp := PV fun vs H v => ∃ x y cs m, vs = [x, y] ∧ Tp H x (clsD cs) ∧ Tp H y (mkD m) ∧ (∀ c ∈ cs, c.1.length = m.length) ∧ m.length ≤ 40000 ∧ cs.length ≤ 40000 ∧ v = maxV (bestL cs m)
theorem ok_best_fit (T : Txt K mg) : FnOk P w K mg base CX0 2 T.best_fit.f T.best_fit.fd ["claims", "marks"] spBest := by
  refine T.best_fit.F.ok sc_best_fit (fun vs H Q E h => ?_) (fun cdv A outer s H vs Q E hr h => ?_)
  · obtain ⟨v, ⟨x, y, c, m, rfl, _⟩, _⟩ := h ; rfl
  obtain ⟨v, ⟨x, y, cs, m, rfl, hc, hm, hl, hz, hz2, rfl⟩, q⟩ := h
  refine ⟨_, (pss_one (ps_ret (pe_maxDef rfl (by rfl) T.z_max (pe_lc (own := [("claim", 2)]) rfl sc_best_fit.nd (pi_tupK (K := K) rfl (pv 0)) (blkOk_by (own := [("claim", 2)]) (N := ["claims", "marks", "claim"]) (sc := defScope s_best_fit) (by decide +kernel)) (fun _ _ _ _ _ => by exact (pg_name (i := 2) sc_best_fit.nd rfl (by first | exact Or.inl rfl | exact Or.inr rfl))) (fun _ _ _ _ _ => (pts_one (pt_val (pe_call (ok_fits T) (hr.mono (by decide)) rfl T.fits.m T.fits.F.kp T.fits.b .nil pass0 (pa_cons (pv 2) (pa_cons (pv 1) pa_nil)))))) (fun _ _ _ _ _ => (pe_call (ok_size T) (hr.mono (by decide)) rfl T.size.m T.size.F.kp T.size.b .nil pass0 (pa_cons (pv 2) pa_nil)))) pe_non))), ?_⟩
  obtain ⟨a, xs, rfl, ha, hs⟩ := hc.tup_inv
  have hxl : xs.length = cs.length := by rw [hs.length, List.length_map]
  refine s_ret (ev_maxD (ns := bestL cs m) ?_) q
  have key : given xs.length (fun i => fitsM (cs.getD i ([], 0)).1 m) (fun i => .int (sizeM (cs.getD i ([], 0)))) = (bestL cs m).map V.int := by
    unfold bestL
    rw [hxl, List.map_map]
    refine given_map cs (fun c => fitsM c.1 m) _ _ _ (fun i c hc => ?_) fun i c hc => ?_
    · rw [List.getD_eq_getElem?_getD, hc] ; rfl
    · rw [List.getD_eq_getElem?_getD, hc] ; rfl
  rw [← key]
  have item : ∀ i x, xs[i]? = some x → ∃ c, cs[i]? = some c ∧ Tp H x (clD c) := fun i x hx => by
    obtain ⟨d, h1, h2⟩ := hs.get hx
    rw [List.getElem?_map, Option.map_eq_some_iff] at h1
    obtain ⟨c, h1, rfl⟩ := h1
    exact ⟨c, h1, h2⟩
  refine el_lcT (a := a) (xs := xs) _ _ (ev_var rfl) ha (by omega) (fun x => rfl) (fun i x H2 e2 hi => ?_) (fun i x H2 e2 hi _ => ?_)
  · obtain ⟨c, h1, h2⟩ := item i x hi
    refine et_B (ev_pv (ea_cons (ev_var rfl) (ea_cons (ev_var rfl) ea_nil)) fun H3 e3 => ⟨x, y, c, m, rfl, h2.mono (Same.ts (e2.trans e3)), hm.mono (Same.ts (e2.trans e3)), hl c (List.mem_of_getElem? h1), hz, ?_⟩)
    rw [List.getD_eq_getElem?_getD, h1] ; rfl
  · obtain ⟨c, h1, h2⟩ := item i x hi
    refine ev_pv (ea_cons (ev_var rfl) ea_nil) fun H3 e3 => ⟨x, c, rfl, h2.mono (Same.ts (e2.trans e3)), ?_⟩
    rw [List.getD_eq_getElem?_getD, h1] ; rfl


end
end Dm
namespace Dm
open PySem PySem.Spec PyProof.Rows L2 Evl
section
variable {P : Program} {w : World} {K : PySem.W.Frag} {mg : Str → Option Value} {base : Heap}
/-! ### the draws -/
theorem ok__law_next (T : Txt K mg) : FnOk P w K mg base CX0 1 T._law_next.f T._law_next.fd ["_law_h", "_law_many"] spNext := by
  refine T._law_next.F.ok sc__law_next (fun vs H Q E h => ?_) (fun cdv A outer s H vs Q E hr h => ?_)
  · obtain ⟨a, c, k, rfl, _⟩ := h ; rfl
  obtain ⟨h, c, k, rfl, dr, hk, hk2, q⟩ := h
  have hne := dr.ne
  have noT := fun p hp => dr.noT (p := p) hp
  obtain ⟨m, a0, cs, e1, e2, hm0, hm1, ha0, hlen⟩ := dr
  refine ⟨_, (pss_cons (ps_set (i := 2) sc__law_next.nd rfl (by first | exact Or.inl rfl | exact Or.inr rfl) (pe_op op_mod (pe_ix (ixK (K := K) rfl) (pv 0) pe_int (fun _ _ => rfl)) (pe_callB (call_max2 rfl) (by rfl) T.z_max (by decide +kernel) (pa_cons pe_int (pa_cons (pe_callB (lenK (K := K) rfl) (by rfl) T.z_len PySem.boot_len (pa_cons (pe_ix (ixK (K := K) rfl) (pv 0) pe_int (fun _ _ => rfl)) pa_nil)) pa_nil)))))
  (pss_cons (ps_set (i := 3) sc__law_next.nd rfl (by first | exact Or.inl rfl | exact Or.inr rfl) (pe_ifExp (pt_cmpR (neDK (K := K) rfl hr.units) (pe_ix (ixK (K := K) rfl) (pv 0) pe_int (fun _ _ => rfl)) (pe_lst pa_nil) (nomark _)) (pe_ix (ixK (K := K) rfl) (pe_ix (ixK (K := K) rfl) (pv 0) pe_int (fun _ _ => rfl)) (pv 2) (fun _ _ => rfl)) pe_int))
  (pss_cons (ps_if (pt_cmpR op_ge (pv 3) (pe_op op_pow pe_int pe_int) (nomark _)) (pss_cons (ps_asg (pe_op op_fdivN (pv 3) (pv 1)) (pg_sub (pe_ix (ixK (K := K) rfl) (pv 0) pe_int (fun _ _ => rfl)) (pv 2) set_list))
  (pss_one (ps_ret (pe_op op_mod (pv 3) (pv 1))))) pss_nil)
  (pss_cons (ps_asg (pe_op op_mod (pe_op op_add (pe_op op_add (pe_op op_mul (pe_ix (ixK (K := K) rfl) (pv 0) pe_int (fun _ _ => rfl)) pe_int) (pe_op op_mul (pv 3) pe_int)) pe_int) pe_int) (pg_sub (pv 0) pe_int set_list))
  (pss_cons (ps_asg (pe_op op_add (pe_ix (ixK (K := K) rfl) (pv 0) pe_int (fun _ _ => rfl)) pe_int) (pg_sub (pv 0) pe_int set_list))
  (pss_one (ps_ret (pe_op op_mod (pe_op op_fdivN (pe_ix (ixK (K := K) rfl) (pv 0) pe_int (fun _ _ => rfl)) pe_int) (pv 1))))))))), ?_⟩
  have hL : (cs.map V.int).length = cs.length := List.length_map _
  -- the place
  generalize hM : (if (((cs.map V.int).length : Nat) : Int) > 1 then (((cs.map V.int).length : Nat) : Int) else 1) = M
  have hMp : 0 < M := by rw [← hM] ; split <;> omega
  refine q_asg (v := .int (a0 % M)) ?_ fun H1 x1 => ?_
  · refine ev_op (ev_ixL (ev_var rfl) ev_c (SqL.of e1) rfl) ?_ (rv_I hMp)
    rw [← hM]
    exact ev_cb (ea_cons ev_c (ea_cons (ev_len (ev_ixL (ev_var rfl) ev_c (SqL.of e1) rfl) (SqL.of e2)) ea_nil)) fun H1 _ Q q => ⟨1, _, rfl, q H1 (Ex.refl H1)⟩
  have hA0 : 0 ≤ a0 % M := Int.emod_nonneg _ (by omega)
  have hA1 : a0 % M < M := Int.emod_lt_of_pos _ hMp
  generalize a0 % M = A0 at hA0 hA1 ⊢
  -- the cell
  obtain ⟨n, rfl⟩ : ∃ n : Nat, A0 = (n : Int) := ⟨A0.toNat, by omega⟩
  have hn : cs ≠ [] → n < cs.length := fun hc => by
    have : 0 < cs.length := List.length_pos_iff.mpr hc
    rw [hL] at hM
    by_cases h1 : ((cs.length : Nat) : Int) > 1
    · rw [if_pos h1] at hM ; omega
    · rw [if_neg h1] at hM ; omega
  refine q_asg (v := .int (cs.getD n 0)) ?_ fun H2 x2 => ?_
  · refine ev_if (b := !decide (cs = [])) (et_test (ev_opL (ev_ixL (ev_var rfl) ev_c (SqL.of (x1 _ _ e1)) rfl) (el_lst ea_nil (by decide)) fun p H2 hp e => rv_neNil (e _ _ (x1 _ _ e2)) hp)) (fun hb => ?_) (fun hb => ?_)
    · have hc : cs ≠ [] := fun z => by rw [z] at hb ; exact absurd hb (by decide)
      have g : (cs.map V.int)[n]? = some (.int (cs.getD n 0)) := by
        rw [List.getElem?_map, List.getD_eq_getElem?_getD, List.getElem?_eq_getElem (hn hc)] ; rfl
      exact ev_ixL (ev_ixL (ev_var rfl) ev_c (SqL.of (x1 _ _ e1)) rfl) (ev_var rfl) (SqL.of (x1 _ _ e2)) (atI_nat g)
    · have hc : cs = [] := by simpa using hb
      subst hc
      exact ev_c
  have E2 : Same H H2 := x1.trans x2
  generalize hcell : cs.getD n 0 = cell
  -- a great cell is drawn from itself
  refine q_when (b := decide ((10 : Int) ^ (18 : Int).toNat ≤ cell)) (et_test (ev_op (ev_var rfl) (ev_op ev_c ev_c (rv_I ⟨by decide, by decide, by decide⟩)) rv_I0)) (fun hb H3 x3 => ?_) (fun hb H3 x3 => ?_)
  · have hbig : (10 : Int) ^ 18 ≤ cell := of_decide_eq_true hb
    have hc : cs ≠ [] := fun z => by rw [z] at hcell ; have : (0 : Int) = cell := hcell ; omega
    have E3 := E2.trans x3
    refine q_setL (l := c) (xs := cs.map V.int) (j := n) (v := .int (cell.fdiv k)) (E3 _ _ e2) (ev_op (ev_var rfl) (ev_var rfl) (rv_I ⟨by omega, by omega⟩)) (ev_ixL (ev_var rfl) ev_c (SqL.of (E3 _ _ e1)) rfl) (ev_var rfl) (by rw [hL]; exact hn hc) fun H4 x4 => ?_
    have E4 := E3.trans x4
    refine s_ret (v := .int (cell % k)) (ev_op (ev_var rfl) (ev_var rfl) (rv_I hk)) fun H5 x5 => ?_
    have d5 : Dr H5 h c := Dr.mono x5 ⟨m, a0, cs.set n (cell.fdiv k), by rw [upd_ne hne]; exact E4 _ _ e1, by rw [upd_same, List.map_set], hm0, hm1, ha0, by rw [List.length_set]; exact hlen⟩
    exact q H5 _ d5 (((Mv.of E4).upd' (by simp) (noT c (.inr rfl))).trans (Mv.of x5)) (Int.emod_nonneg _ (by omega)) (Int.emod_lt_of_pos _ hk)
  · have E3 := E2.trans x3
    -- mixed on
    refine q_setL (l := h) (j := 0) (v := .int ((m * 48271 + cell * 69621 + 11) % 2147483647)) (E3 _ _ e1) (ev_op (ev_op (ev_op (ev_op (ev_ixL (ev_var rfl) ev_c (SqL.of (E3 _ _ e1)) rfl) ev_c (rv_I (.inl ⟨by omega, by omega⟩))) (ev_op (ev_var rfl) ev_c (rv_I (.inr ⟨by decide, by decide⟩))) rv_I0) ev_c rv_I0) ev_c (rv_I (by decide))) (ev_var rfl) ev_c (by simp) fun H4 x4 => ?_
    have E4 := E3.trans x4
    generalize hm' : (m * 48271 + cell * 69621 + 11) % 2147483647 = m'
    have hm'0 : 0 ≤ m' := by omega
    have hm'1 : m' < 2147483647 := by omega
    have f1 : (upd H4 h (.lst [.int m', .ref c, .int a0])) h = some (.lst [.int m', .ref c, .int a0]) := upd_same
    show tSeq _ _ _ _ (upd H4 h (.lst [.int m', .ref c, .int a0]))
    generalize hG : upd H4 h (.lst [.int m', .ref c, .int a0]) = G at f1
    refine q_setL (l := h) (j := 2) (v := .int (a0 + 1)) f1 (ev_op (ev_ixL (ev_var rfl) ev_c (SqL.of f1) rfl) ev_c rv_I0) (ev_var rfl) ev_c (by simp) fun H5 x5 => ?_
    have f2 : (upd H5 h (.lst [.int m', .ref c, .int (a0 + 1)])) h = some (.lst [.int m', .ref c, .int (a0 + 1)]) := upd_same
    refine s_ret (v := .int ((m'.fdiv 7) % k)) (ev_op (ev_op (ev_ixL (ev_var rfl) ev_c (SqL.of f2) rfl) ev_c (rv_I ⟨by decide, by decide⟩)) (ev_var rfl) (rv_I hk)) fun H6 x6 => ?_
    have f3 : G c = some (.lst (cs.map V.int)) := by rw [← hG, upd_ne hne.symm] ; exact E4 _ _ e2
    have d6 : Dr H6 h c := Dr.mono x6 ⟨m', a0 + 1, cs, upd_same, by rw [upd_ne hne.symm]; exact x5 _ _ f3, hm'0, hm'1, by omega, hlen⟩
    have v1 : Mv [h, c] H G := by rw [← hG] ; exact (Mv.of E4).upd' (by simp) (noT h (.inl rfl))
    exact q H6 _ d6 (((v1.trans (Mv.of x5)).upd' (by simp) (noT h (.inl rfl))).trans (Mv.of x6)) (Int.emod_nonneg _ (by omega)) (Int.emod_lt_of_pos _ hk)
theorem ok__law_mix (T : Txt K mg) : FnOk P w K mg base CX0 1 T._law_mix.f T._law_mix.fd ["_law_script", "_law_seed"] (spMix K) := by
  refine T._law_mix.F.ok sc__law_mix (fun vs H Q E h => ?_) (fun cdv A outer s H vs Q E hr h => ?_)
  · obtain ⟨a, ns, sd, rfl, _⟩ := h ; rfl
  obtain ⟨a, ns, sd, rfl, hS, hl, h0, h1, q⟩ := h
  refine ⟨_, (pss_cons (ps_set (i := 2) sc__law_mix.nd rfl (by first | exact Or.inl rfl | exact Or.inr rfl) (pv 1))
  (pss_cons (ps_for PassesOwn.never rfl (pi_listK (K := K) rfl (pv 0)) (pg_name (i := 3) sc__law_mix.nd rfl (by first | exact Or.inl rfl | exact Or.inr rfl))
  (pss_one (ps_set (i := 2) sc__law_mix.nd rfl (by first | exact Or.inl rfl | exact Or.inr rfl) (pe_op op_mod (pe_op op_add (pe_op op_add (pe_op op_mul (pv 2) pe_int) (pe_op op_mod (pv 3) pe_int)) pe_int) pe_int))))
  (pss_one (ps_ret (pe_lst (pa_cons (pv 2) (pa_cons (pe_callTy (listK (K := K) rfl) (by rfl) T.z_list (by decide +kernel) (pa_cons (pv 0) pa_nil)) (pa_cons pe_int pa_nil)))))))), ?_⟩
  refine q_asg (ev_var rfl) fun H1 x1 => ?_
  refine q_forLn (a := a) (xs := ns.map V.int) (ev_var rfl) (ex_l x1 hS) (fun i σ H' => ∃ (m : Int) (y : Option V), σ = [some (.ref a), some (.int sd), some (.int m), y] ∧ Same H H' ∧ 0 ≤ m ∧ m < 2147483647) (fun H2 x2 => ⟨sd, none, rfl, x1.trans x2, h0, h1⟩)
    (fun i σ H' _ p => by obtain ⟨m, y, _, e, _⟩ := p ; exact ex_l e hS) (fun i x σ H' hx p => ?_) (fun σ H' p => ?_)
  · obtain ⟨m, y, rfl, e, m0, m1⟩ := p
    rw [List.getElem?_map, Option.map_eq_some_iff] at hx
    obtain ⟨n, hn, rfl⟩ := hx
    refine s_asg (v := .int ((m * 48271 + n % 2147483629 + 1) % 2147483647)) (ev_op (ev_op (ev_op (ev_op (ev_var rfl) ev_c (rv_I (.inl ⟨by omega, by omega⟩))) (ev_op (ev_var rfl) ev_c (rv_I (by decide))) rv_I0) ev_c rv_I0) ev_c (rv_I (by decide))) fun H2 x2 => ?_
    exact ⟨_, _, rfl, e.trans x2, by omega, by omega⟩
  · obtain ⟨m, y, rfl, e, m0, m1⟩ := p
    refine ⟨_, rfl, _, rfl, a, ns.map V.int, rfl, .inl (ex_l e hS), fun c hc => ⟨by show 3 ≤ sizeLine; decide, fun h hh => ?_⟩⟩
    have ec : Same H' (upd H' c (.lst (ns.map V.int))) := Same.new hc
    have eh := Same.new (o := .lst [.int m, .ref c, .int 0]) hh
    have hcc : (upd (upd H' c (.lst (ns.map V.int))) h (.lst [.int m, .ref c, .int 0])) c = some (.lst (ns.map V.int)) := eh _ _ upd_same
    exact q _ h c ⟨m, 0, ns, upd_same, hcc, m0, m1, Int.le_refl _, hl⟩ ((e.trans ec).trans eh) ((e.trans ec).free hh) (e.free hc)
theorem alike_step (T : Txt K mg) {n : Nat} (ih : FnOk P w K mg base CX0 n T._law_alike.f T._law_alike.fd ["_law_found", "_law_due"] (spAlike K n)) :
    FnOk P w K mg base CX0 (n + 1) T._law_alike.f T._law_alike.fd ["_law_found", "_law_due"] (spAlike K (n + 1)) := by
  refine T._law_alike.F.ok sc__law_alike (fun vs H Q E h => ?_) (fun cdv A outer s H vs Q E hr h => ?_)
  · obtain ⟨v, ⟨x, y, d, rfl, _⟩, _⟩ := h ; rfl
  obtain ⟨v, ⟨x, y, d, rfl, hx, hy, hf, rfl⟩, q⟩ := h
  refine ⟨_, (pss_cons (ps_if (pt_val (pe_callB (isiTK (K := K) rfl) (by rfl) T.z_isinstance (by decide +kernel) (pa_cons (pv 1) (pa_cons (pe_tup (pa_cons (pe_bltn (v := .ty "tuple") rfl T.z_tuple (by decide +kernel) rfl) (pa_cons (pe_bltn (v := .ty "list") rfl T.z_list (by decide +kernel) rfl) pa_nil))) pa_nil)))) (pss_cons (ps_if (PW.pt (pw_or (pt_not (pt_val (pe_callB (isiTK (K := K) rfl) (by rfl) T.z_isinstance (by decide +kernel) (pa_cons (pv 0) (pa_cons (pe_tup (pa_cons (pe_bltn (v := .ty "tuple") rfl T.z_tuple (by decide +kernel) rfl) (pa_cons (pe_bltn (v := .ty "list") rfl T.z_list (by decide +kernel) rfl) pa_nil))) pa_nil))))) (pw_or1 (pt_cmpR op_ne (pe_callB (isiK (K := K) rfl) (by rfl) T.z_isinstance (by decide +kernel) (pa_cons (pv 0) (pa_cons (pe_bltn (v := .ty "list") rfl T.z_list (by decide +kernel) rfl) pa_nil))) (pe_callB (isiK (K := K) rfl) (by rfl) T.z_isinstance (by decide +kernel) (pa_cons (pv 1) (pa_cons (pe_bltn (v := .ty "list") rfl T.z_list (by decide +kernel) rfl) pa_nil))) (nomark _))))) (pss_one (ps_ret pe_bl)) pss_nil)
  (pss_cons (ps_if (pt_cmpR op_ne (pe_callB (lenK (K := K) rfl) (by rfl) T.z_len PySem.boot_len (pa_cons (pv 0) pa_nil)) (pe_callB (lenK (K := K) rfl) (by rfl) T.z_len PySem.boot_len (pa_cons (pv 1) pa_nil)) (nomark _)) (pss_one (ps_ret pe_bl)) pss_nil)
  (pss_one (ps_ret (pe_cmpR (eqDK (K := K) rfl hr.units) (pe_lc (own := [("_law_k", 2)]) rfl sc__law_alike.nd (pi_range1 rfl T.z_range (pa_cons (pe_callB (lenK (K := K) rfl) (by rfl) T.z_len PySem.boot_len (pa_cons (pv 1) pa_nil)) pa_nil)) (blkOk_by (own := [("_law_k", 2)]) (N := ["_law_found", "_law_due", "_law_k"]) (sc := defScope s__law_alike) (by decide +kernel)) (fun _ _ _ _ _ => by exact (pg_name (i := 2) sc__law_alike.nd rfl (by first | exact Or.inl rfl | exact Or.inr rfl))) (fun _ _ _ _ _ => (pts_one (pt_not (pt_val (pe_call ih hr rfl T._law_alike.m T._law_alike.F.kp T._law_alike.b .nil pass0 (pa_cons (pe_ix (ixK (K := K) rfl) (pv 0) (pv 2) (fun _ _ => rfl)) (pa_cons (pe_ix (ixK (K := K) rfl) (pv 1) (pv 2) (fun _ _ => rfl)) pa_nil))))))) (fun _ _ _ _ _ => (pv 2))) (pe_lst pa_nil) (nomark _)))))) pss_nil)
  (pss_cons (ps_if (pt_cmp (pc_isN (pv 1))) (pss_one (ps_ret (pe_cmp (pc_isN (pv 0))))) pss_nil)
  (pss_cons (ps_if (pt_val (pe_callB (isiK (K := K) rfl) (by rfl) T.z_isinstance (by decide +kernel) (pa_cons (pv 1) (pa_cons (pe_bltn (v := .ty "str") rfl T.z_str (by decide +kernel) rfl) pa_nil)))) (pss_one (ps_ret (pe_and (pe_callB (isiK (K := K) rfl) (by rfl) T.z_isinstance (by decide +kernel) (pa_cons (pv 0) (pa_cons (pe_bltn (v := .ty "str") rfl T.z_str (by decide +kernel) rfl) pa_nil))) (pe_one (pe_cmpR op_eq (pv 0) (pv 1) (nomark _)))))) pss_nil)
  (pss_cons (ps_if (PW.pt (pw_or (pt_val (pe_callB (isiK (K := K) rfl) (by rfl) T.z_isinstance (by decide +kernel) (pa_cons (pv 1) (pa_cons (pe_bltn (v := .ty "bool") rfl T.z_bool (by decide +kernel) rfl) pa_nil)))) (pw_or1 (pt_val (pe_callB (isiK (K := K) rfl) (by rfl) T.z_isinstance (by decide +kernel) (pa_cons (pv 0) (pa_cons (pe_bltn (v := .ty "bool") rfl T.z_bool (by decide +kernel) rfl) pa_nil))))))) (pss_one (ps_ret (pe_and (pe_callB (isiK (K := K) rfl) (by rfl) T.z_isinstance (by decide +kernel) (pa_cons (pv 1) (pa_cons (pe_bltn (v := .ty "bool") rfl T.z_bool (by decide +kernel) rfl) pa_nil))) (pe_and (pe_callB (isiK (K := K) rfl) (by rfl) T.z_isinstance (by decide +kernel) (pa_cons (pv 0) (pa_cons (pe_bltn (v := .ty "bool") rfl T.z_bool (by decide +kernel) rfl) pa_nil))) (pe_one (pe_cmpR op_eq (pv 0) (pv 1) (nomark _))))))) pss_nil)
  (pss_one (ps_ret (pe_and (pe_callB (isiK (K := K) rfl) (by rfl) T.z_isinstance (by decide +kernel) (pa_cons (pv 0) (pa_cons (pe_bltn (v := .ty "int") rfl T.z_int (by decide +kernel) rfl) pa_nil))) (pe_one (pe_cmpR op_eq (pv 0) (pv 1) (nomark _)))))))))), ?_⟩
  refine q_when (et_B (ev_isiSeq (ev_var rfl) hy)) (fun hb H1 x1 => ?_) (fun hb H1 x1 => ?_)
  · -- a list, a tuple
    have hx1 := Dp.mono' x1 hx
    have hy1 := Dp.mono' x1 hy
    obtain ⟨ds, hd, hl, hsub⟩ : ∃ ds, (d = .list ds ∨ d = .tuple ds) ∧ ds.length ≤ 40000 ∧ ∃ k, n = k + 1 ∧ ∀ e ∈ ds, Fine k e := by
      cases hf with
      | list h1 h2 => exact ⟨_, .inl rfl, h1, _, rfl, h2⟩
      | tuple h1 h2 => exact ⟨_, .inr rfl, h1, _, rfl, h2⟩
      | _ => exact absurd hb Bool.noConfusion
    obtain ⟨k, rfl, hsub⟩ := hsub
    have sx : ∀ {H'}, Same H H' → Dp K H' x (.list ds) ∨ Dp K H' x (.tuple ds) := fun e => by
      rcases hd with rfl | rfl
      · exact .inl (Dp.mono' e hx)
      · exact .inr (Dp.mono' e hx)
    have sy : ∀ {H'}, Same H H' → Dp K H' y (.list ds) ∨ Dp K H' y (.tuple ds) := fun e => by
      rcases hd with rfl | rfl
      · exact .inl (Dp.mono' e hy)
      · exact .inr (Dp.mono' e hy)
    refine q_when (b := !dSeq d || !decide (dLst d = dLst d)) (et_or (et_not (et_B (ev_isiSeq (ev_var rfl) hx1))) fun _ => et_test (ev_op (ev_isiD' (ev_var rfl) hx1 kit_lst) (ev_isiD' (ev_var rfl) hy1 kit_lst) fun H2 _ Q k => g_neB (k H2 (Ex.refl H2)))) (fun hc => ?_) (fun _ H2 x2 => ?_)
    · rw [hb, decide_eq_true rfl] at hc
      cases hc
    have E2 : Same H H2 := x1.trans x2
    refine q_when (b := !decide ((ds.length : Int) = (ds.length : Int))) (et_test (ev_op (ev_lenD (ev_var rfl) (sx E2)) (ev_lenD (ev_var rfl) (sy E2)) rv_neI)) (fun hc => ?_) (fun _ H3 x3 => ?_)
    · rw [decide_eq_true rfl] at hc
      cases hc
    have E3 : Same H H3 := E2.trans x3
    refine s_ret ?_ fun H4 x4 => q H4 (E3.trans x4)
    have e0 : given (ds.length : Int).toNat (fun _ => false) (fun i => .int (i : Nat)) = [] := by
      unfold given
      rw [List.filter_eq_nil_iff.mpr (fun _ _ => Bool.false_ne_true)] ; rfl
    refine ev_opLL (xs := []) (ys := []) ?_ (el_lst ea_nil (by decide)) fun p r H4 hp hr _ => rv_eqNil hp hr
    refine el_is ?_ e0
    refine el_lcR1 (fun _ => false) (fun i => .int (i : Nat)) (ea_cons (ev_lenD (ev_var rfl) (sy E3)) ea_nil) ⟨by omega, by omega⟩ (fun _ => rfl) (fun i H4 x4 hi => ?_) fun i H4 x4 hi hz => nomatch hz
    have E4 : Same H H4 := E3.trans x4
    have hi' : i < ds.length := by omega
    obtain ⟨v1, hv1, ev1⟩ := ev_ixD (K := K) (ta := tVar 0) (tb := tVar 2) (σ := (wipe [some x, some y, none] [2]).set 2 (some (.int (i : Int)))) (n := i) (ev_var rfl) (ev_var rfl) (sx E4) (List.getElem?_eq_getElem hi')
    obtain ⟨v2, hv2, ev2⟩ := ev_ixD (K := K) (ta := tVar 1) (tb := tVar 2) (σ := (wipe [some x, some y, none] [2]).set 2 (some (.int (i : Int)))) (n := i) (ev_var rfl) (ev_var rfl) (sy E4) (List.getElem?_eq_getElem hi')
    have go : EvT (tNot (tB (tCall (spAlike K (k + 1)) [] E0 (tCons (tOp (rIx K) (tVar 0) (tVar 2)) (tCons (tOp (rIx K) (tVar 1) (tVar 2)) tNil))))) ((wipe [some x, some y, none] [2]).set 2 (some (.int (i : Int)))) H4 (!true) :=
      et_not (et_B (ev_pv (ea_cons ev1 (ea_cons ev2 ea_nil)) fun H5 x5 => ⟨v1, v2, _, rfl, Dp.mono' x5 hv1, Dp.mono' x5 hv2, hsub _ (List.getElem_mem hi'), rfl⟩))
    exact go
  · -- none, a text, a bool, an int
    have hx1 := Dp.mono' x1 hx
    have hy1 := Dp.mono' x1 hy
    cases d with
    | none =>
      cases hx ; cases hy
      refine q_when (b := true) (et_B (ev_is (ev_isN (ev_var rfl)) (by rw [decide_eq_true rfl]))) (fun _ H2 x2 => ?_) (fun z => nomatch z)
      exact s_ret (ev_is (ev_isN (ev_var rfl)) (by rw [decide_eq_true rfl])) fun H3 x3 => q H3 ((x1.trans x2).trans x3)
    | str t =>
      cases hx ; cases hy
      refine q_when (b := false) (et_B (ev_is (ev_isN (ev_var rfl)) (by rw [decide_eq_false (by intro z; cases z)]))) (fun z => nomatch z) (fun _ H2 x2 => ?_)
      refine q_when (et_B (ev_isiD' (K := K) (ev_var rfl) (.str t) kit_str)) (fun _ H3 x3 => ?_) (fun z => nomatch z)
      refine s_ret (ev_is (ev_andV (ev_isiD' (K := K) (ev_var rfl) (.str t) kit_str) fun _ => ev_op (ev_var rfl) (ev_var rfl) (rv_eq rfl)) ?_) fun H4 x4 => q H4 (((x1.trans x2).trans x3).trans x4)
      rw [decide_eq_true rfl] ; rfl
    | bool t =>
      cases hx ; cases hy
      refine q_when (b := false) (et_B (ev_is (ev_isN (ev_var rfl)) (by rw [decide_eq_false (by intro z; cases z)]))) (fun z => nomatch z) (fun _ H2 x2 => ?_)
      refine q_when (et_B (ev_isiD' (K := K) (ev_var rfl) (.bl t) kit_str)) (fun z => nomatch z) (fun _ H3 x3 => ?_)
      refine q_when (b := true) (et_or (b := true) (et_B (ev_isiD' (K := K) (ev_var rfl) (.bl t) kit_bool)) fun z => nomatch z) (fun _ H4 x4 => ?_) (fun z => nomatch z)
      refine s_ret (ev_is (ev_andV (ev_isiD' (K := K) (ev_var rfl) (.bl t) kit_bool) fun _ => ev_andV (ev_isiD' (K := K) (ev_var rfl) (.bl t) kit_bool) fun _ => ev_op (ev_var rfl) (ev_var rfl) (rv_eq rfl)) ?_) fun H5 x5 => q H5 ((((x1.trans x2).trans x3).trans x4).trans x5)
      rw [decide_eq_true rfl] ; rfl
    | int t =>
      cases hx ; cases hy
      refine q_when (b := false) (et_B (ev_is (ev_isN (ev_var rfl)) (by rw [decide_eq_false (by intro z; cases z)]))) (fun z => nomatch z) (fun _ H2 x2 => ?_)
      refine q_when (et_B (ev_isiD' (K := K) (ev_var rfl) (.int t) kit_str)) (fun z => nomatch z) (fun _ H3 x3 => ?_)
      refine q_when (b := false) (et_or (et_B (ev_isiD' (K := K) (ev_var rfl) (.int t) kit_bool)) fun _ => et_B (ev_isiD' (K := K) (ev_var rfl) (.int t) kit_bool)) (fun z => nomatch z) (fun _ H4 x4 => ?_)
      refine s_ret (ev_is (ev_andV (ev_isiD' (K := K) (ev_var rfl) (.int t) kit_int) fun _ => ev_op (ev_var rfl) (ev_var rfl) (rv_eq rfl)) ?_) fun H5 x5 => q H5 ((((x1.trans x2).trans x3).trans x4).trans x5)
      rw [decide_eq_true rfl] ; rfl
    | _ => exact absurd hb Bool.noConfusion
theorem ok__law_alike (T : Txt K mg) : ∀ n, FnOk P w K mg base CX0 n T._law_alike.f T._law_alike.fd ["_law_found", "_law_due"] (spAlike K n)
  | 0 => ⟨fun vs H Q E h => h.elim, fun A outer s H args us vs Q E _ _ _ _ h => h.elim⟩
  | n + 1 => alike_step T (ok__law_alike T n)
theorem ok__law_marks (T : Txt K mg) : FnOk P w K mg base CX0 2 T._law_marks.f T._law_marks.fd ["_law_h"] spMarks := by
  refine T._law_marks.F.ok sc__law_marks (fun vs H Q E h => ?_) (fun cdv A outer s H vs Q E hr h => ?_)
  · obtain ⟨h, c, rfl, _⟩ := h ; rfl
  obtain ⟨h, c, rfl, dr, q⟩ := h
  refine ⟨_, (pss_one (ps_ret (pe_callTy (tupleK (K := K) rfl) (by rfl) T.z_tuple (by decide +kernel) (pa_cons (pe_lc (own := [("_law_k", 1)]) rfl sc__law_marks.nd (pi_range1 rfl T.z_range (pa_cons pe_int pa_nil)) (blkOk_by (own := [("_law_k", 1)]) (N := ["_law_h", "_law_k"]) (sc := defScope s__law_marks) (by decide +kernel)) (fun _ _ _ _ _ => by exact (pg_name (i := 1) sc__law_marks.nd rfl (by first | exact Or.inl rfl | exact Or.inr rfl))) (fun _ _ _ _ _ => pts_nil) (fun _ _ _ _ _ => (pe_call (ok__law_next T) (hr.mono (by decide)) rfl T._law_next.m T._law_next.F.kp T._law_next.b .nil pass0 (pa_cons (pv 0) (pa_cons (pe_ix (ixK (K := K) rfl) (pe_lst (pa_cons pe_int (pa_cons pe_int (pa_cons pe_int pa_nil)))) (pe_call (ok__law_next T) (hr.mono (by decide)) rfl T._law_next.m T._law_next.F.kp T._law_next.b .nil pass0 (pa_cons (pv 0) (pa_cons pe_int pa_nil))) (fun _ _ => rfl)) pa_nil))))) pa_nil)))), ?_⟩
  refine ⟨3, rfl, by decide, by decide, fun L hL => ?_⟩
  have nL := dr.new hL
  refine lc_range (lo := 0) (n := 3) (fun i H' => Dr H' h c ∧ Mv [h, c] H H' ∧ ∃ ms : List Int, H' L = some (.lst (ms.map V.int)) ∧ ms.length = i ∧ ∀ x ∈ ms, 0 ≤ x ∧ x ≤ 9) ⟨dr.upd nL, Mv.of (Same.new hL), [], upd_same, rfl, by simp⟩ (fun i H' hi p => ?_) (fun H' p => ?_)
  · obtain ⟨d1, m1, ms, e1, e2, e3⟩ := p
    refine ⟨rfl, ⟨.ref h, rfl, ?_⟩⟩
    refine rd_menu (xs := [2, 3, 10]) (h := h) (c := c) (ea_cons ev_c (ea_cons ev_c (ea_cons ev_c ea_nil))) rfl d1 rfl (by decide) (by decide) fun H2 v d2 m2 hv => ?_
    refine g_nil ?_
    have hv' : v = 2 ∨ v = 3 ∨ v = 10 := by simpa using hv
    refine nx d2 (by omega) (by omega) fun H3 r d3 m3 r0 r1 => ?_
    have m13 := (m1.trans m2).trans m3
    refine ⟨ms.map V.int, (m2.trans m3).at nL e1, by rw [List.length_map] ; exact sz_lt (by omega), d3.upd nL, m13.upd hL, ms ++ [r], by rw [upd_same, List.map_append] ; rfl, by rw [List.length_append, e2] ; rfl, fun x hx => ?_⟩
    rcases List.mem_append.mp hx with hx | hx
    · exact e3 x hx
    · rw [List.mem_singleton.mp hx] ; omega
  · obtain ⟨d1, m1, ms, e1, e2, e3⟩ := p
    refine ⟨L, ms.map V.int, rfl, .inl ⟨SqL.of e1, fun p o hp ho => ?_⟩⟩
    have mv : Mv [h, c] H (upd H' p (.frz o (.tup (ms.map V.int)))) := m1.trans (Mv.of (Same.new hp))
    exact q _ _ ms (d1.upd (d1.new hp)) mv (.tup (TupAt.new ho) (Tps.of_ints ms)) ⟨e2, e3⟩


end
end Dm
namespace Dm
open PySem PySem.Spec PyProof.Rows L2 Evl
section
variable {P : Program} {w : World} {K : PySem.W.Frag} {mg : Str → Option Value} {base : Heap}
theorem ok__law_claims (T : Txt K mg) : FnOk P w K mg base CX0 3 T._law_claims.f T._law_claims.fd ["_law_h"] spClaims := by
  refine T._law_claims.F.ok sc__law_claims (fun vs H Q E h => ?_) (fun cdv A outer s H vs Q E hr h => ?_)
  · obtain ⟨h, c, rfl, _⟩ := h ; rfl
  obtain ⟨h, c, rfl, dr, q⟩ := h
  refine ⟨_, (pss_cons (ps_set (i := 1) sc__law_claims.nd rfl (by first | exact Or.inl rfl | exact Or.inr rfl) (pe_lst pa_nil))
  (pss_cons (ps_for PassesOwn.never rfl (pi_range1 rfl T.z_range (pa_cons (pe_call (ok__law_next T) (hr.mono (by decide)) rfl T._law_next.m T._law_next.F.kp T._law_next.b .nil pass0 (pa_cons (pv 0) (pa_cons (pe_ix (ixK (K := K) rfl) (pe_lst (pa_cons pe_int (pa_cons pe_int pa_nil))) (pe_call (ok__law_next T) (hr.mono (by decide)) rfl T._law_next.m T._law_next.F.kp T._law_next.b .nil pass0 (pa_cons (pv 0) (pa_cons pe_int pa_nil))) (fun _ _ => rfl)) pa_nil))) pa_nil)) (pg_name (i := 2) sc__law_claims.nd rfl (by first | exact Or.inl rfl | exact Or.inr rfl))
  (pss_cons (ps_set (i := 3) sc__law_claims.nd rfl (by first | exact Or.inl rfl | exact Or.inr rfl) (pe_call (ok__law_marks T) (hr.mono (by decide)) rfl T._law_marks.m T._law_marks.F.kp T._law_marks.b .nil pass0 (pa_cons (pv 0) pa_nil)))
  (pss_cons (ps_set (i := 4) sc__law_claims.nd rfl (by first | exact Or.inl rfl | exact Or.inr rfl) (pe_callTy (tupleK (K := K) rfl) (by rfl) T.z_tuple (by decide +kernel) (pa_cons (pe_lc (own := [("_law_mark", 5)]) rfl sc__law_claims.nd (pi_tupK (K := K) rfl (pv 3)) (blkOk_by (own := [("_law_mark", 5)]) (N := ["_law_h", "_law_found", "_law_k", "_law_marks_here", "_law_wanted", "_law_mark"]) (sc := defScope s__law_claims) (by decide +kernel)) (fun _ _ _ _ _ => by exact (pg_name (i := 5) sc__law_claims.nd rfl (by first | exact Or.inl rfl | exact Or.inr rfl))) (fun _ _ _ _ _ => pts_nil) (fun _ _ _ _ _ => (pe_ifExp (pt_cmpR op_eq (pe_call (ok__law_next T) (hr.mono (by decide)) rfl T._law_next.m T._law_next.F.kp T._law_next.b .nil pass0 (pa_cons (pv 0) (pa_cons pe_int pa_nil))) pe_int (nomark _)) (pv 5) (pe_un un_neg pe_int)))) pa_nil)))
  (pss_one (ps_expr (pe_bm PySem.F.plainAttrs_list PySem.F.slot_list_append PySem.F.type_list_append mt_append (pv 1) (pa_cons (pe_tupF (pa_cons (pv 4) (pa_cons (pe_call (ok__law_next T) (hr.mono (by decide)) rfl T._law_next.m T._law_next.F.kp T._law_next.b .nil pass0 (pa_cons (pv 0) (pa_cons (pe_ix (ixK (K := K) rfl) (pe_lst (pa_cons pe_int (pa_cons pe_int pa_nil))) (pe_call (ok__law_next T) (hr.mono (by decide)) rfl T._law_next.m T._law_next.F.kp T._law_next.b .nil pass0 (pa_cons (pv 0) (pa_cons pe_int pa_nil))) (fun _ _ => rfl)) pa_nil))) pa_nil))) pa_nil)))))))
  (pss_one (ps_ret (pe_callTy (tupleK (K := K) rfl) (by rfl) T.z_tuple (by decide +kernel) (pa_cons (pv 1) pa_nil)))))), ?_⟩
  refine q_asgL (el_lst ea_nil (by decide)) fun L H1 hL x1 h1 => ?_
  have nL : L ∉ [h, c] := dr.new hL
  have dr1 := dr.mono x1
  -- how many
  refine ⟨.ref h, rfl, ?_⟩
  refine rd_menu (xs := [3, 7]) (h := h) (c := c) (ea_cons ev_c (ea_cons ev_c ea_nil)) rfl dr1 rfl (by decide) (by decide) fun H2 v d2 m2 hv => ?_
  refine g_nil ?_
  have hv' : v = 3 ∨ v = 7 := by simpa using hv
  refine nx d2 (by omega) (by omega) fun H3 n d3 m3 n0 n1 => ?_
  refine g_nil ⟨n, rfl, by omega, by omega, ?_⟩
  have m13 : Mv [h, c] H H3 := ((Mv.of x1).trans m2).trans m3
  have hL3 : H3 L = some (.lst []) := (m2.trans m3).at nL h1
  refine for_range (lo := 0) (n := n.toNat) (fun i σ H' => ∃ (vs : List V) (cs : List (List Int × Int)) (y2 y3 y4 y5 : Option V), σ = [some (.ref h), some (.ref L), y2, y3, y4, y5] ∧ Dr H' h c ∧ Mv [h, c] H H' ∧ H' L = some (.lst vs) ∧ Tps H' vs (cs.map clD) ∧ cs.length = i ∧ ∀ c ∈ cs, okClaim c)
    ⟨[], [], _, _, _, _, rfl, d3, m13, hL3, .nil, rfl, by simp⟩ (fun i σ H' hi p => ?_) (fun σ H' p => ?_)
  · obtain ⟨vs, cs, y2, y3, y4, y5, rfl, d4, m4, e4, t4, l4, ok4⟩ := p
    -- marks
    refine ⟨.ref h, rfl, h, c, rfl, d4, fun H5 mk m d5 m5 t5 ok5 => ?_⟩
    have e5 : H5 L = some (.lst vs) := m5.at nL e4
    obtain ⟨am, xm, rfl, hm, hms⟩ := t5.tup_inv
    have z := hms.ints ; subst z
    -- wanted
    refine ⟨.ref am, rfl, am, rfl, ⟨_, hm.sq⟩, fun W hW => ?_⟩
    have nW : W ∉ [h, c] := d5.new hW
    have nWL : L ≠ W := ne_of_none e5 hW
    refine lc_tup (xs := m.map V.int) (fun j H' => Dr H' h c ∧ Mv [h, c] H5 H' ∧ ∃ ws : List Int, H' W = some (.lst (ws.map V.int)) ∧ ws.length = j ∧ ∀ x ∈ ws, -1 ≤ x ∧ x ≤ 9) ⟨d5.upd nW, Mv.of (Same.new hW), [], upd_same, rfl, by simp⟩ (fun j H' _ p => (hm.mono p.2.1.ts).sq) (fun j x H' hx p => ?_) (fun H6 p => ?_)
    · obtain ⟨d6, m6, ws, e6, l6, ok6⟩ := p
      rw [List.getElem?_map, Option.map_eq_some_iff] at hx
      obtain ⟨k, hk, rfl⟩ := hx
      have hk' := ok5.2 k (List.mem_of_getElem? hk)
      have hj : j < 3 := by have := (List.getElem?_eq_some_iff.mp hk).1 ; have := ok5.1 ; omega
      refine ⟨rfl, ⟨.ref h, rfl, ?_⟩⟩
      refine g_cons ?_
      refine g_c ?_
      refine g_nil ?_
      refine nx d6 (by decide) (by decide) fun H7 r d7 m7 r0 r1 => ?_
      refine g_c ?_
      refine g_eqI ?_
      refine ⟨_, rfl, ?_⟩
      have e7 := m7.at nW e6
      have go : ∀ y : Int, -1 ≤ y ∧ y ≤ 9 → ∃ acc, H7 W = some (.lst acc) ∧ acc.length < sizeLine ∧ (fun j H' => Dr H' h c ∧ Mv [h, c] H5 H' ∧ ∃ ws : List Int, H' W = some (.lst (ws.map V.int)) ∧ ws.length = j ∧ ∀ x ∈ ws, -1 ≤ x ∧ x ≤ 9) (j + 1) (upd H7 W (.lst (acc ++ [.int y]))) := fun y hy =>
        ⟨ws.map V.int, e7, by rw [List.length_map] ; exact sz_lt (by omega), d7.upd nW, (m6.trans m7).upd hW, ws ++ [y], by rw [upd_same, List.map_append] ; rfl, by rw [List.length_append, l6] ; rfl, fun x hx => by
          rcases List.mem_append.mp hx with hx | hx
          · exact ok6 x hx
          · rw [List.mem_singleton.mp hx] ; exact hy⟩
      refine ite2 (fun _ => ?_) (fun _ => ?_)
      · exact ⟨_, rfl, go k (by omega)⟩
      · exact ⟨1, rfl, go (-1) (by omega)⟩
    · obtain ⟨d6, m6, ws, e6, l6, ok6⟩ := p
      rw [List.length_map] at l6
      refine ⟨W, ws.map V.int, rfl, .inl ⟨SqL.of e6, fun w o hw ho => ?_⟩⟩
      have e6L : H6 L = some (.lst vs) := m6.at nL e5
      have d8 := d6.upd (o := .frz o (.tup (ws.map V.int))) (d6.new hw)
      have m8 : Mv [h, c] H' (upd H6 w (.frz o (.tup (ws.map V.int)))) := (m5.trans m6).trans (Mv.of (Same.new hw))
      have t8 : TupAt (upd H6 w (.frz o (.tup (ws.map V.int)))) w (ws.map V.int) := TupAt.new ho
      have e8 : (upd H6 w (.frz o (.tup (ws.map V.int)))) L = some (.lst vs) := (Same.new hw) _ _ e6L
      generalize (upd H6 w (.frz o (.tup (ws.map V.int)))) = H8 at d8 m8 t8 e8 ⊢
      -- found.append((wanted, ..))
      refine ⟨.ref L, rfl, .inl ⟨rfl, _, SqL.of e8⟩, ⟨.ref w, rfl, ⟨.ref h, rfl, ?_⟩⟩⟩
      refine rd_menu (xs := [2, 10]) (h := h) (c := c) (ea_cons ev_c (ea_cons ev_c ea_nil)) rfl d8 rfl (by decide) (by decide) fun H9 v d9 m9 hv => ?_
      refine g_nil ?_
      have hv' : v = 2 ∨ v = 10 := by simpa using hv
      refine nx d9 (by omega) (by omega) fun HA r dA mA r0 r1 => ?_
      refine g_nil ⟨by show 2 ≤ sizeLine; decide, fun b ob hb hob => ?_⟩
      have mAb : Mv [h, c] H8 (upd HA b (.frz ob (.tup [.ref w, .int r]))) := (m9.trans mA).trans (Mv.of (Same.new hb))
      have tb : TupAt (upd HA b (.frz ob (.tup [.ref w, .int r]))) b [.ref w, .int r] := TupAt.new hob
      have dB := dA.upd (o := .frz ob (.tup [.ref w, .int r])) (dA.new hb)
      have eB := mAb.at nL e8
      have tw := t8.mono mAb.ts
      generalize (upd HA b (.frz ob (.tup [.ref w, .int r]))) = HB at mAb tb dB eB tw ⊢
      have mB : Mv [h, c] H' HB := m8.trans mAb
      refine ⟨L, vs, .ref b, rfl, rfl, eB, sz_lt (by have := t4.length ; rw [List.length_map, l4] at this ; omega), ?_⟩
      have noTL : ∀ u xs, HB L ≠ some (.frz u (.tup xs)) := fun u xs z => by rw [eB] at z ; cases z
      have mC : Mv [L] HB (upd HB L (.lst (vs ++ [.ref b]))) := (Mv.refl [L] HB).upd' (by simp) noTL
      have tc : Tp HB (.ref b) (clD (ws, r)) := .tup tb (.cons (.tup tw (Tps.of_ints ws)) (.cons (.int r) .nil))
      refine ⟨vs ++ [.ref b], cs ++ [(ws, r)], _, _, _, _, rfl, dB.upd nL, (m4.trans mB).upd hL, upd_same, ?_, by rw [List.length_append, l4] ; rfl, fun d hd => ?_⟩
      · rw [List.map_append]
        exact (t4.mono (mB.ts.trans mC.ts)).append (.cons (tc.mono mC.ts) .nil)
      · rcases List.mem_append.mp hd with hd | hd
        · exact ok4 d hd
        · rw [List.mem_singleton.mp hd]
          exact ⟨by show ws.length = 3 ; rw [l6, ok5.1], ok6, r0, by show r ≤ 9 ; omega⟩
  · obtain ⟨vs, cs, y2, y3, y4, y5, rfl, d4, m4, e4, t4, l4, ok4⟩ := p
    refine ⟨.ref L, rfl, L, vs, rfl, .inl ⟨SqL.of e4, fun p o hp ho => ?_⟩⟩
    have mp : Mv [h, c] H' (upd H' p (.frz o (.tup vs))) := Mv.of (Same.new hp)
    exact q _ _ cs (d4.upd (d4.new hp)) (m4.trans mp) (.tup (TupAt.new ho) (t4.mono mp.ts)) ⟨by rw [l4] ; omega, ok4⟩
theorem ok__law_fit (T : Txt K mg) : FnOk P w K mg base CX0 1 T._law_fit.f T._law_fit.fd ["_law_claims_here", "_law_marks_here"] spLawFit := by
  refine T._law_fit.F.ok sc__law_fit (fun vs H Q E h => ?_) (fun cdv A outer s H vs Q E hr h => ?_)
  · obtain ⟨v, ⟨x, y, cs, m, rfl, _⟩, _⟩ := h ; rfl
  obtain ⟨v, ⟨x, y, cs, m, rfl, hc, hm, okc, okm, rfl⟩, q⟩ := h
  refine ⟨_, (pss_cons (ps_set (i := 2) sc__law_fit.nd rfl (by first | exact Or.inl rfl | exact Or.inr rfl) pe_non)
  (pss_cons (ps_for PassesOwn.never rfl (pi_tupK (K := K) rfl (pv 0)) (pg_tupK (K := K) (n := 2) rfl rfl (pgs_cons (pg_name (i := 3) sc__law_fit.nd rfl (by first | exact Or.inl rfl | exact Or.inr rfl)) (pgs_cons (pg_name (i := 4) sc__law_fit.nd rfl (by first | exact Or.inl rfl | exact Or.inr rfl)) pgs_nil)))
  (pss_cons (ps_set (i := 5) sc__law_fit.nd rfl (by first | exact Or.inl rfl | exact Or.inr rfl) (pe_callB (lenK (K := K) rfl) (by rfl) T.z_len PySem.boot_len (pa_cons (pe_lc (own := [("_law_k", 6)]) rfl sc__law_fit.nd (pi_range1 rfl T.z_range (pa_cons pe_int pa_nil)) (blkOk_by (own := [("_law_k", 6)]) (N := ["_law_claims_here", "_law_marks_here", "_law_best", "_law_wanted", "_law_worth", "_law_many", "_law_k"]) (sc := defScope s__law_fit) (by decide +kernel)) (fun _ _ _ _ _ => by exact (pg_name (i := 6) sc__law_fit.nd rfl (by first | exact Or.inl rfl | exact Or.inr rfl))) (fun _ _ _ _ _ => (pts_one (pt_cmpR op_eq (pe_ix (ixK (K := K) rfl) (pv 3) (pv 6) (fun _ _ => rfl)) (pe_ix (ixK (K := K) rfl) (pv 1) (pv 6) (fun _ _ => rfl)) (nomark _)))) (fun _ _ _ _ _ => (pv 6))) pa_nil)))
  (pss_one (ps_if (PW.pt (pw_and (pt_cmpR op_eq (pv 5) (pe_callB (lenK (K := K) rfl) (by rfl) T.z_len PySem.boot_len (pa_cons (pe_lc (own := [("_law_k", 6)]) rfl sc__law_fit.nd (pi_range1 rfl T.z_range (pa_cons pe_int pa_nil)) (blkOk_by (own := [("_law_k", 6)]) (N := ["_law_claims_here", "_law_marks_here", "_law_best", "_law_wanted", "_law_worth", "_law_many", "_law_k"]) (sc := defScope s__law_fit) (by decide +kernel)) (fun _ _ _ _ _ => by exact (pg_name (i := 6) sc__law_fit.nd rfl (by first | exact Or.inl rfl | exact Or.inr rfl))) (fun _ _ _ _ _ => (pts_one (pt_cmpR op_ne (pe_ix (ixK (K := K) rfl) (pv 3) (pv 6) (fun _ _ => rfl)) (pe_un un_neg pe_int) (nomark _)))) (fun _ _ _ _ _ => (pv 6))) pa_nil)) (nomark _)) (pw_and1 (PW.pt (pw_or (pt_cmp (pc_isN (pv 2))) (pw_or1 (pt_cmpR op_gt (pe_op op_add (pe_op op_mul pe_int (pv 4)) (pv 5)) (pv 2) (nomark _)))))))) (pss_one (ps_set (i := 2) sc__law_fit.nd rfl (by first | exact Or.inl rfl | exact Or.inr rfl) (pe_op op_add (pe_op op_mul pe_int (pv 4)) (pv 5)))) pss_nil))))
  (pss_one (ps_ret (pv 2))))), ?_⟩
  obtain ⟨a, xs, rfl, ha, hs⟩ := hc.tup_inv
  obtain ⟨b, ms, rfl, hb, hms⟩ := hm.tup_inv
  have z := hms.ints ; subst z
  have hxl : xs.length = cs.length := by rw [hs.length, List.length_map]
  refine q_asg ev_c fun H1 x1 => ?_
  refine q_forT (a := a) (xs := xs) (ev_var rfl) (ha.mono (Same.ts x1)).sq (fun i σ H' => ∃ y3 y4 y5 y6 : Option V, σ = [some (.ref a), some (.ref b), some (optV (lawFit (cs.take i) m)), y3, y4, y5, y6] ∧ Same H H') (fun H2 x2 => ⟨_, _, _, _, rfl, x1.trans x2⟩)
    (fun i σ H' _ p => by obtain ⟨_, _, _, _, _, e⟩ := p ; exact (ha.mono (Same.ts e)).sq) (fun i x σ H2 hx p => ?_) (fun σ H2 p => ?_)
  · obtain ⟨y3, y4, y5, y6, rfl, e2⟩ := p
    obtain ⟨d, hd1, hd2⟩ := hs.get hx
    rw [List.getElem?_map, Option.map_eq_some_iff] at hd1
    obtain ⟨cl, hcl, rfl⟩ := hd1
    obtain ⟨p, xp, rfl, hp, hps⟩ := hd2.tup_inv
    obtain ⟨u, n, rfl, hu, hn⟩ := hps.two
    obtain ⟨wa, ws, rfl, hw, hws⟩ := hu.tup_inv
    have z := hws.ints ; subst z
    rw [hn.int_inv] at hp
    have okcl := okc.2 cl (List.mem_of_getElem? hcl)
    refine g_un2 (hp.mono (Same.ts e2)).sq ?_
    generalize hB : lawFit (cs.take i) m = best
    have at3 : ∀ (l : List Int) (k : Nat), l.length = 3 → (k : Int) < 3 → atI (l.map V.int) (k : Int) = some (.int (l.getD k 0)) := fun l k hl hk => atI_nat (by
      rw [List.getElem?_map, List.getD_eq_getElem?_getD, List.getElem?_eq_getElem (by omega)] ; rfl)
    have c1 : ∀ {σ : L2.St} {H3 : Hp}, Same H H3 → (hσ : σ = [some (.ref a), some (.ref b), some (optV best), some (.ref wa), some (.int cl.2), y5, y6] ∨ σ = [some (.ref a), some (.ref b), some (optV best), some (.ref wa), some (.int cl.2), some (.int (cntEq cl.1 m)), y6]) →
        EvL (tLc (iRng1 (tCons (tC (.int 3)) tNil)) (gName 6) (tTest (tOp rEq (tOp (rIx K) (tVar 3) (tVar 6)) (tOp (rIx K) (tVar 1) (tVar 6)))) (tVar 6) [6]) σ H3 (given 3 (fun k => decide (cl.1.getD k 0 = m.getD k 0)) (fun k => .int (k : Nat))) := fun {σ H3} e3 hσ => by
      refine el_lcR1 (n := 3) _ _ (ea_cons ev_c ea_nil) (by decide) (fun _ => ?_) (fun k H4 x4 hk => ?_) (fun k H4 x4 hk _ => ?_)
      · rcases hσ with rfl | rfl <;> rfl
      · rcases hσ with rfl | rfl <;>
        exact et_test (ev_op (ev_ixT (ev_var rfl) (ev_var rfl) (hw.mono (Same.ts (e3.trans x4))) (at3 _ k okcl.1 hk)) (ev_ixT (ev_var rfl) (ev_var rfl) (hb.mono (Same.ts (e3.trans x4))) (at3 _ k okm.1 hk)) rv_eqI)
      · rcases hσ with rfl | rfl <;> exact ev_var rfl
    have gl : ∀ f : Nat → Bool, (given 3 f (fun k => V.int (k : Nat))).length = ((List.range 3).filter f).length := fun f => List.length_map _
    refine q_asg (v := .int (cntEq cl.1 m)) ?_ fun H3 x3 => ?_
    · refine ev_is (ev_lenN (c1 e2 (.inl rfl))) ?_
      rw [gl] ; rfl
    have e3 : Same H H3 := e2.trans x3
    -- the test
    refine s_ifAsg (b := decide (cntEq cl.1 m = cntTold cl.1) && (best.isNone || decide (10 * cl.2 + (cntEq cl.1 m : Int) > best.getD 0))) (v := optV (stepF m best cl)) (i := 2) (et_and ?_ fun _ => et_or ?_ fun hbn => ?_) (fun hb => ?_) (fun hb => ?_) (fun H4 x4 => ?_)
    · have z : (decide ((cntEq cl.1 m : Int) = ((given 3 (fun k => !decide (cl.1.getD k 0 = -1)) (fun k => V.int (k : Nat))).length : Int))) = decide (cntEq cl.1 m = cntTold cl.1) := by
        rw [gl, Bool.eq_iff_iff, decide_eq_true_iff, decide_eq_true_iff] ; exact Int.natCast_inj
      rw [← z]
      refine et_test (ev_op (ev_var rfl) (ev_lenN (el_lcR1 (n := 3) _ _ (ea_cons ev_c ea_nil) (by decide) (fun _ => rfl) (fun k H4 x4 hk => ?_) (fun k H4 x4 hk _ => ev_var rfl))) rv_eqI)
      exact et_test (ev_op (ev_ixT (ev_var rfl) (ev_var rfl) (hw.mono (Same.ts (e3.trans x4))) (at3 _ k okcl.1 hk)) (ev_un ev_c ru_neg) rv_neI)
    · refine et_B (ev_is (ev_isN (ev_var rfl)) ?_)
      cases best with
      | none => rfl
      | some i => rw [decide_eq_false (by intro z; cases z)] ; rfl
    · cases best with
      | none => cases hbn
      | some i => exact et_test (ev_op (ev_op (ev_op ev_c (ev_var rfl) (rv_I (.inl ⟨by decide, by decide⟩))) (ev_var rfl) rv_I0) (ev_var rfl) rv_I0)
    · unfold stepF
      rw [hb, if_pos rfl]
      exact ev_op (ev_op ev_c (ev_var rfl) (rv_I (.inl ⟨by decide, by decide⟩))) (ev_var rfl) rv_I0
    · unfold stepF
      rw [hb, if_neg Bool.false_ne_true] ; rfl
    · refine ⟨some (V.ref wa), some (V.int cl.2), some (V.int (cntEq cl.1 m)), y6, ?_, e3.trans x4⟩
      have hst : lawFit (cs.take (i + 1)) m = stepF m best cl := by
        rw [List.take_add_one, hcl]
        unfold lawFit at hB ⊢
        rw [List.foldl_append, hB] ; rfl
      rw [hst] ; rfl
  · obtain ⟨y3, y4, y5, y6, rfl, e2⟩ := p
    rw [hxl, List.take_length]
    exact s_ret (ev_var rfl) fun H3 x3 => q H3 (e2.trans x3)


end
end Dm
namespace Dm
open PySem PySem.Spec PyProof.Rows L2 Evl
section
variable {P : Program} {w : World} {K : PySem.W.Frag} {mg : Str → Option Value} {base : Heap}
/-! ### check_marks, check_claims where nothing is refused -/
def spCheckMarks : Sp := PV fun vs H v => ∃ x d, vs = [x] ∧ Tp H x d ∧ isThree 0 d = true ∧ v = .non
theorem ok_check_marks (T : Txt K mg) : FnOk P w K mg base CX0 4 T.check_marks.f T.check_marks.fd ["marks"] spCheckMarks := by
  refine T.check_marks.F.ok sc_check_marks (fun vs H Q E h => ?_) (fun cdv A outer s H vs Q E hr h => ?_)
  · obtain ⟨v, ⟨x, d, rfl, _⟩, _⟩ := h ; rfl
  obtain ⟨v, ⟨x, d, rfl, hd, h3, rfl⟩, q⟩ := h
  refine ⟨_, (pss_one (ps_if (pt_not (pt_val (pe_call (ok_is_marks T) (hr.mono (by decide)) rfl T.is_marks.m T.is_marks.F.kp T.is_marks.b .nil pass0 (pa_cons (pv 0) pa_nil)))) (pss_one ps_never) pss_nil)), ?_⟩
  refine s_when (b := !isThree 0 d) (et_not (et_B (ev_pv (ea_cons (ev_var rfl) ea_nil) fun H3 e3 => ⟨x, d, rfl, hd.mono (Same.ts e3), rfl⟩))) (fun hb => ?_) (fun _ H1 e1 => q H1 e1)
  rw [h3] at hb ; cases hb
def spFit : Sp := PV fun vs H v => ∃ x y cs m, vs = [x, y] ∧ Tp H x (clsD cs) ∧ Tp H y (mkD m) ∧ okClaims cs ∧ okMarks m ∧ v = maxV (bestL cs m)
theorem ok_fit (T : Txt K mg) : FnOk P w K mg base CX0 6 T.fit.f T.fit.fd ["claims", "marks"] spFit := by
  refine T.fit.F.ok sc_fit (fun vs H Q E h => ?_) (fun cdv A outer s H vs Q E hr h => ?_)
  · obtain ⟨v, ⟨x, y, c, m, rfl, _⟩, _⟩ := h ; rfl
  obtain ⟨v, ⟨x, y, cs, m, rfl, hc, hm, hcs, hms, rfl⟩, q⟩ := h
  refine ⟨_, (pss_cons (ps_expr (pe_call (ok_check_claims T) (hr.mono (by decide)) rfl T.check_claims.m T.check_claims.F.kp T.check_claims.b .nil pass0 (pa_cons (pv 0) pa_nil)))
  (pss_cons (ps_expr (pe_call (ok_check_marks T) (hr.mono (by decide)) rfl T.check_marks.m T.check_marks.F.kp T.check_marks.b .nil pass0 (pa_cons (pv 1) pa_nil)))
  (pss_one (ps_ret (pe_call (ok_best_fit T) (hr.mono (by decide)) rfl T.best_fit.m T.best_fit.F.kp T.best_fit.b .nil pass0 (pa_cons (pv 0) (pa_cons (pv 1) pa_nil))))))), ?_⟩
  refine q_drop (ev_pv (ea_cons (ev_var rfl) ea_nil) fun H3 e3 => ⟨x, cs.map clD, rfl, hc.mono (Same.ts e3), by rw [List.length_map]; exact hcs.1, fun d hd => ?_, rfl⟩) fun H1 e1 => ?_
  · obtain ⟨c, h1, rfl⟩ := List.mem_map.mp hd
    exact (hcs.2 c h1).is
  refine q_drop (ev_pv (ea_cons (ev_var rfl) ea_nil) fun H3 e3 => ⟨y, mkD m, rfl, hm.mono (Same.ts (e1.trans e3)), hms.three, rfl⟩) fun H2 e2 => ?_
  have E2 := e1.trans e2
  exact s_ret (ev_pv (ea_cons (ev_var rfl) (ea_cons (ev_var rfl) ea_nil)) fun H3 e3 => ⟨x, y, cs, m, rfl, hc.mono (Same.ts (E2.trans e3)), hm.mono (Same.ts (E2.trans e3)), fun c hc => by rw [(hcs.2 c hc).1, hms.1], by rw [hms.1]; decide, by have := hcs.1; omega, rfl⟩) fun H3 e3 => q H3 (E2.trans e3)
/-! ### the law -/
def spLaw (K : PySem.W.Frag) : Sp := fun vs H Q _ => ∃ (a : Addr) (ns : List Int), vs = [.ref a] ∧ SqL K H a (ns.map V.int) ∧ ns.length ≤ 63 ∧ ∀ H', Q (.bl true) H'
theorem ok_law (T : Txt K mg) : FnOk P w K mg base CX0 9 T.law.f T.law.fd ["_law_script"] (spLaw K) := by
  refine T.law.F.ok sc_law (fun vs H Q E h => ?_) (fun cdv A outer s H vs Q E hr h => ?_)
  · obtain ⟨a, ns, rfl, _⟩ := h ; rfl
  obtain ⟨a, ns, rfl, hS, hl, q⟩ := h
  refine ⟨_, (pss_cons (ps_set (i := 1) sc_law.nd rfl (by first | exact Or.inl rfl | exact Or.inr rfl) (pe_call (ok__law_mix T) (hr.mono (by decide)) rfl T._law_mix.m T._law_mix.F.kp T._law_mix.b .nil pass0 (pa_cons (pv 0) (pa_cons pe_int pa_nil))))
  (pss_cons (ps_for PassesOwn.never rfl (pi_range1 rfl T.z_range (pa_cons pe_int pa_nil)) (pg_name (i := 2) sc_law.nd rfl (by first | exact Or.inl rfl | exact Or.inr rfl))
  (pss_cons (ps_par (i := 3) (j := 4) rfl sc_law.nd rfl rfl (by decide) rfl rfl (pa_cons (pe_call (ok__law_claims T) (hr.mono (by decide)) rfl T._law_claims.m T._law_claims.F.kp T._law_claims.b .nil pass0 (pa_cons (pv 1) pa_nil)) (pa_cons (pe_call (ok__law_marks T) (hr.mono (by decide)) rfl T._law_marks.m T._law_marks.F.kp T._law_marks.b .nil pass0 (pa_cons (pv 1) pa_nil)) pa_nil)) rfl)
  (pss_one (ps_if (pt_not (pt_val (pe_call (ok__law_alike T 5) (hr.mono (by decide)) rfl T._law_alike.m T._law_alike.F.kp T._law_alike.b .nil pass0 (pa_cons (pe_call (ok_fit T) (hr.mono (by decide)) rfl T.fit.m T.fit.F.kp T.fit.b .nil pass0 (pa_cons (pv 3) (pa_cons (pv 4) pa_nil))) (pa_cons (pe_call (ok__law_fit T) (hr.mono (by decide)) rfl T._law_fit.m T._law_fit.F.kp T._law_fit.b .nil pass0 (pa_cons (pv 3) (pa_cons (pv 4) pa_nil))) pa_nil))))) (pss_one (ps_ret pe_bl)) pss_nil))))
  (pss_one (ps_ret pe_bl)))), ?_⟩
  refine ⟨.ref a, rfl, a, ns, 5, rfl, hS, hl, by decide, by decide, fun H1 h c d1 x1 _ _ => ?_⟩
  refine q_forR1 (n := 30) (ea_cons ev_c ea_nil) (by decide) (fun i σ H' => (∃ y2 y3 y4 : Option V, σ = [some (.ref a), some (.ref h), y2, y3, y4]) ∧ Dr H' h c) (fun H2 x2 => ⟨⟨_, _, _, rfl⟩, d1.mono x2⟩) (fun i σ H2 hi p => ?_) (fun σ H2 p => ?_)
  · obtain ⟨⟨y2, y3, y4, rfl⟩, d2⟩ := p
    -- claims, marks
    refine ⟨.ref h, rfl, h, c, rfl, d2, fun H3 vc cs d3 m3 t3 ok3 => ?_⟩
    refine ⟨.ref h, rfl, h, c, rfl, d3, fun H4 vm m d4 m4 t4 ok4 => ?_⟩
    refine g_nil ⟨vc, vm, rfl, ?_⟩
    have t3' := t3.mono m4.ts
    -- what is told, what is due
    have eq := fit_eq ok3 ok4
    dsimp only
    refine s_when (b := !true) (et_not (et_B ?_)) (fun z => nomatch z) (fun _ H5 x5 => ⟨⟨_, _, _, rfl⟩, d4.mono x5⟩)
    refine ev_alike (n := 4) (x := maxV (bestL cs m)) (y := optV (lawFit cs m)) (d := match lawFit cs m with | none => .none | some k => .int k) (ea_cons ?_ (ea_cons ?_ ea_nil)) (fun H5 x5 => ?_) ?_
    · refine ev_pv (ea_cons (ev_var rfl) (ea_cons (ev_var rfl) ea_nil)) fun H5 x5 => ?_
      exact ⟨vc, vm, cs, m, rfl, t3'.mono (Same.ts x5), t4.mono (Same.ts x5), ok3, ok4, rfl⟩
    · refine ev_pv (ea_cons (ev_var rfl) (ea_cons (ev_var rfl) ea_nil)) fun H5 x5 => ?_
      exact ⟨vc, vm, cs, m, rfl, t3'.mono (Same.ts x5), t4.mono (Same.ts x5), ok3, ok4, rfl⟩
    · rw [eq]
      cases lawFit cs m with
      | none => exact ⟨.non, .non⟩
      | some k => exact ⟨.int k, .int k⟩
    · cases lawFit cs m with
      | none => exact .non _
      | some k => exact .int _ k
  · exact s_ret ev_c fun H3 _ => q H3


end
end Dm
namespace Dm
open PySem PySem.Spec PyProof.Rows L2 Evl
theorem all_mk {l : PySem.W.OpenLaw} {w : World} {K : PySem.W.Frag} {h : Heap} {mg : Str → Option Value} {fa : Addr} (X : K.In h) (G : h.Ns mainGlobals mg) (hfa : mg "law" = some (.ref fa))
    {od0 an0 : Option Addr} {sl0 : Array (Option Value)} {oc0 kV0 dc0 pm0 cd0 ct0 : Value} {f0 : Addr}
    (a0 : PySem.W.nsIn K mainGlobals "is_number" = some (some (.ref f0))) (l0 : K.lookup f0 = some ⟨oc0, od0, .func (PySem.W.fnOf "is_number" "is_number" (defArgs s_is_number) (defBody s_is_number) (defScope s_is_number) .none kV0 dc0 pm0 an0 cd0 ct0), sl0⟩) (c0 : PySem.W.codeIn K cd0 "is_number" = true) (k0 : PySem.W.keepIn K (.ref f0) = true)
    {od1 an1 : Option Addr} {sl1 : Array (Option Value)} {oc1 kV1 dc1 pm1 cd1 ct1 : Value} {f1 : Addr}
    (a1 : PySem.W.nsIn K mainGlobals "is_three" = some (some (.ref f1))) (l1 : K.lookup f1 = some ⟨oc1, od1, .func (PySem.W.fnOf "is_three" "is_three" (defArgs s_is_three) (defBody s_is_three) (defScope s_is_three) .none kV1 dc1 pm1 an1 cd1 ct1), sl1⟩) (c1 : PySem.W.codeIn K cd1 "is_three" = true) (k1 : PySem.W.keepIn K (.ref f1) = true)
    {od2 an2 : Option Addr} {sl2 : Array (Option Value)} {oc2 kV2 dc2 pm2 cd2 ct2 : Value} {f2 : Addr}
    (a2 : PySem.W.nsIn K mainGlobals "is_marks" = some (some (.ref f2))) (l2 : K.lookup f2 = some ⟨oc2, od2, .func (PySem.W.fnOf "is_marks" "is_marks" (defArgs s_is_marks) (defBody s_is_marks) (defScope s_is_marks) .none kV2 dc2 pm2 an2 cd2 ct2), sl2⟩) (c2 : PySem.W.codeIn K cd2 "is_marks" = true) (k2 : PySem.W.keepIn K (.ref f2) = true)
    {od3 an3 : Option Addr} {sl3 : Array (Option Value)} {oc3 kV3 dc3 pm3 cd3 ct3 : Value} {f3 : Addr}
    (a3 : PySem.W.nsIn K mainGlobals "is_wanted" = some (some (.ref f3))) (l3 : K.lookup f3 = some ⟨oc3, od3, .func (PySem.W.fnOf "is_wanted" "is_wanted" (defArgs s_is_wanted) (defBody s_is_wanted) (defScope s_is_wanted) .none kV3 dc3 pm3 an3 cd3 ct3), sl3⟩) (c3 : PySem.W.codeIn K cd3 "is_wanted" = true) (k3 : PySem.W.keepIn K (.ref f3) = true)
    {od4 an4 : Option Addr} {sl4 : Array (Option Value)} {oc4 kV4 dc4 pm4 cd4 ct4 : Value} {f4 : Addr}
    (a4 : PySem.W.nsIn K mainGlobals "is_claim" = some (some (.ref f4))) (l4 : K.lookup f4 = some ⟨oc4, od4, .func (PySem.W.fnOf "is_claim" "is_claim" (defArgs s_is_claim) (defBody s_is_claim) (defScope s_is_claim) .none kV4 dc4 pm4 an4 cd4 ct4), sl4⟩) (c4 : PySem.W.codeIn K cd4 "is_claim" = true) (k4 : PySem.W.keepIn K (.ref f4) = true)
    {od5 an5 : Option Addr} {sl5 : Array (Option Value)} {oc5 kV5 dc5 pm5 cd5 ct5 : Value} {f5 : Addr}
    (a5 : PySem.W.nsIn K mainGlobals "check_marks" = some (some (.ref f5))) (l5 : K.lookup f5 = some ⟨oc5, od5, .func (PySem.W.fnOf "check_marks" "check_marks" (defArgs s_check_marks) (defBody s_check_marks) (defScope s_check_marks) .none kV5 dc5 pm5 an5 cd5 ct5), sl5⟩) (c5 : PySem.W.codeIn K cd5 "check_marks" = true) (k5 : PySem.W.keepIn K (.ref f5) = true)
    {od6 an6 : Option Addr} {sl6 : Array (Option Value)} {oc6 kV6 dc6 pm6 cd6 ct6 : Value} {f6 : Addr}
    (a6 : PySem.W.nsIn K mainGlobals "check_claims" = some (some (.ref f6))) (l6 : K.lookup f6 = some ⟨oc6, od6, .func (PySem.W.fnOf "check_claims" "check_claims" (defArgs s_check_claims) (defBody s_check_claims) (defScope s_check_claims) .none kV6 dc6 pm6 an6 cd6 ct6), sl6⟩) (c6 : PySem.W.codeIn K cd6 "check_claims" = true) (k6 : PySem.W.keepIn K (.ref f6) = true)
    {od7 an7 : Option Addr} {sl7 : Array (Option Value)} {oc7 kV7 dc7 pm7 cd7 ct7 : Value} {f7 : Addr}
    (a7 : PySem.W.nsIn K mainGlobals "fits" = some (some (.ref f7))) (l7 : K.lookup f7 = some ⟨oc7, od7, .func (PySem.W.fnOf "fits" "fits" (defArgs s_fits) (defBody s_fits) (defScope s_fits) .none kV7 dc7 pm7 an7 cd7 ct7), sl7⟩) (c7 : PySem.W.codeIn K cd7 "fits" = true) (k7 : PySem.W.keepIn K (.ref f7) = true)
    {od8 an8 : Option Addr} {sl8 : Array (Option Value)} {oc8 kV8 dc8 pm8 cd8 ct8 : Value} {f8 : Addr}
    (a8 : PySem.W.nsIn K mainGlobals "size" = some (some (.ref f8))) (l8 : K.lookup f8 = some ⟨oc8, od8, .func (PySem.W.fnOf "size" "size" (defArgs s_size) (defBody s_size) (defScope s_size) .none kV8 dc8 pm8 an8 cd8 ct8), sl8⟩) (c8 : PySem.W.codeIn K cd8 "size" = true) (k8 : PySem.W.keepIn K (.ref f8) = true)
    {od9 an9 : Option Addr} {sl9 : Array (Option Value)} {oc9 kV9 dc9 pm9 cd9 ct9 : Value} {f9 : Addr}
    (a9 : PySem.W.nsIn K mainGlobals "best_fit" = some (some (.ref f9))) (l9 : K.lookup f9 = some ⟨oc9, od9, .func (PySem.W.fnOf "best_fit" "best_fit" (defArgs s_best_fit) (defBody s_best_fit) (defScope s_best_fit) .none kV9 dc9 pm9 an9 cd9 ct9), sl9⟩) (c9 : PySem.W.codeIn K cd9 "best_fit" = true) (k9 : PySem.W.keepIn K (.ref f9) = true)
    {od10 an10 : Option Addr} {sl10 : Array (Option Value)} {oc10 kV10 dc10 pm10 cd10 ct10 : Value} {f10 : Addr}
    (a10 : PySem.W.nsIn K mainGlobals "fit" = some (some (.ref f10))) (l10 : K.lookup f10 = some ⟨oc10, od10, .func (PySem.W.fnOf "fit" "fit" (defArgs s_fit) (defBody s_fit) (defScope s_fit) .none kV10 dc10 pm10 an10 cd10 ct10), sl10⟩) (c10 : PySem.W.codeIn K cd10 "fit" = true) (k10 : PySem.W.keepIn K (.ref f10) = true)
    {od11 an11 : Option Addr} {sl11 : Array (Option Value)} {oc11 kV11 dc11 pm11 cd11 ct11 : Value} {f11 : Addr}
    (a11 : PySem.W.nsIn K mainGlobals "_law_mix" = some (some (.ref f11))) (l11 : K.lookup f11 = some ⟨oc11, od11, .func (PySem.W.fnOf "_law_mix" "_law_mix" (defArgs s__law_mix) (defBody s__law_mix) (defScope s__law_mix) .none kV11 dc11 pm11 an11 cd11 ct11), sl11⟩) (c11 : PySem.W.codeIn K cd11 "_law_mix" = true) (k11 : PySem.W.keepIn K (.ref f11) = true)
    {od12 an12 : Option Addr} {sl12 : Array (Option Value)} {oc12 kV12 dc12 pm12 cd12 ct12 : Value} {f12 : Addr}
    (a12 : PySem.W.nsIn K mainGlobals "_law_next" = some (some (.ref f12))) (l12 : K.lookup f12 = some ⟨oc12, od12, .func (PySem.W.fnOf "_law_next" "_law_next" (defArgs s__law_next) (defBody s__law_next) (defScope s__law_next) .none kV12 dc12 pm12 an12 cd12 ct12), sl12⟩) (c12 : PySem.W.codeIn K cd12 "_law_next" = true) (k12 : PySem.W.keepIn K (.ref f12) = true)
    {od13 an13 : Option Addr} {sl13 : Array (Option Value)} {oc13 kV13 dc13 pm13 cd13 ct13 : Value} {f13 : Addr}
    (a13 : PySem.W.nsIn K mainGlobals "_law_alike" = some (some (.ref f13))) (l13 : K.lookup f13 = some ⟨oc13, od13, .func (PySem.W.fnOf "_law_alike" "_law_alike" (defArgs s__law_alike) (defBody s__law_alike) (defScope s__law_alike) .none kV13 dc13 pm13 an13 cd13 ct13), sl13⟩) (c13 : PySem.W.codeIn K cd13 "_law_alike" = true) (k13 : PySem.W.keepIn K (.ref f13) = true)
    {od14 an14 : Option Addr} {sl14 : Array (Option Value)} {oc14 kV14 dc14 pm14 cd14 ct14 : Value} {f14 : Addr}
    (a14 : PySem.W.nsIn K mainGlobals "_law_marks" = some (some (.ref f14))) (l14 : K.lookup f14 = some ⟨oc14, od14, .func (PySem.W.fnOf "_law_marks" "_law_marks" (defArgs s__law_marks) (defBody s__law_marks) (defScope s__law_marks) .none kV14 dc14 pm14 an14 cd14 ct14), sl14⟩) (c14 : PySem.W.codeIn K cd14 "_law_marks" = true) (k14 : PySem.W.keepIn K (.ref f14) = true)
    {od15 an15 : Option Addr} {sl15 : Array (Option Value)} {oc15 kV15 dc15 pm15 cd15 ct15 : Value} {f15 : Addr}
    (a15 : PySem.W.nsIn K mainGlobals "_law_claims" = some (some (.ref f15))) (l15 : K.lookup f15 = some ⟨oc15, od15, .func (PySem.W.fnOf "_law_claims" "_law_claims" (defArgs s__law_claims) (defBody s__law_claims) (defScope s__law_claims) .none kV15 dc15 pm15 an15 cd15 ct15), sl15⟩) (c15 : PySem.W.codeIn K cd15 "_law_claims" = true) (k15 : PySem.W.keepIn K (.ref f15) = true)
    {od16 an16 : Option Addr} {sl16 : Array (Option Value)} {oc16 kV16 dc16 pm16 cd16 ct16 : Value} {f16 : Addr}
    (a16 : PySem.W.nsIn K mainGlobals "_law_fit" = some (some (.ref f16))) (l16 : K.lookup f16 = some ⟨oc16, od16, .func (PySem.W.fnOf "_law_fit" "_law_fit" (defArgs s__law_fit) (defBody s__law_fit) (defScope s__law_fit) .none kV16 dc16 pm16 an16 cd16 ct16), sl16⟩) (c16 : PySem.W.codeIn K cd16 "_law_fit" = true) (k16 : PySem.W.keepIn K (.ref f16) = true)
    {od17 an17 : Option Addr} {sl17 : Array (Option Value)} {oc17 kV17 dc17 pm17 cd17 ct17 : Value} {f17 : Addr}
    (a17 : PySem.W.nsIn K mainGlobals "law" = some (some (.ref f17))) (l17 : K.lookup f17 = some ⟨oc17, od17, .func (PySem.W.fnOf "law" "law" (defArgs s_law) (defBody s_law) (defScope s_law) .none kV17 dc17 pm17 an17 cd17 ct17), sl17⟩) (c17 : PySem.W.codeIn K cd17 "law" = true) (k17 : PySem.W.keepIn K (.ref f17) = true)
    {t_ANY : Tok} (c_ANY : PySem.W.nsIn K mainGlobals "ANY" = some (some (.int (-1) t_ANY)))
    {t_MOST_CLAIMS : Tok} (c_MOST_CLAIMS : PySem.W.nsIn K mainGlobals "MOST_CLAIMS" = some (some (.int (6) t_MOST_CLAIMS)))
    {t_MOST_MARK : Tok} (c_MOST_MARK : PySem.W.nsIn K mainGlobals "MOST_MARK" = some (some (.int (9) t_MOST_MARK)))
    {t_MOST_WORTH : Tok} (c_MOST_WORTH : PySem.W.nsIn K mainGlobals "MOST_WORTH" = some (some (.int (9) t_MOST_WORTH)))
    (z_all : PySem.W.nsIn K mainGlobals "all" = some none)
    (z_bool : PySem.W.nsIn K mainGlobals "bool" = some none)
    (z_enumerate : PySem.W.nsIn K mainGlobals "enumerate" = some none)
    (z_int : PySem.W.nsIn K mainGlobals "int" = some none)
    (z_isinstance : PySem.W.nsIn K mainGlobals "isinstance" = some none)
    (z_len : PySem.W.nsIn K mainGlobals "len" = some none)
    (z_list : PySem.W.nsIn K mainGlobals "list" = some none)
    (z_max : PySem.W.nsIn K mainGlobals "max" = some none)
    (z_range : PySem.W.nsIn K mainGlobals "range" = some none)
    (z_str : PySem.W.nsIn K mainGlobals "str" = some none)
    (z_tuple : PySem.W.nsIn K mainGlobals "tuple" = some none)
    (z_zip : PySem.W.nsIn K mainGlobals "zip" = some none) :
    ∃ fd : FuncData, (∀ (s : Shared) (v : Value), BindsTo s fd ⟨[v], []⟩ [("_law_script", v)]) ∧ ∀ base : Heap, K.In base → base.Ns mainGlobals mg → FnOk l.prog w K mg base CX0 9 fa fd ["_law_script"] (spLaw K) := by
  have e := hfa.symm.trans (PySem.W.mg_of X G a17)
  cases e
  let T : Txt K mg := ⟨def_mk X G a0 l0 c0 k0 (fun _ _ _ _ _ _ us hl => match us, hl with | [_, _, _], _ => rfl),
    def_mk X G a1 l1 c1 k1 (fun _ _ _ _ _ _ us hl => match us, hl with | [_, _], _ => rfl),
    def_mk X G a2 l2 c2 k2 (fun _ _ _ _ _ _ us hl => match us, hl with | [_], _ => rfl),
    def_mk X G a3 l3 c3 k3 (fun _ _ _ _ _ _ us hl => match us, hl with | [_], _ => rfl),
    def_mk X G a4 l4 c4 k4 (fun _ _ _ _ _ _ us hl => match us, hl with | [_], _ => rfl),
    def_mk X G a5 l5 c5 k5 (fun _ _ _ _ _ _ us hl => match us, hl with | [_], _ => rfl),
    def_mk X G a6 l6 c6 k6 (fun _ _ _ _ _ _ us hl => match us, hl with | [_], _ => rfl),
    def_mk X G a7 l7 c7 k7 (fun _ _ _ _ _ _ us hl => match us, hl with | [_, _], _ => rfl),
    def_mk X G a8 l8 c8 k8 (fun _ _ _ _ _ _ us hl => match us, hl with | [_], _ => rfl),
    def_mk X G a9 l9 c9 k9 (fun _ _ _ _ _ _ us hl => match us, hl with | [_, _], _ => rfl),
    def_mk X G a10 l10 c10 k10 (fun _ _ _ _ _ _ us hl => match us, hl with | [_, _], _ => rfl),
    def_mk X G a11 l11 c11 k11 (fun _ _ _ _ _ _ us hl => match us, hl with | [_, _], _ => rfl),
    def_mk X G a12 l12 c12 k12 (fun _ _ _ _ _ _ us hl => match us, hl with | [_, _], _ => rfl),
    def_mk X G a13 l13 c13 k13 (fun _ _ _ _ _ _ us hl => match us, hl with | [_, _], _ => rfl),
    def_mk X G a14 l14 c14 k14 (fun _ _ _ _ _ _ us hl => match us, hl with | [_], _ => rfl),
    def_mk X G a15 l15 c15 k15 (fun _ _ _ _ _ _ us hl => match us, hl with | [_], _ => rfl),
    def_mk X G a16 l16 c16 k16 (fun _ _ _ _ _ _ us hl => match us, hl with | [_, _], _ => rfl),
    def_mk X G a17 l17 c17 k17 (fun _ _ _ _ _ _ us hl => match us, hl with | [_], _ => rfl),
    t_ANY,
    PySem.W.mg_of X G c_ANY,
    t_MOST_CLAIMS,
    PySem.W.mg_of X G c_MOST_CLAIMS,
    t_MOST_MARK,
    PySem.W.mg_of X G c_MOST_MARK,
    t_MOST_WORTH,
    PySem.W.mg_of X G c_MOST_WORTH,
    PySem.W.mg_none_of X G z_all,
    PySem.W.mg_none_of X G z_bool,
    PySem.W.mg_none_of X G z_enumerate,
    PySem.W.mg_none_of X G z_int,
    PySem.W.mg_none_of X G z_isinstance,
    PySem.W.mg_none_of X G z_len,
    PySem.W.mg_none_of X G z_list,
    PySem.W.mg_none_of X G z_max,
    PySem.W.mg_none_of X G z_range,
    PySem.W.mg_none_of X G z_str,
    PySem.W.mg_none_of X G z_tuple,
    PySem.W.mg_none_of X G z_zip⟩
  exact ⟨PySem.W.fnOf "law" "law" (defArgs s_law) (defBody s_law) (defScope s_law) .none kV17 dc17 pm17 an17 cd17 ct17, fun s v => .of_eq rfl, fun base _ _ => ok_law T⟩
end Dm
open PySem PySem.W PyProof.Rows
theorem PySem.Challenge.cw_drivermatch_k02_fits_holds : PySem.Challenge.rw_drivermatch_k02_fits.Holds := by
  w_on; o_law; k_head; (case hw => w_witness2)
  k_fill
  refine L2.walk_of (l := PySem.Challenge.rw_drivermatch_k02_fits) (n := 63) (k := 9) (x := "_law_script") (CX := fun _ => L2.CX0) (sp := fun w => Dm.spLaw _) rfl (by decide) rfl ⟨rfl, by decide, by decide⟩ (fun w h Y => PySem.W.kIn_of Y) ?F (fun _ _ a ns hl _ hS => ⟨a, ns, rfl, hS, hl, fun _ => rfl⟩) (fun _ _ _ _ _ h => h)
  case F =>
    intro w mg fa h KX G hmg
    refine' Dm.all_mk KX G hmg ?a0 ?l0 ?c0 ?k0 ?a1 ?l1 ?c1 ?k1 ?a2 ?l2 ?c2 ?k2 ?a3 ?l3 ?c3 ?k3 ?a4 ?l4 ?c4 ?k4 ?a5 ?l5 ?c5 ?k5 ?a6 ?l6 ?c6 ?k6 ?a7 ?l7 ?c7 ?k7 ?a8 ?l8 ?c8 ?k8 ?a9 ?l9 ?c9 ?k9 ?a10 ?l10 ?c10 ?k10 ?a11 ?l11 ?c11 ?k11 ?a12 ?l12 ?c12 ?k12 ?a13 ?l13 ?c13 ?k13 ?a14 ?l14 ?c14 ?k14 ?a15 ?l15 ?c15 ?k15 ?a16 ?l16 ?c16 ?k16 ?a17 ?l17 ?c17 ?k17 ?c_ANY ?c_MOST_CLAIMS ?c_MOST_MARK ?c_MOST_WORTH ?z_all ?z_bool ?z_enumerate ?z_int ?z_isinstance ?z_len ?z_list ?z_max ?z_range ?z_str ?z_tuple ?z_zip
    (case a0 => k_is)
    (case l0 => k_is)
    (case c0 => k_is)
    (case k0 => k_is)
    (case a1 => k_is)
    (case l1 => k_is)
    (case c1 => k_is)
    (case k1 => k_is)
    (case a2 => k_is)
    (case l2 => k_is)
    (case c2 => k_is)
    (case k2 => k_is)
    (case a3 => k_is)
    (case l3 => k_is)
    (case c3 => k_is)
    (case k3 => k_is)
    (case a4 => k_is)
    (case l4 => k_is)
    (case c4 => k_is)
    (case k4 => k_is)
    (case a5 => k_is)
    (case l5 => k_is)
    (case c5 => k_is)
    (case k5 => k_is)
    (case a6 => k_is)
    (case l6 => k_is)
    (case c6 => k_is)
    (case k6 => k_is)
    (case a7 => k_is)
    (case l7 => k_is)
    (case c7 => k_is)
    (case k7 => k_is)
    (case a8 => k_is)
    (case l8 => k_is)
    (case c8 => k_is)
    (case k8 => k_is)
    (case a9 => k_is)
    (case l9 => k_is)
    (case c9 => k_is)
    (case k9 => k_is)
    (case a10 => k_is)
    (case l10 => k_is)
    (case c10 => k_is)
    (case k10 => k_is)
    (case a11 => k_is)
    (case l11 => k_is)
    (case c11 => k_is)
    (case k11 => k_is)
    (case a12 => k_is)
    (case l12 => k_is)
    (case c12 => k_is)
    (case k12 => k_is)
    (case a13 => k_is)
    (case l13 => k_is)
    (case c13 => k_is)
    (case k13 => k_is)
    (case a14 => k_is)
    (case l14 => k_is)
    (case c14 => k_is)
    (case k14 => k_is)
    (case a15 => k_is)
    (case l15 => k_is)
    (case c15 => k_is)
    (case k15 => k_is)
    (case a16 => k_is)
    (case l16 => k_is)
    (case c16 => k_is)
    (case k16 => k_is)
    (case a17 => k_is)
    (case l17 => k_is)
    (case c17 => k_is)
    (case k17 => k_is)
    (case c_ANY => k_is)
    (case c_MOST_CLAIMS => k_is)
    (case c_MOST_MARK => k_is)
    (case c_MOST_WORTH => k_is)
    (case z_all => k_is)
    (case z_bool => k_is)
    (case z_enumerate => k_is)
    (case z_int => k_is)
    (case z_isinstance => k_is)
    (case z_len => k_is)
    (case z_list => k_is)
    (case z_max => k_is)
    (case z_range => k_is)
    (case z_str => k_is)
    (case z_tuple => k_is)
    (case z_zip => k_is)



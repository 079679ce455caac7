import PyProof.Rows.All
import Wide.All
import OpenK.AllK
import Wide.FinOn
import KE.KStateDown
import KE.KNestM
import HandS.ForMost
import HandS.TupAny
import HandS.Strs
import HandS.Walk
import HandS.Deep
import HandS.Lambda
import HandS.AnyAll
import KE.GoesEnum
import HandS.SetFor
import HandS.IsInst
import HandS.Exc
import HandS.TryOnly
import HandS.ExcOwn
import HandS.WordsExc
import HandS.Conv
import PyProof.ListStr
import KE.KDflt
import HandS.ExcInit
import HandS.ExcIs
import HandS.ExcField
import HandS.ClsMeth
import HandS.Property
import HandS.Star
import HandS.Style
import HandS.TupMul
import HandS.FStr
import HandS.HeadNt
import HandS.HeadHook4
import HandS.RepeatKit
import KE.SortData
import HandS.GenList
import HandS.GenYield
import KE.KTryMore
import PyProof.Rows.CatchTuple
import HandS.ExcInitHot
import HandS.Words
import HandS.ExcCtx
import HandS.SuiteRaise
import HandS.RaiseFrom
import HandS.Comp
import HandS.RevRange
import HandS.Flow
import HandS.Head3
import HandS.HeadWalk
import HandS.HeadEnd
import HandS.Head0
import HandS.Head1
import HandS.Head2
import PySem.Challenge.RW_flagsteps_k53_clauses_learned
set_option Elab.async false
set_option linter.all false
set_option maxRecDepth 100000
set_option maxHeartbeats 2000000
namespace FS
open PySem PySem.Spec PyProof.Rows L2
/-- at a: a plain tuple of xs -/
def NT (H : Hp) (a : Addr) (xs : List V) : Prop := ∃ o : Obj, H a = some (.frz o (.tup xs)) ∧ o.cls = .type "tuple" ∧ o.dict = none
theorem NT.seq {K : PySem.W.Frag} {H : Hp} {a : Addr} {xs : List V} (h : NT H a xs) : SqT K H a xs := by
  obtain ⟨o, e, _⟩ := h
  exact .inl (.inr ⟨o, e⟩)
section
variable {X : Cx}
/-- tuple(list) -/
theorem call_tupleD : CallR X (.type "tuple") (fun xs H Q => ∃ p ys, xs = [.ref p] ∧ SqL X.K H p ys ∧ ∀ l o, H l = none → o.cls = .type "tuple" → o.dict = none → Q (.ref l) (upd H l (.frz o (.tup ys)))) := by
  intro pins s σ H xs us Q I r ⟨p, ys, ev, hq, q⟩
  subst ev
  obtain ⟨u, eu, rx⟩ := vals1 r
  subst eu
  cases rx
  obtain ⟨its, r', pl, hz⟩ := I.list hq
  have hlen := r'.length
  refine call_tuple_list pl.isList (fun h' kp => ?_) (by simp only [List.size_toArray] <;> omega)
  have I1 : Inv X pins σ H { s with heap := h' } := I.kept (t' := s.toks) kp
  have new : ObjOk X.prog X.w (upd H h'.objs.size (.frz ({ cls := .type "tuple", data := .seq its.toArray } : Obj) (.tup ys))) (h'.push { cls := .type "tuple", data := .seq its.toArray }) h'.objs.size (.frz ({ cls := .type "tuple", data := .seq its.toArray } : Obj) (.tup ys)) :=
    ⟨Heap.get?_push_size _ rfl, hz, its, r', IsTup.new _ _⟩
  have I2 := I1.laid (t' := s.toks) (fun b o e => Heap.get?_push_of_some _ e) (Nat.le_refl _) new
  exact ⟨.ref h'.objs.size, _, I2, rfl, q _ _ (I1.hok.fresh (Nat.le_refl _)) rfl rfl⟩
/-- t[lo:hi] of such a one -/
def rSlD : V → Option Int → Option Int → Hp → VK → Prop := fun x lo hi H Q => ∃ a xs, x = .ref a ∧ NT H a xs ∧
  (cutV xs lo hi = xs → Q (.ref a) H) ∧ (∀ p o, H p = none → o.cls = .type "tuple" → o.dict = none → Q (.ref p) (upd H p (.frz o (.tup (cutV xs lo hi)))))
theorem sl_tupD : SlR X rSlD := by
  intro pins s σ H x v vl vu lo hi sl Q I rx hs pl pu ⟨a, xs, ev, hx, q1, q2⟩
  subst ev
  cases rx
  obtain ⟨its, r, ht, hz⟩ := I.tuple (hx.seq (K := X.K))
  have hlen : its.toArray.size = xs.length := by rw [List.size_toArray]; exact r.length.symm
  refine ⟨"tuple", _, PyProof.Rows.slot_tuple_getitem.lookup, ht.typeIs, ?_⟩
  by_cases hw : HT.sIx xs.length 0 lo = 0 ∧ HT.sIx xs.length xs.length hi = xs.length
  · refine getItem_tuple_whole ht hs pl pu (by rw [hlen]; exact hw) ⟨.ref a, H, I, rfl, q1 ?_⟩
    unfold cutV
    rw [hw.1, hw.2]
    simp
  · refine HT.getItem_tuple_cut ht hs pl pu (by rw [hlen]; exact hw) ?_ (by rw [hlen]; exact hz)
    rw [hlen]
    refine ⟨.ref s.heap.objs.size, _, I.laid (t' := s.toks) (o := .frz ({ cls := .type "tuple", data := .seq (List.take (HT.sIx xs.length xs.length hi - HT.sIx xs.length 0 lo) (List.drop (HT.sIx xs.length 0 lo) its.toArray.toList)).toArray } : Obj) (.tup (cutV xs lo hi))) (fun b ob q => Heap.get?_push_of_some _ q) (Nat.le_refl _) ?_, rfl, q2 _ _ (I.hok.fresh (Nat.le_refl _)) rfl rfl⟩
    exact ⟨Heap.get?_push_size _ rfl, Nat.le_trans (cutV_length xs lo hi) hz, _, (r.drop (HT.sIx xs.length 0 lo)).take (HT.sIx xs.length xs.length hi - HT.sIx xs.length 0 lo), IsTup.new _ _⟩
/-- t.m(e, ..) -/
def tTM (r : V → List V → Hp → VK → Prop) (to : TE) (t : TA) : TE := fun σ H Q => to σ H fun x H1 => (∃ a xs, x = .ref a ∧ NT H1 a xs) ∧ t σ H1 fun xs H2 => r x xs H2 Q
variable {o e : Expr} {es : List Expr} {to : TE} {t : TA} {name : Str} {apos cpos : Pos} {id : String} {r : V → List V → Hp → VK → Prop}
theorem pe_tm (pa : PlainAttrs "tuple") (slot : Slot "tuple" name id) (hty : typeOf (.builtin id) = pure (.type "method_descriptor")) (hm : MtR X id r) (ho : PE X o to) (ha : PA X (e :: es) t)
    (hbase : attributeBase o name X.env (eval o X.env) = eval o X.env := by rfl)
    (hfew : ((backTo cpos (starEach (e :: es) X.env)).all (fun x => !x.1) && (backToKw cpos (keywordEach [] X.env)).all (fun x => x.1.isSome)
      && decide ((e :: es).length + ([] : List Keyword).length + (if ([] : List Keyword).isEmpty then 0 else 1) < 30)) = true := by rfl)
    (hline : (apos.endLine == cpos.line) = true := by rfl) (hs : starEach (e :: es) X.env = (false, eval e X.env) :: starEach es X.env := by rfl) (hpl : (backTo cpos (starEach es X.env)).any (·.1) = false := by rfl) :
    PE X (.Call (.Attribute o name apos) (e :: es) [] cpos) (tTM r to t) := by
  refine ⟨fun pins s σ H Q I h => ?_⟩
  refine wpAny_Call_method_late hbase hfew hline rfl (thn (ho.run pins s σ H _ I h) fun v s1 ⟨x, H1, I1, r1, ⟨a, xs, ea, ob, hob, hc, hd⟩, q1⟩ => ?_)
  subst ea
  cases r1
  obtain ⟨hget, _⟩ := (show ObjOk X.prog X.w H1 s1.heap a (.frz ob (.tup xs)) from I1.hok a _ hob)
  refine ⟨"tuple", id, pa, slot, hty, ⟨ob, hget, hc⟩, fun b eb => ?_, ?_⟩
  · cases eb
    exact ⟨ob, hget, hd⟩
  · have hA := ha.run cpos pins s1 σ H1 _ I1 q1
    rw [hs] at hA ⊢
    refine Calls.callWith_builtin (by show (false || (backTo cpos (starEach es X.env)).any (·.1)) = false; rw [hpl] <;> rfl) (Calls.evalArgs_plain ?_)
    exact thn hA fun us s2 ⟨vs, H2, I2, r2, q2⟩ => hm pins s2 σ H2 (.ref a) vs _ us Q I2 rfl r2 q2
end
end FS
set_option maxHeartbeats 2000000
namespace FS
open PySem PySem.Spec PyProof.Rows L2 LamX GxR
/-- all but lists and tables -/
def KT (H H' : Hp) : Prop := ∀ b o, (∀ xs, o ≠ .lst xs) → (∀ ps, o ≠ .tbl ps) → H b = some o → H' b = some o
theorem KT.refl (H : Hp) : KT H H := fun _ _ _ _ e => e
theorem KT.trans {H H1 H2 : Hp} (a : KT H H1) (b : KT H1 H2) : KT H H2 := fun c o h1 h2 e => b c o h1 h2 (a c o h1 h2 e)
/-- all but r and tables -/
def Ev (r : Addr) (H H' : Hp) : Prop := ∀ b o, b ≠ r → (∀ ps, o ≠ .tbl ps) → H b = some o → H' b = some o
theorem Ev.refl {r : Addr} (H : Hp) : Ev r H H := fun _ _ _ _ e => e
theorem Ev.trans {r : Addr} {H H1 H2 : Hp} (a : Ev r H H1) (b : Ev r H1 H2) : Ev r H H2 := fun c o h1 h2 e => b c o h1 h2 (a c o h1 h2 e)
theorem ev_of {r : Addr} {H H' : Hp} (e : ExtN H H') : Ev r H H' := fun b o _ n h => e b o h n
theorem kt_of {H H' : Hp} (e : ExtN H H') : KT H H' := fun b o _ n h => e b o h n
theorem Ev.kt {r : Addr} {H H' : Hp} {xs : List V} (e : Ev r H H') (hr : H r = some (.lst xs)) : KT H H' := fun b o n1 n2 h => e b o (fun z => by rw [z, hr] at h; exact n1 xs (Option.some.inj h).symm) n2 h
/-- the tables: those of generator expressions, those of lambdas -/
def TBS (G : List Addr) (L : List (Addr × Str)) (H : Hp) : Prop := (∀ p ∈ G, TabG H p) ∧ ∀ p ∈ L, TabS H p.1 p.2
structure Apart (G : List Addr) (L : List (Addr × Str)) : Prop where
  gl : ∀ p ∈ L, p.1 ∉ G
  ll : ∀ p ∈ L, ∀ q ∈ L, p.1 = q.1 → p = q
section
variable {G : List Addr} {L : List (Addr × Str)} {H H' H1 H2 : Hp} {r : Addr}
theorem tabG_keep {P : Addr} (t : TabG H P) (k : ∀ o, H P = some o → H' P = some o) : TabG H' P := by
  obtain ⟨ps, e, ok⟩ := t
  exact ⟨ps, k _ e, ok⟩
theorem tabS_keep {P : Addr} {q : Str} (t : TabS H P q) (k : ∀ o, H P = some o → H' P = some o) (kc : ∀ c, H c = some (CodeO c q) → H' c = some (CodeO c q)) : TabS H' P q := by
  obtain ⟨ps, e, ok, cs⟩ := t
  refine ⟨ps, k _ e, ok, fun pos cv h => ?_⟩
  obtain ⟨c, e1, e2⟩ := cs pos cv h
  exact ⟨c, e1, kc c e2⟩
theorem code_lst {c : Addr} {q : Str} {xs : List V} : CodeO c q ≠ .lst xs := fun z => by
  have z' : HO.ext _ = HO.lst xs := z
  cases z'
/-- a call that changes nothing but tables -/
def Go (G : List Addr) (L : List (Addr × Str)) (H H' : Hp) : Prop := ExtN H H' ∧ (TBS G L H → TBS G L H')
theorem Go.refl (H : Hp) : Go G L H H := ⟨ExtN.refl H, id⟩
theorem Go.trans (a : Go G L H H1) (b : Go G L H1 H2) : Go G L H H2 := ⟨a.1.trans b.1, fun t => b.2 (a.2 t)⟩
theorem Go.same (e : ∀ b o, H b = some o → H' b = some o) : Go G L H H' :=
  ⟨fun b o h _ => e b o h, fun t => ⟨fun p hp => tabG_keep (t.1 p hp) (e p), fun p hp => tabS_keep (t.2 p hp) (e _) fun c => e c _⟩⟩
theorem Go.new {p : Addr} {o : HO} (n : H p = none) : Go G L H (upd H p o) := Go.same fun b u e => by rw [upd_ne (ne_of_none e n)]; exact e
theorem Go.tabbed {P : Addr} (A : Apart G L) (hP : P ∈ G) (t : TBS G L H) (e : Tabbed P H H') : Go G L H H' := by
  obtain ⟨ps, hps, _⟩ := t.1 P hP
  have k : ∀ b o, b ≠ P → H b = some o → H' b = some o := fun b o n h => (e.2 b n).trans h
  have nP : ∀ b o, (∀ q, o ≠ .tbl q) → H b = some o → b ≠ P := fun b o n h z => by
    rw [z, hps] at h
    exact n ps (Option.some.inj h).symm
  refine ⟨fun b o h n => k b o (nP b o n h) h, fun _ => ⟨fun p hp => ?_, fun p hp => tabS_keep (t.2 p hp) (fun o => k _ o fun z => A.gl p hp (z ▸ hP)) fun c hc => k _ _ (nP c _ codeO_ne hc) hc⟩⟩
  by_cases z : p = P
  · rw [z]
    exact e.1
  · exact tabG_keep (t.1 p hp) fun o => k p o z
theorem Go.but {p : Addr × Str} (A : Apart G L) (hp : p ∈ L) (t : TBS G L H) (e : ∀ b o, b ≠ p.1 → H b = some o → H' b = some o) (ts : TabS H' p.1 p.2) : Go G L H H' := by
  obtain ⟨ps, hps, _⟩ := t.2 p hp
  have nP : ∀ b o, (∀ q, o ≠ .tbl q) → H b = some o → b ≠ p.1 := fun b o n h z => by
    rw [z, hps] at h
    exact n ps (Option.some.inj h).symm
  refine ⟨fun b o h n => e b o (nP b o n h) h, fun _ => ⟨fun q hq => tabG_keep (t.1 q hq) fun o => e q o fun z => A.gl p hp (z ▸ hq), fun q hq => ?_⟩⟩
  by_cases z : q.1 = p.1
  · rw [A.ll q hq p hp z]
    exact ts
  · exact tabS_keep (t.2 q hq) (fun o => e _ o z) fun c hc => e _ _ (nP c _ codeO_ne hc) hc
/-- a call that changes the list at r, too -/
def GoR (G : List Addr) (L : List (Addr × Str)) (r : Addr) (H H' : Hp) : Prop := Ev r H H' ∧ (TBS G L H → TBS G L H')
theorem GoR.refl (H : Hp) : GoR G L r H H := ⟨Ev.refl H, id⟩
theorem GoR.trans (a : GoR G L r H H1) (b : GoR G L r H1 H2) : GoR G L r H H2 := ⟨a.1.trans b.1, fun t => b.2 (a.2 t)⟩
theorem Go.toR (a : Go G L H H') : GoR G L r H H' := ⟨ev_of a.1, a.2⟩
theorem GoR.upd {xs ys : List V} (hr : H r = some (.lst xs)) : GoR G L r H (upd H r (.lst ys)) := by
  have k : ∀ b o, b ≠ r → H b = some o → L2.upd H r (.lst ys) b = some o := fun b o n h => by rw [upd_ne n]; exact h
  have nr : ∀ b o, (∀ zs, o ≠ .lst zs) → H b = some o → b ≠ r := fun b o n h z => by
    rw [z, hr] at h
    exact n xs (Option.some.inj h).symm
  refine ⟨fun b o n _ h => k b o n h, fun t => ⟨fun p hp => ?_, fun p hp => ?_⟩⟩
  · obtain ⟨ps, e, _⟩ := t.1 p hp
    exact tabG_keep (t.1 p hp) fun o => k p o (nr p _ (fun zs q => by cases q) e)
  · obtain ⟨ps, e, _⟩ := t.2 p hp
    exact tabS_keep (t.2 p hp) (fun o => k _ o (nr _ _ (fun zs q => by cases q) e)) fun c hc => k _ _ (nr c _ (fun zs => code_lst) hc) hc
theorem Go.kt (a : Go G L H H') : KT H H' := kt_of a.1
theorem GoR.kt {xs : List V} (a : GoR G L r H H') (hr : H r = some (.lst xs)) : KT H H' := a.1.kt hr
theorem Go.lst {a : Addr} {xs : List V} (g : Go G L H H') (h : H a = some (.lst xs)) : H' a = some (.lst xs) := g.1 a _ h fun ps z => by cases z
theorem GoR.lst {a : Addr} {xs : List V} (g : GoR G L r H H') (n : a ≠ r) (h : H a = some (.lst xs)) : H' a = some (.lst xs) := g.1 a _ n (fun ps z => by cases z) h
theorem GoR.free {b : Addr} {o : HO} (g : GoR G L r H H') (n : b ≠ r) (hn : ∀ ps, o ≠ .tbl ps) (h : H b = some o) : H' b = some o := g.1 b o n hn h
end
def Tp (H : Hp) (a : Addr) (xs : List V) : Prop := H a = some (.tup xs) ∨ ∃ o, H a = some (.frz o (.tup xs))
theorem Tp.seq {K : PySem.W.Frag} {H : Hp} {a : Addr} {xs : List V} (h : Tp H a xs) : SqT K H a xs := .inl h
theorem Tp.kt {H H' : Hp} {a : Addr} {xs : List V} (h : Tp H a xs) (k : KT H H') : Tp H' a xs := by
  rcases h with h | ⟨o, h⟩
  · exact .inl (k a _ (fun _ z => by cases z) (fun _ z => by cases z) h)
  · exact .inr ⟨o, k a _ (fun _ z => by cases z) (fun _ z => by cases z) h⟩
theorem NT.tp {H : Hp} {a : Addr} {xs : List V} (h : NT H a xs) : Tp H a xs := by
  obtain ⟨o, e, _⟩ := h
  exact .inr ⟨o, e⟩
theorem NT.kt {H H' : Hp} {a : Addr} {xs : List V} (h : NT H a xs) (k : KT H H') : NT H' a xs := by
  obtain ⟨o, e, h1, h2⟩ := h
  exact ⟨o, k a _ (fun _ z => by cases z) (fun _ z => by cases z) e, h1, h2⟩
theorem NT.of {H : Hp} {p : Addr} {o : Obj} {xs : List V} (h1 : o.cls = .type "tuple") (h2 : o.dict = none) : NT (upd H p (.frz o (.tup xs))) p xs := ⟨o, upd_same, h1, h2⟩
mutual
inductive Im (H : Hp) : V → PyData → Prop
  | non : Im H .non .none
  | bl (b : Bool) : Im H (.bl b) (.bool b)
  | int (i : Int) : Im H (.int i) (.int i)
  | str (x : Str) : Im H (.str x) (.str x)
  | tup {a : Addr} {xs : List V} {ds : List PyData} : Tp H a xs → Ims H xs ds → Im H (.ref a) (.tuple ds)
inductive Ims (H : Hp) : List V → List PyData → Prop
  | nil : Ims H [] []
  | cons {v : V} {vs : List V} {d : PyData} {ds : List PyData} : Im H v d → Ims H vs ds → Ims H (v :: vs) (d :: ds)
end
mutual
theorem Im.kt {H H' : Hp} (k : KT H H') : ∀ {v : V} {d : PyData}, Im H v d → Im H' v d
  | _, _, .non => .non
  | _, _, .bl b => .bl b
  | _, _, .int i => .int i
  | _, _, .str x => .str x
  | _, _, .tup h t => .tup (h.kt k) (Ims.kt k t)
theorem Ims.kt {H H' : Hp} (k : KT H H') : ∀ {vs : List V} {ds : List PyData}, Ims H vs ds → Ims H' vs ds
  | _, _, .nil => .nil
  | _, _, .cons h t => .cons (Im.kt k h) (Ims.kt k t)
end
mutual
theorem Im.dp {K : PySem.W.Frag} {H : Hp} : ∀ {v : V} {d : PyData}, Im H v d → Dp K H v d
  | _, _, .non => .non
  | _, _, .bl b => .bl b
  | _, _, .int i => .int i
  | _, _, .str x => .str x
  | _, _, .tup h t => .tup h.seq (Ims.dp t)
theorem Ims.dp {K : PySem.W.Frag} {H : Hp} : ∀ {vs : List V} {ds : List PyData}, Ims H vs ds → DpAll K H vs ds
  | _, _, .nil => .nil
  | _, _, .cons h t => .cons (Im.dp h) (Ims.dp t)
end
theorem Ims.length {H : Hp} : ∀ {vs : List V} {ds : List PyData}, Ims H vs ds → vs.length = ds.length
  | _, _, .nil => rfl
  | _, _, .cons _ t => congrArg (· + 1) t.length
theorem Ims.get {H : Hp} : ∀ {vs : List V} {ds : List PyData} {i : Nat} {v : V}, Ims H vs ds → vs[i]? = some v → ∃ d, ds[i]? = some d ∧ Im H v d
  | _, _, _, _, .nil, e => by simp at e
  | _, _, 0, _, .cons h _, e => by simp at e; subst e; exact ⟨_, rfl, h⟩
  | _, _, i + 1, v, .cons _ t, e => by
    obtain ⟨d, h1, h2⟩ := Ims.get (i := i) (v := v) t (by simpa using e)
    exact ⟨d, by simpa using h1, h2⟩
theorem Ims.app {H : Hp} : ∀ {vs ws : List V} {ds es : List PyData}, Ims H vs ds → Ims H ws es → Ims H (vs ++ ws) (ds ++ es)
  | _, _, _, _, .nil, s => s
  | _, _, _, _, .cons h t, s => .cons h (t.app s)
theorem Ims.take {H : Hp} : ∀ {vs : List V} {ds : List PyData} (n : Nat), Ims H vs ds → Ims H (vs.take n) (ds.take n)
  | _, _, 0, _ => .nil
  | _, _, _ + 1, .nil => .nil
  | _, _, n + 1, .cons h t => .cons h (Ims.take n t)
theorem Ims.drop {H : Hp} : ∀ {vs : List V} {ds : List PyData} (n : Nat), Ims H vs ds → Ims H (vs.drop n) (ds.drop n)
  | _, _, 0, r => r
  | _, _, _ + 1, .nil => .nil
  | _, _, n + 1, .cons _ t => Ims.drop n t
theorem ims_strs {H : Hp} : ∀ xs : List Str, Ims H (xs.map V.str) (xs.map PyData.str)
  | [] => .nil
  | x :: xs => .cons (.str x) (ims_strs xs)
mutual
theorem Dp.go {K : PySem.W.Frag} {H H' : Hp} (e : ExtN H H') : ∀ {v : V} {d : PyData}, Dp K H v d → Dp K H' v d
  | _, _, .non => .non
  | _, _, .bl b => .bl b
  | _, _, .int i => .int i
  | _, _, .str x => .str x
  | _, _, .lst h t => .lst (by
      rcases h with (h | ⟨o, h⟩) | h
      · exact .inl (.inl (e _ _ h fun _ z => by cases z))
      · exact .inl (.inr ⟨o, e _ _ h fun _ z => by cases z⟩)
      · exact .inr h) (Dps.go e t)
  | _, _, .tup h t => .tup (by
      rcases h with (h | ⟨o, h⟩) | h
      · exact .inl (.inl (e _ _ h fun _ z => by cases z))
      · exact .inl (.inr ⟨o, e _ _ h fun _ z => by cases z⟩)
      · exact .inr h) (Dps.go e t)
theorem Dps.go {K : PySem.W.Frag} {H H' : Hp} (e : ExtN H H') : ∀ {vs : List V} {ds : List PyData}, DpAll K H vs ds → DpAll K H' vs ds
  | _, _, .nil => .nil
  | _, _, .cons h t => .cons (Dp.go e h) (Dps.go e t)
end
theorem Dps.length {K : PySem.W.Frag} {H : Hp} : ∀ {vs : List V} {ds : List PyData}, DpAll K H vs ds → vs.length = ds.length
  | _, _, .nil => rfl
  | _, _, .cons _ t => congrArg (· + 1) (Dps.length t)
theorem Dps.get {K : PySem.W.Frag} {H : Hp} : ∀ {vs : List V} {ds : List PyData} {i : Nat} {v : V}, DpAll K H vs ds → vs[i]? = some v → ∃ d, ds[i]? = some d ∧ Dp K H v d
  | _, _, _, _, .nil, e => by simp at e
  | _, _, 0, _, .cons h _, e => by simp at e; subst e; exact ⟨_, rfl, h⟩
  | _, _, i + 1, v, .cons _ t, e => by
    obtain ⟨d, h1, h2⟩ := Dps.get (i := i) (v := v) t (by simpa using e)
    exact ⟨d, by simpa using h1, h2⟩
theorem Dps.take {K : PySem.W.Frag} {H : Hp} : ∀ {vs : List V} {ds : List PyData} (n : Nat), DpAll K H vs ds → DpAll K H (vs.take n) (ds.take n)
  | _, _, 0, _ => .nil
  | _, _, _ + 1, .nil => .nil
  | _, _, n + 1, .cons h t => .cons h (Dps.take n t)
/-- small depth: what == and in ask of data -/
def lv : Nat → PyData → Bool
  | _, .none => true
  | _, .bool _ => true
  | _, .int _ => true
  | _, .str z => PyData.strOk z
  | n + 1, .tuple ds => ds.all (lv n)
  | n + 1, .list ds => ds.all (lv n)
  | _, _ => false
theorem lv_all {n : Nat} (ih : ∀ d, lv n d = true → d.canLay0 = true ∧ d.depth ≤ n) : ∀ ds : List PyData, ds.all (lv n) = true → PyData.canLayAll0 ds = true ∧ PyData.depthAll ds ≤ n
  | [], _ => ⟨rfl, Nat.zero_le _⟩
  | d :: ds, h => by
    rw [List.all_cons, Bool.and_eq_true] at h
    obtain ⟨a1, a2⟩ := ih d h.1
    obtain ⟨b1, b2⟩ := lv_all ih ds h.2
    refine ⟨by simp only [PyData.canLayAll0, a1, b1, Bool.and_self], ?_⟩
    simp only [PyData.depthAll]
    omega
theorem lv_ok : ∀ (n : Nat) (d : PyData), lv n d = true → d.canLay0 = true ∧ d.depth ≤ n
  | n, .none, _ => by cases n <;> exact ⟨by simp [PyData.canLay0], by simp [PyData.depth]⟩
  | n, .bool _, _ => by cases n <;> exact ⟨by simp [PyData.canLay0], by simp [PyData.depth]⟩
  | n, .int _, _ => by cases n <;> exact ⟨by simp [PyData.canLay0], by simp [PyData.depth]⟩
  | n, .str z, h => by cases n <;> exact ⟨by simp only [PyData.canLay0]; exact h, by simp [PyData.depth]⟩
  | n + 1, .tuple ds, h => by
    have h' : ds.all (lv n) = true := by simpa only [lv] using h
    obtain ⟨a, b⟩ := lv_all (lv_ok n) ds h'
    refine ⟨by simp only [PyData.canLay0]; exact a, ?_⟩
    simp only [PyData.depth]
    omega
  | n + 1, .list ds, h => by
    have h' : ds.all (lv n) = true := by simpa only [lv] using h
    obtain ⟨a, b⟩ := lv_all (lv_ok n) ds h'
    refine ⟨by simp only [PyData.canLay0]; exact a, ?_⟩
    simp only [PyData.depth]
    omega
  | 0, .tuple ds, h => by simp [lv] at h
  | 0, .list ds, h => by simp [lv] at h
  | 0, .dict ds, h => by simp [lv] at h
  | n + 1, .dict ds, h => by simp [lv] at h
theorem shaped_of {n : Nat} {d : PyData} (h : lv n d = true) (hn : n ≤ 64 := by decide) : SeqAt.shaped d = true := by
  obtain ⟨a, b⟩ := lv_ok n d h
  show (d.canLay0 && decide (d.depth ≤ 64)) = true
  rw [a, decide_eq_true (Nat.le_trans b hn)]
  rfl
end FS
set_option maxHeartbeats 2000000
namespace FS
open PySem PySem.Spec PyProof.Rows L2

theorem meets_enumT {v : Value} {o : Obj} {P : Heap → Prop} (B : Begins v o P) :
    Meets (Builtin.«enumerate.__new__» ⟨[.type "enumerate", v], []⟩) (fun _ R s => P s.heap ∧
      R (.ok (.ret (.ref (s.heap.push o).objs.size)))
        { s with heap := (s.heap.push o).push { cls := .type "enumerate", data := .fields #[.none, .bool false, .ref s.heap.objs.size, rawInt 0, .none, .none] } }) :=
  .of_wp fun prog w A R s hyp => by
    obtain ⟨hp, gs, dr, tk, os⟩ := s
    obtain ⟨hP, hyp⟩ := hyp
    have sub := sub_enumerate
    have step : ∀ {A' : Around} {E : Value → Shared → Prop} {Q : Value → Shared → Prop}, Q (.ref hp.objs.size) ⟨hp.push o, gs, dr, tk, os⟩ →
        wpAny (model prog w) A' (pyIter v) Q E ⟨hp, gs, dr, tk, os⟩ := fun z => B.iter prog w _ _ ⟨hp, gs, dr, tk, os⟩ _ hP z
    wp_walk using step
    refine wpAny_stack_any fun _ => wpAny_pure ?_
    split
    · rename_i cc _ _ _ _ _
      cases (cc == Value.type "enumerate") <;> (wp_walk using step; exact ⟨_, rfl, hyp⟩)
    · wp_walk using step; exact ⟨_, rfl, hyp⟩

section
variable {prog : Program} {w : World} {A : Around} {E : Value → Shared → Prop} {s : Shared}
theorem call_enumT {v : Value} {o : Obj} {P : Heap → Prop} {Q : Value → Shared → Prop} (B : Begins v o P) (hP : P s.heap)
    (hQ : ∀ h', IsEnum h' (s.heap.objs.size + 1) s.heap.objs.size 0 .none → h'.get? s.heap.objs.size = some o → (∀ b u, s.heap.get? b = some u → h'.get? b = some u) → Q (.ref (s.heap.objs.size + 1)) { s with heap := h' }) :
    wpAny (model prog w) A (call (.type "enumerate") [v]) Q E s := by
  refine callType_new F.called_enumerate (by decide) (F.typeCall_enumerate_1 _) (F.newCall_enumerate_1 _) (fun ob => F.args_object_init_2 ob _) F.entry_enumerate_new (meets_enumT B) ⟨hP, ?_⟩
  have sz : (s.heap.push o).objs.size = s.heap.objs.size + 1 := Heap.size_push ..
  show _ ∧ _
  rw [sz]
  have en : IsEnum ((s.heap.push o).push { cls := .type "enumerate", data := .fields #[.none, .bool false, .ref s.heap.objs.size, rawInt 0, .none, .none] }) (s.heap.objs.size + 1) s.heap.objs.size 0 .none := by
    have z := Heap.get?_push_size (s.heap.push o) (o := { cls := .type "enumerate", data := .fields #[.none, .bool false, .ref s.heap.objs.size, rawInt 0, .none, .none] }) rfl
    rw [sz] at z
    exact z
  exact ⟨⟨_, en, rfl⟩, hQ _ en (Heap.get?_push_of_some _ (Heap.get?_push_size _ B.free)) fun b u q => Heap.get?_push_of_some _ (Heap.get?_push_of_some _ q)⟩
end

/-- the tuple at a, each item in a new pair with its place -/
def IteT (K : PySem.W.Frag) (a : Addr) : It where
  go := fun i H => ∃ (xs : List V) (x : V), SqT K H a xs ∧ xs[i]? = some x
  yld := fun i H v H' => ∃ T x, v = .ref T ∧ H T = none ∧ H' = upd H T (.tup [.int (i : Nat), x]) ∧ ∀ xs, SqT K H a xs → xs[i]? = some x
  stop := fun i H => ∃ xs : List V, SqT K H a xs ∧ xs.length = i

theorem turn_enumT {P : Program} {w : World} {K : PySem.W.Frag} {elts : List Expr} {kk : Nat} {tp : Pos} (a e it : Addr) (ha : a ≠ it) (hae : e ≠ a) :
    Turn P w K (.Tuple elts kk tp) (IteT K a) [e, it] e (fun i h => (∃ old, IsEnum h e it ((i : Nat) : Int) old) ∧ h.IsTupleIter it a i ∧ e ≠ it) where
  mem := by simp
  obj := fun i h st b hb => by
    obtain ⟨⟨old, he⟩, ⟨o, ho, _, hd⟩, _⟩ := st
    have hb' : b = e ∨ b = it := by simpa using hb
    rcases hb' with z | z <;> subst z
    · exact ⟨_, he, fun v q => nomatch q⟩
    · exact ⟨o, ho, fun v q => by rw [hd] at q; cases q⟩
  keep := fun i h h' st k => by
    obtain ⟨⟨old, he⟩, hi, hne⟩ := st
    exact ⟨⟨old, k e (by simp) _ he⟩, hi.at fun o q => k it (by simp) o q, hne⟩
  item := by
    intro X hP hw hK hc i pins s σ H E I hf st hg
    subst hP hw hK
    obtain ⟨⟨old, he⟩, hit, hne⟩ := st
    obtain ⟨xs, x, hq, hx⟩ := hg
    obtain ⟨its, rv, p, hz⟩ := I.tuple hq
    obtain ⟨u, hu, ru⟩ := rv.get hx
    have hel : e < s.heap.objs.size := Heap.lt_size he
    have hil : it < s.heap.objs.size := by obtain ⟨_, q, _⟩ := hit; exact Heap.lt_size q
    have hlt : i < its.toArray.size := by
      have q := (List.getElem?_eq_some_iff.mp hu).1
      simpa using q
    have D := Draws.tuple (prog := X.prog) (w := X.w) (A := X.A.in1) (by exact I.ok.hd hc) it a ha its.toArray
    refine wpAny_pyNext_enum_itemD (n := its.toArray.size) D he ⟨hit, p⟩ hlt hne (by simpa using ⟨hne, hae⟩) fun x' h' tk hx' ho hst hT hsz hk => ?_
    have ex : x' = u := by
      have q : its.toArray[i]? = some u := by simpa using hu
      rw [hx'] at q
      exact Option.some.inj q
    subst ex
    refine ⟨_, rfl, wpAny_letOwnedTupleGo_enum (s := { s with heap := h', toks := tk + 1 }) ho fun h'' he' sb => ?_⟩
    have hT2 : h''.get? s.heap.objs.size = some { cls := .type "tuple", data := .seq #[.int i tk, x'] } := (sb.2 _ (Nat.ne_of_gt hel)).trans hT
    have new : ObjOk X.prog X.w (upd H s.heap.objs.size (.tup [.int (i : Nat), x])) h'' s.heap.objs.size (.tup [.int (i : Nat), x]) :=
      ⟨by show 2 ≤ sizeLine; decide, [.int i tk, x'], .cons ⟨_, rfl⟩ (.cons ru .nil), ⟨_, hT2, rfl, _, rfl⟩⟩
    have I1 : Inv X pins σ (upd H s.heap.objs.size (.tup [.int (i : Nat), x])) { s with heap := h'', toks := tk + 1 } :=
      I.turnedNew (ch := [e, it]) (fun b ob hb q => (sb.2 b (fun z => hb (by simp [z]))).trans (hk b ob (fun z => hb (by simp [z])) (fun z => hb (by simp [z])) q)) hf (Nat.le_refl _) new
    refine ⟨.ref s.heap.objs.size, _, I1, rfl, ⟨_, x, rfl, I.hok.fresh (Nat.le_refl _), rfl, fun ys hy => by rw [I.tuple_inj hy hq]; exact hx⟩, ⟨⟨x', ?_⟩, hst.1.at fun o q => (sb.2 it (Ne.symm hne)).trans q, hne⟩, fun b hb => ?_⟩
    · have e1 : ((i + 1 : Nat) : Int) = (i : Int) + 1 := by omega
      rw [e1]
      exact he'
    · have hb' : b = e ∨ b = it := by simpa using hb
      have hlt' : b < s.heap.objs.size := by rcases hb' with z | z <;> (rw [z]; assumption)
      rw [upd_ne (Nat.ne_of_lt hlt')]
      exact (hf b hb).1
  done := by
    intro X hP hw hK hc i pins s σ H E I hf st hg
    subst hP hw hK
    obtain ⟨⟨old, he⟩, hit, hne⟩ := st
    obtain ⟨xs, hq, hx⟩ := hg
    obtain ⟨its, rv, p, hz⟩ := I.tuple hq
    obtain ⟨f0, f1, f2, f3, f4, f5⟩ := hf it (by simp)
    have hn : its.toArray.size = i := by
      have q := rv.length
      simp
      omega
    have D := Draws.tuple (prog := X.prog) (w := X.w) (A := X.A.in1) (by exact I.ok.hd hc) it a ha its.toArray
    exact wpAny_pyNext_enum_endD (n := its.toArray.size) D he (by rw [hn]; exact ⟨hit, p⟩) fun h' eb => ⟨rfl, I.turned (t' := s.toks) (fun b o hb q => eb b o hb q) f0 f1 f3 f4 f5⟩
  self := fun A i s Q E st h => by
    obtain ⟨⟨_, he⟩, _⟩ := st
    exact wpAny_pyIter_enum he h
def iEnumT (K : PySem.W.Frag) (ta : TA) : TI := fun σ H R => ta σ H fun vs H1 => ∃ a xs, vs = [.ref a] ∧ SqT K H1 a xs ∧ R (IteT K a) H1
theorem pi_enumT {X : Cx} {e : Expr} {ta : TA} {p pos tpos : Pos} {elts : List Expr} {kk : Nat} (hg : Gl X "enumerate") (hm : X.mg "enumerate" = none) (ha : PA X [e] ta) (hs : starEach [e] X.env = [(false, eval e X.env)] := by rfl) :
    PI X (.Tuple elts kk tpos) (.Call (.Name "enumerate" p) [e] [] pos) (iEnumT X.K ta) := by
  refine ⟨fun pins s σ H R I h => ?_⟩
  refine Call_ (ld_blt I hg hm boot_enumerate (PyProof.Rows.callWith_type1 (thn (ha.run pos pins s σ H _ I h) fun us s1 ⟨vs, H1, I1, r1, a, xs, ev, hq, q⟩ => ?_) hs rfl))
  subst ev
  obtain ⟨u, rfl, ru⟩ := vals1 r1
  cases ru
  obtain ⟨its, rv, pt, hz⟩ := I1.tuple hq
  have hal : a < s1.heap.objs.size := pt.lt
  refine call_enumT (begins_tuple a its.toArray) pt fun h' he hit hk => wpAny_pyIter_enum he ?_
  have I2 : Inv X pins σ H1 { s1 with heap := h' } := I1.kept (t' := s1.toks) hk
  refine ⟨s1.heap.objs.size + 1, [s1.heap.objs.size + 1, s1.heap.objs.size], _, _, H1, rfl, I2, turn_enumT a (s1.heap.objs.size + 1) s1.heap.objs.size (Nat.ne_of_lt hal) (Nat.ne_of_gt (Nat.lt_succ_of_lt hal)), ⟨⟨.none, he⟩, ⟨_, hit, rfl, rfl⟩, Nat.succ_ne_self _⟩, fun b hb => ?_, q⟩
  have hb' : b = s1.heap.objs.size + 1 ∨ b = s1.heap.objs.size := by simpa using hb
  have hle : s1.heap.objs.size ≤ b := by
    rcases hb' with z | z <;> rw [z]
    · exact Nat.le_succ _
    · exact Nat.le_refl _
  exact I1.fpOk hle (I1.hok.fresh hle)
theorem walk_enumT {K : PySem.W.Frag} {a : Addr} {xs : List V} : Walk (IteT K a) xs.length (fun H => SqT K H a xs) (YPair (fun i => some (.int (i : Nat))) (fun i => xs[i]?)) := by
  refine ⟨fun i _ hi q => ⟨xs, xs[i], q, by simp [hi]⟩, fun _ q => ⟨xs, q, rfl⟩, fun i H v H' _ q y => ?_⟩
  obtain ⟨T, x, h1, h2, h3, h4⟩ := y
  exact ⟨T, .int (i : Nat), x, h1, h2, h3, rfl, h4 xs q⟩
end FS
set_option maxHeartbeats 2000000
namespace FS
open PySem PySem.Spec PyProof.Rows L2
section
variable {X : Cx}
def rInT (K : PySem.W.Frag) (f : Bool → Bool) : R2 := fun x y H Q => ∃ d ds, Dp K H x d ∧ Dp K H y (.tuple ds) ∧ SeqAt.shaped d = true ∧ SeqAt.shaped (.tuple ds) = true ∧ Q (.bl (f (ds.any fun z => PyData.eqv z d))) H
theorem op_inT (hu : X.A.units + 65 < cLine) : OpR X (compareOp .In) (rInT X.K id) := by
  intro pins s σ H x y v u Q I rx ry ⟨d, ds, hd, he, sd, se, q⟩
  obtain ⟨as, r1⟩ := Dp.reads I d x v hd rx
  obtain ⟨bs, r2⟩ := Dp.reads I (.tuple ds) y u he ry
  exact SeqAt.in_tuple_reads r2 r1 (SeqAt.canLay_of_shaped se) (SeqAt.canLay_of_shaped sd) (room_in_shaped sd hu) ⟨.bl _, H, I, rfl, q⟩
theorem op_notInT (hu : X.A.units + 65 < cLine) : OpR X (compareOp .NotIn) (rInT X.K not) := by
  intro pins s σ H x y v u Q I rx ry ⟨d, ds, hd, he, sd, se, q⟩
  obtain ⟨as, r1⟩ := Dp.reads I d x v hd rx
  obtain ⟨bs, r2⟩ := Dp.reads I (.tuple ds) y u he ry
  exact SeqAt.notIn_tuple_reads r2 r1 (SeqAt.canLay_of_shaped se) (SeqAt.canLay_of_shaped sd) (room_in_shaped sd hu) ⟨.bl _, H, I, rfl, q⟩
/-- l.count(b), a list of truth values -/
def rCntB (K : PySem.W.Frag) : V → List V → Hp → VK → Prop := fun x xs H Q => ∃ (p : Addr) (bs : List Bool) (k : Bool), x = .ref p ∧ xs = [.bl k] ∧ SqL K H p (bs.map V.bl) ∧ Q (.int (bs.count k : Nat)) H
theorem cnt_bools {k : Bool} : ∀ {bs : List Bool} {us : List Value}, Vals (bs.map V.bl) us → us.countP (eqU (.bl k)) = bs.count k
  | [], _, .nil => rfl
  | b :: bs, _, .cons r t => by
    have ih := cnt_bools (k := k) t
    have e : eqU (.bl k) _ = eqV (.bl b) (.bl k) := eqU_of r rfl
    rw [List.countP_cons, ih, List.count_cons, e]
    cases b <;> cases k <;> rfl
theorem mt_lcountB : MtR X "list.count" (rCntB X.K) := by
  intro pins s σ H x xs v us Q I rx rxs ⟨p, bs, k, e1, e2, hs, q⟩
  subst e1 e2
  cases rx
  obtain ⟨u, eu, ru⟩ := vals1 rxs
  subst eu
  obtain ⟨its, rv, ⟨⟨cls, dd, data, sl⟩, n, ho, hc, hdn, hd⟩, hlen⟩ := I.list hs
  simp only at hc hd
  subst hc hd
  have fl : (bs.map V.bl).all flatV = true := by
    rw [List.all_eq_true]
    intro z hz
    obtain ⟨b, _, e⟩ := List.mem_map.mp hz
    rw [← e]
    rfl
  refine call_meets PySem.F.slot_list_count ⟨_, ho, rfl⟩ PySem.F.entry_list_count (PySem.F.args_list_count_2 _ _)
    (SeqAt.list_countAt p its.toArray n dd sl u (eqU (.bl k))) ⟨ho, fun y hy => mem_eqAt ru rfl rv fl y (by simpa using hy), ?_⟩
  refine ⟨.int (bs.count k : Nat), H, I.tok _, ⟨s.toks, ?_⟩, q⟩
  show Value.int ((its.toArray.toList.countP (eqU (.bl k)) : Nat) : Int) s.toks = Value.int ((bs.count k : Nat) : Int) s.toks
  rw [show its.toArray.toList = its from rfl, cnt_bools rv]
end
end FS
set_option maxHeartbeats 2000000
namespace FS
open PySem PySem.Spec PyProof.Rows L2
section
variable {σ : L2.St} {H : Hp} {Q : VK} {D : Ends} {K : PySem.W.Frag}
theorem r_var {i : Nat} {v : V} (h : σ[i]? = some (some v)) (q : Q v H) : tVar i σ H Q := ⟨v, h, q⟩
theorem r_c {v : V} (q : Q v H) : tC v σ H Q := q
theorem r_op {r : R2} {ta tb : TE} (h : ta σ H fun x H1 => tb σ H1 fun y H2 => r x y H2 Q) : tOp r ta tb σ H Q := h
theorem r_nil {Q : List V → Hp → Prop} (q : Q [] H) : tNil σ H Q := q
theorem r_cons {ta : TE} {tr : TA} {Q : List V → Hp → Prop} (h : ta σ H fun x H1 => tr σ H1 fun xs H2 => Q (x :: xs) H2) : tCons ta tr σ H Q := h
theorem r_I0 {g : Int → Int → V} {i j : Int} (q : Q (g i j) H) : rI0 g (.int i) (.int j) H Q := ⟨i, j, rfl, rfl, q⟩
theorem r_I {C : Int → Int → Prop} {g : Int → Int → V} {i j : Int} (c : C i j) (q : Q (g i j) H) : rI C g (.int i) (.int j) H Q := ⟨i, j, rfl, rfl, c, q⟩
theorem r_eq {x y : V} (c : scal x y = true) (q : Q (.bl (decide (x = y))) H) : rEq x y H Q := ⟨c, q⟩
theorem r_ne {x y : V} (c : scal x y = true) (q : Q (.bl (!decide (x = y))) H) : rNe x y H Q := ⟨c, q⟩
theorem r_test {te : TE} {Q : Bool → Hp → Prop} (h : te σ H fun x H' => ∃ k, x = .bl k ∧ Q k H') : tTest te σ H Q := h
theorem r_tB {te : TE} {Q : Bool → Hp → Prop} (h : te σ H fun x H' => ∃ k, x = .bl k ∧ Q k H') : tB te σ H Q := h
theorem r_bl {b : Bool} {P : Bool → Prop} (q : P b) : ∃ k, V.bl b = .bl k ∧ P k := ⟨b, rfl, q⟩
theorem r_not {t : TT} {Q : Bool → Hp → Prop} (h : t σ H fun c H1 => Q (!c) H1) : tNot t σ H Q := h
theorem r_and {t u : TT} {Q : Bool → Hp → Prop} (h : t σ H fun c H1 => if c = true then u σ H1 Q else Q false H1) : tAnd t u σ H Q := h
theorem r_or {t u : TT} {Q : Bool → Hp → Prop} (h : t σ H fun c H1 => if c = true then Q true H1 else u σ H1 Q) : tOr t u σ H Q := h
theorem r_notV {te : TE} (h : te σ H fun x H1 => ∃ c, x = .bl c ∧ Q (.bl (!c)) H1) : tNotV te σ H Q := h
theorem r_andV {ta tb : TE} (h : ta σ H fun x H1 => ∃ c, x = .bl c ∧ if c = true then tb σ H1 Q else Q (.bl false) H1) : tAndV ta tb σ H Q := h
theorem r_orV {ta tb : TE} (h : ta σ H fun x H1 => ∃ c, x = .bl c ∧ if c = true then Q (.bl true) H1 else tb σ H1 Q) : tOrV ta tb σ H Q := h
theorem r_ifE {t : TT} {ta tb : TE} (h : t σ H fun c H1 => if c = true then ta σ H1 Q else tb σ H1 Q) : tIf t ta tb σ H Q := h
theorem r_seq {t u : TS} (h : t { D with nx := u D } σ H) : tSeq t u D σ H := h
theorem r_asg {te : TE} {g : TG} (h : te σ H fun x H1 => g x σ H1 D.nx) : tAsg te g D σ H := h
theorem r_gN {i : Nat} {v : V} {Q : L2.St → Hp → Prop} (h : Q (σ.set i (some v)) H) : gName i v σ H Q := h
theorem r_ifS {c : TT} {t u : TS} (h : c σ H fun b H1 => if b = true then t D σ H1 else u D σ H1) : tIfS c t u D σ H := h
theorem r_ret {te : TE} (h : te σ H D.rt) : tRet te D σ H := h
theorem r_drop {te : TE} (h : te σ H fun _ H1 => D.nx σ H1) : tDrop te D σ H := h
theorem r_next (h : D.nx σ H) : tNext D σ H := h
theorem r_retN (h : D.rt .non H) : tRetN D σ H := h
theorem r_cb {r : List V → Hp → VK → Prop} {t : TA} (h : t σ H fun vs H1 => r vs H1 Q) : tCB r t σ H Q := h
theorem r_call {sp : Sp} {dvs : List V} {E : XK} {t : TA} (h : t σ H fun vs H1 => sp (vs ++ dvs) H1 Q E) : tCall sp dvs E t σ H Q := h
theorem r_lst {t : TA} (h : t σ H fun xs H1 => xs.length ≤ sizeLine ∧ ∀ p, H1 p = none → Q (.ref p) (upd H1 p (.lst xs))) : tLst t σ H Q := h
theorem r_tup {t : TA} (h : t σ H fun xs H1 => xs.length ≤ sizeLine ∧ ∀ p, H1 p = none → Q (.ref p) (upd H1 p (.tup xs))) : tTup t σ H Q := h
theorem r_if {c : Bool} {A B : Prop} (ht : c = true → A) (hf : c = false → B) : if c = true then A else B := by
  cases c
  · exact hf rfl
  · exact ht rfl
def rFld (K : PySem.W.Frag) (f : Str) (x : V) (H1 : Hp) (Q : VK) : Prop := ∃ a C dx fs v, x = .ref a ∧ H1 a = some (.ins C dx fs) ∧ Cls K C ∧ NoAttr K C f ∧ fs.lookup f = some v ∧ Q v H1
theorem r_fld {ta : TE} {f : Str} (h : ta σ H fun x H1 => rFld K f x H1 Q) : tFld K ta f σ H Q := h
end
section
variable {P : Program} {w : World} {K : PySem.W.Frag} {mg : Str → Option Value} {base : Heap}
/-- a def that may be called by its name: no exception leaves it | one may -/
structure Fd (CX : CXT) (P : Program) (w : World) (K : PySem.W.Frag) (mg : Str → Option Value) (base : Heap) (x : Str) (k : Nat) (sp : Sp) : Prop where
  ex : ∃ (f : Addr) (fd : FuncData) (ps : List Str), mg x = some (.ref f) ∧ PySem.W.keepIn K (.ref f) = true ∧ FnOk P w K mg base CX k f fd ps sp ∧ Binds K fd ps []
theorem pe_fd {X : Cx} {CX : CXT} {x : Str} {k j : Nat} {sp : Sp} {E : XK} {p pos : Pos} {e : Expr} {es : List Expr} {t : TA} (c : Fd CX X.prog X.w X.K X.mg X.base x k sp) (hr : Room j X.A) (hx : Passes CX X E) (ha : PA X (e :: es) t) (hk : k ≤ j := by decide) (hg : Gl X x := by rfl)
    (hdb : (x == ("__debug__" : Str)) = false := by decide) (he : starEach (e :: es) X.env = (false, eval e X.env) :: starEach es X.env := by rfl) (hpl : (backTo pos (starEach es X.env)).any (·.1) = false := by rfl) :
    PE X (.Call (.Name x p) (e :: es) [] pos) (tCall sp [] E t) := by
  obtain ⟨f, fd, ps, h1, h2, F, b⟩ := c.ex
  exact pe_call F (hr.mono hk) hg h1 h2 b .nil hx ha hdb he hpl
end
section
variable {σ : L2.St} {H : Hp} {Q : VK} {D : Ends} {K : PySem.W.Frag}
theorem r_ixL {p : Addr} {xs : List V} {i : Int} {v : V} (h : SqL K H p xs) (e : atI xs i = some v) (q : Q v H) : rIxL K (.ref p) (.int i) H Q := ⟨p, xs, i, v, rfl, rfl, h, e, q⟩
theorem r_ixT {p : Addr} {xs : List V} {i : Int} {v : V} (h : SqT K H p xs) (e : atI xs i = some v) (q : Q v H) : rIxT K (.ref p) (.int i) H Q := ⟨p, xs, i, v, rfl, rfl, h, e, q⟩
theorem r_setL {p : Addr} {xs : List V} {k : Int} {j : Nat} {v : V} {Q : Hp → Prop} (h : H p = some (.lst xs)) (e : ixN xs.length k = some j) (q : Q (upd H p (.lst (xs.set j v)))) : rSetL (.ref p) (.int k) v H Q := ⟨p, xs, k, j, rfl, rfl, h, e, q⟩
theorem r_set2 {p : Addr} {xs ys : List V} {k : Int} {j : Nat} {v : V} {Q : Hp → Prop} (h : H p = some (.lst xs)) (e : ixN xs.length k = some j) (es : xs.set j v = ys) (q : ∀ H1, (∀ G L, GoR G L p H H1) → H1 p = some (.lst ys) → Q H1) : rSetL (.ref p) (.int k) v H Q := by
  subst es
  exact r_setL h e (q _ (fun _ _ => GoR.upd h) upd_same)
theorem r_chain {r r' : R2} {ta tb tc : TE} (h : ta σ H fun x H1 => tb σ H1 fun y H2 => r x y H2 fun z H3 => ∃ k, z = .bl k ∧ (if k = true then tc σ H3 fun u H4 => r' y u H4 Q else Q (.bl false) H3)) : tChain r r' ta tb tc σ H Q := h
theorem r_nf {A B : Prop} (h : A) : if (!false) = true then A else B := h
theorem r_nt {A B : Prop} (h : B) : if (!true) = true then A else B := h
theorem r_sl {r : V → Option Int → Option Int → Hp → VK → Prop} {te : TE} {tl th : TO} (h : te σ H fun x H1 => tl σ H1 fun l H2 => th σ H2 fun u H3 => r x l u H3 Q) : tSl r te tl th σ H Q := h
theorem r_part {te : TE} {Q : Option Int → Hp → Prop} (h : te σ H fun x H1 => ∃ i, x = .int i ∧ Q (some i) H1) : tPart te σ H Q := h
theorem r_nopart {Q : Option Int → Hp → Prop} (h : Q none H) : tNoPart σ H Q := h
theorem r_isInt {i : Int} {P : Int → Prop} (h : P i) : ∃ j, V.int i = .int j ∧ P j := ⟨i, rfl, h⟩
theorem r_tm {r : V → List V → Hp → VK → Prop} {to : TE} {t : TA} (h : to σ H fun x H1 => (∃ a xs, x = .ref a ∧ NT H1 a xs) ∧ t σ H1 fun xs H2 => r x xs H2 Q) : tTM r to t σ H Q := h
theorem r_bm {T : String} {r : V → List V → Hp → VK → Prop} {to : TE} {t : TA} (h : to σ H fun x H1 => tyV K T x H1 ∧ t σ H1 fun xs H2 => r x xs H2 Q) : tBM K T r to t σ H Q := h
theorem r_make {C : Addr} {sp : Sp} {dvs : List V} {t : TA} {E : XK} (h : t σ H fun vs H1 => ∀ x dx, H1 x = none → H1 dx = none → dx ≠ x → sp (.ref x :: (vs ++ dvs)) (upd (upd H1 dx (.own x)) x (.ins C dx [])) (fun v H2 => v = .non ∧ Q (.ref x) H2) E) : tMake C sp dvs E t σ H Q := h
theorem r_gsub {to ti : TE} {t : TSet} {v : V} {Q : L2.St → Hp → Prop} (h : to σ H fun o H1 => ti σ H1 fun i H2 => t o i v H2 fun H3 => Q σ H3) : gSub to ti t v σ H Q := h
def cInt : List V → Hp → VK → Prop := fun xs H Q => (∃ i, xs = [.int i] ∧ Q (.int i) H) ∨ ∃ k, xs = [.bl k] ∧ Q (.int (if k then 1 else 0)) H
theorem c_int {X : Cx} : CallR X (.type "int") cInt := call_int1
theorem r_int1 {i : Int} (q : Q (.int i) H) : cInt [.int i] H Q := .inl ⟨i, rfl, q⟩
theorem r_intB {b : Bool} (q : Q (.int (if b then 1 else 0)) H) : cInt [.bl b] H Q := .inr ⟨b, rfl, q⟩
def cLen (K : PySem.W.Frag) : List V → Hp → VK → Prop := fun xs H Q => ∃ p ys, xs = [.ref p] ∧ (SqL K H p ys ∨ SqT K H p ys) ∧ Q (.int ys.length) H
theorem c_len {X : Cx} : CallR X (.builtin "len") (cLen X.K) := call_len_seq
theorem r_lenL {p : Addr} {ys : List V} (h : SqL K H p ys) (q : Q (.int ys.length) H) : cLen K [.ref p] H Q := ⟨p, ys, rfl, .inl h, q⟩
theorem r_lenT {p : Addr} {ys : List V} (h : SqT K H p ys) (q : Q (.int ys.length) H) : cLen K [.ref p] H Q := ⟨p, ys, rfl, .inr h, q⟩
def cLenS : List V → Hp → VK → Prop := fun xs H Q => ∃ z, xs = [.str z] ∧ z.length ≤ sizeLine ∧ Q (.int z.length) H
def cList (K : PySem.W.Frag) : List V → Hp → VK → Prop := fun xs H Q => ∃ p ys, xs = [.ref p] ∧ (SqL K H p ys ∨ SqT K H p ys) ∧ ∀ l, H l = none → Q (.ref l) (upd H l (.lst ys))
theorem c_list {X : Cx} : CallR X (.type "list") (cList X.K) := call_list_of
theorem r_listL {p : Addr} {ys : List V} (h : SqL K H p ys) (q : ∀ l, H l = none → Q (.ref l) (upd H l (.lst ys))) : cList K [.ref p] H Q := ⟨p, ys, rfl, .inl h, q⟩
theorem r_listT {p : Addr} {ys : List V} (h : SqT K H p ys) (q : ∀ l, H l = none → Q (.ref l) (upd H l (.lst ys))) : cList K [.ref p] H Q := ⟨p, ys, rfl, .inr h, q⟩
def cTup (K : PySem.W.Frag) : List V → Hp → VK → Prop := fun xs H Q => ∃ p ys, xs = [.ref p] ∧ SqL K H p ys ∧ ∀ l o, H l = none → o.cls = .type "tuple" → o.dict = none → Q (.ref l) (upd H l (.frz o (.tup ys)))
theorem c_tup {X : Cx} : CallR X (.type "tuple") (cTup X.K) := call_tupleD
theorem r_tupL {p : Addr} {ys : List V} (h : SqL K H p ys) (q : ∀ l o, H l = none → o.cls = .type "tuple" → o.dict = none → Q (.ref l) (upd H l (.frz o (.tup ys)))) : cTup K [.ref p] H Q := ⟨p, ys, rfl, h, q⟩
end
/-- one step of a reading -/
local macro_rules | `(tactic| walk_at "rd") => `(tactic| first
  | ((with_reducible refine r_var (v := ?v) ?h ?_); (case h => rfl))
  | (with_reducible refine r_c ?_)
  | (with_reducible refine r_op ?_)
  | (with_reducible refine r_cons ?_)
  | (with_reducible refine r_nil ?_)
  | (with_reducible refine r_I0 ?_)
  | (with_reducible refine r_test ?_)
  | (with_reducible refine r_bl ?_)
  | (with_reducible refine r_tB ?_)
  | (with_reducible refine r_chain ?_)
  | (with_reducible refine iteT ?_)
  | (with_reducible refine iteF ?_)
  | (with_reducible refine r_nf ?_)
  | (with_reducible refine r_nt ?_)
  | (with_reducible refine r_not ?_)
  | (with_reducible refine r_and ?_)
  | (with_reducible refine r_or ?_)
  | (with_reducible refine r_notV ?_)
  | (with_reducible refine r_andV ?_)
  | (with_reducible refine r_orV ?_)
  | (with_reducible refine r_ifE ?_)
  | (with_reducible refine r_seq ?_)
  | (with_reducible refine r_asg ?_)
  | (with_reducible refine r_gN ?_)
  | (with_reducible refine r_ifS ?_)
  | (with_reducible refine r_ret ?_)
  | (with_reducible refine r_drop ?_)
  | (with_reducible refine r_retN ?_)
  | (with_reducible refine r_next ?_)
  | (with_reducible refine r_cb ?_)
  | (with_reducible refine r_call ?_)
  | (with_reducible refine r_lst ?_)
  | (with_reducible refine r_tup ?_)
  | (with_reducible refine r_fld ?_)
  | (with_reducible refine r_gsub ?_)
  | (with_reducible refine r_make ?_)
  | (with_reducible refine r_sl ?_)
  | (with_reducible refine r_part ?_)
  | (with_reducible refine r_nopart ?_)
  | (with_reducible refine r_isInt ?_)
  | (with_reducible refine r_tm ?_)
  | (with_reducible refine r_bm ?_)
  | (with_reducible refine r_int1 ?_)
  | (with_reducible refine r_intB ?_)
  | (dsimp only))
end FS
set_option maxHeartbeats 2000000
namespace FS
open PySem PySem.Spec PyProof.Rows L2
section
variable {prog : Program} {w : World} {A : Around} {E : Value → Shared → Prop} {s : Shared}
end
end FS
set_option maxHeartbeats 2000000
namespace FS
open PySem PySem.Spec PyProof.Rows L2 GxR
/-- the element: a test of the sign, the module's names known -/
def EltG (P : Program) (w : World) (mg : Str → Option Value) (sc : Scope) (x : Str) (elt : Expr) (pb : Nat → Bool) : Prop :=
  ∀ (ce : Env) (A : Around) (E : Value → Shared → Prop) (c : Nat) (t : Tok) (s : Shared) (m : Str → Option Value), ce.scope = sc → ce.globals = mainGlobals → s.heap.Ns mainGlobals mg → s.heap.Ns ce.locals m → m x = some (.str ⟨#[c]⟩ t) →
    wpAny (model P w) A (eval elt ce) (fun y s' => y = .bool (pb c) ∧ Keeps s s') E s
/-- x in NAME, NAME a text of the module -/
theorem eltG_in {P : Program} {w : World} {mg : Str → Option Value} {sc : Scope} {x n : Str} {z : Str} {tz : Tok} {p1 p2 p3 : Pos} (hk : sc.kind = .function) (hl : sc.names.lookup x = some .local) (hn : sc.names.lookup n = some .globalImplicit) (hm : mg n = some (.str z tz))
    (hd : (x == ("__debug__" : Str)) = false := by decide) (hd2 : (n == ("__debug__" : Str)) = false := by decide) :
    EltG P w mg sc x (.Compare (.Name x p1) [.In] [.Name n p2] p3) (fun c => decide (c ∈ z.cps.toList)) := by
  intro ce A E c t s m hs hg hM hL hx
  refine wpAny_Compare1 ?_ rfl
  refine wpAny_Name (wpAny_loadName_local (by rw [hs]; exact hk) (show ce.scope.names.lookup x = some .local by rw [hs]; exact hl) hL hx ?_) hd
  refine Calls.Name_function_global (by rw [hs]; exact hk) (show ce.scope.names.lookup n = some .globalImplicit by rw [hs]; exact hn) (Calls.loadGlobal_global (by rw [hg]; exact hM) hm ?_) hd2
  refine PyProof.Rows.in_str ?_
  refine ⟨?_, keeps_refl _⟩
  rw [StrLaws.found_one z c]
section
variable {X : Cx} {pins : List (Addr × Obj)} {σ : L2.St} {H : Hp} {s : Shared}
theorem gen_strG {c P : Addr} {elt iter : Expr} {x : Str} {px gpos : Pos} {sc : Scope} {pb : Nat → Bool} {te : TE} {k : Nat} {Q' : Value → Shared → Prop} {R : Str → Hp → Prop}
    (hr : Room k X.A) (TB : TabB X.base X.mg c P) (hcode : X.env.code = .ref c) (S : GenS X.env sc x) (hi : PE X iter te) (hel : EltG X.prog X.w X.mg sc x elt pb)
    (hs : ∀ v, genFold iter X.env v = pure v) (I : Inv X pins σ H s) (h : te σ H fun v H1 => ∃ a : Str, v = .str a ∧ TabG H1 P ∧ R a H1)
    (hQ : ∀ a H1 g s5, R a H1 → Ready X pins σ H1 P a pb g s5 → Q' (.ref g) s5) :
    wpAny (model X.prog X.w) X.A (eval (.GeneratorExp elt [⟨.Name x px, iter, [], 0⟩] sc gpos) X.env) Q' X.xe s := by
  refine wpAny_GeneratorExp_walksQ hr.hd S.co (closure_ok S.free) S.cell S.dot S.loc S.kind (by have z := hr.dp; omega) ?_ hs
  refine thn (hi.run pins s σ H _ I h) fun xv s1 ⟨v, H1, I1, r1, a, ev, ⟨ps, hP, ht⟩, q1⟩ => ?_
  subst ev
  obtain ⟨t, et⟩ := r1
  subst et
  refine wpAny_pyIter_str fun o St W hst => ?_
  have hPs : s1.heap.get? P = some { cls := .none, data := .fields ps } := I1.hok P _ hP
  have hPlt := Heap.lt_size hPs
  have hP2 : (s1.heap.push o).get? P = some { cls := .none, data := .fields ps } := Heap.get?_push_of_some _ hPs
  have cd : PySem.W.CodeHd (s1.heap.push o) c P := TB.code.keeps fun b u e => Heap.get?_push_of_some _ (I1.bk b u e)
  have lim2 := I1.nolimit.push o
  have glob : s1.heap.Ns mainGlobals X.mg := I1.mod.glob.keeps I1.bk
  have go : ∀ (code : Value) (h3 : Heap) (tk : Nat) (ps' : Array Value), Heap.ExtBut P (s1.heap.push o) h3 → (s1.heap.push o).objs.size ≤ h3.objs.size → h3.get? P = some { cls := .none, data := .fields ps' } → (∃ more, ps' = ps ++ more) → TriplesOk ps'.toList →
      wpAny (model X.prog X.w) X.A (builtinsFor X.env.globals X.env.builtins) (fun bi s₄ =>
        ∃ Ia fp wr n₀ Pf St₀ pz F, Value.ref s1.heap.objs.size = .ref Ia ∧ (∀ A' : Around, A'.handled = none → Walks X.prog X.w A' Ia fp wr n₀ Pf St₀) ∧ St₀ 0 s₄.heap ∧ (∀ b ∈ fp, b < s₄.heap.objs.size) ∧ s₄.heap.NoLimit ∧ cStatics ∉ wr ∧
          (∀ href : Heap, (∀ b o, s₄.heap.get? b = some o → href.get? b = some o) →
            QuietGen X.prog X.w (genEnv sc (cloFrom X.env.cells sc.names []) s₄.heap.objs.size code bi X.env) x [] elt (List.range s₄.heap.objs.size) wr Pf pz F href) ∧
          (∀ a h₅ tk gs, gs.bare = true → s₄.heap.objs.size < a → h₅.objs.size = a + 1 → (∀ b o, s₄.heap.get? b = some o → h₅.get? b = some o) →
            WalksS X.prog X.w X.A.in4 a (a :: s₄.heap.objs.size :: List.range s₄.heap.objs.size) (s₄.heap.objs.size :: wr) (GenOnlyQ s₄.gens.size) (passing pz n₀ 0).length
              (fun j y => ∃ i, (passing pz n₀ 0)[j]? = some i ∧ F i y) (GenAt X.prog X.w X.A.in4 a s₄.gens.size s₄.heap.objs.size (List.range s₄.heap.objs.size) wr pz n₀ F) →
            GenAt X.prog X.w X.A.in4 a s₄.gens.size s₄.heap.objs.size (List.range s₄.heap.objs.size) wr pz n₀ F 0 { s₄ with gens := s₄.gens.push gs, toks := tk, heap := h₅ } →
            Q' (.ref a) { s₄ with gens := s₄.gens.push gs, toks := tk, heap := h₅ })) X.xe { s1 with heap := h3, toks := tk } := by
    intro code h3 tk ps' hx hsz hP3 hmore ht3
    obtain ⟨bm, ob, e1, e2, e3, e4, e5, e6, e7, e8⟩ := TB.bm
    have hcP : cStatics ≠ P := fun e => by
      obtain ⟨_, ⟨o', es, ep, ho, hd, _⟩, _⟩ := I1.nolimit
      rw [e, hPs] at ho
      cases ho
      cases hd
    have hcl : cStatics < s1.heap.objs.size := by
      obtain ⟨_, hns, _⟩ := I1.nolimit
      exact hns.lt
    have sz2 : (s1.heap.push o).objs.size = s1.heap.objs.size + 1 := Heap.size_push ..
    have kp3 : ∀ b u, b ≠ P → s1.heap.get? b = some u → h3.get? b = some u := fun b u hb e => hx b u hb (Heap.get?_push_of_some _ e)
    have gl3 : h3.Ns mainGlobals X.mg := (glob.push o).extBut hx TB.gP
    have glt : mainGlobals < s1.heap.objs.size := glob.lt
    refine wpAny_builtinsFor (m := X.mg) (by rw [I1.ok.glob]; exact gl3) e1 e2 (kp3 _ _ e4 (I1.bk _ _ e5)) e6 e7 e8 ?_
    refine ⟨s1.heap.objs.size, [s1.heap.objs.size], [s1.heap.objs.size], a.cps.size, SignAt a, St, (fun _ => true), (fun i y => ∃ cc, a.cps[i]? = some cc ∧ y = .bool (pb cc)), rfl, W, ?_, ?_, lim2.extBut hx hcP, ?_, ?_, ?_⟩
    · refine (W X.A hr.hd).frame _ _ _ hst fun b hb u e => hx b u (fun z => ?_) e
      have hb' : b = s1.heap.objs.size := by simpa using hb
      exact Nat.ne_of_lt hPlt (z.symm.trans hb')
    · intro b hb
      have hb' : b = s1.heap.objs.size := by simpa using hb
      rw [hb']
      show s1.heap.objs.size < h3.objs.size
      omega
    · intro z
      have z' : cStatics = s1.heap.objs.size := by simpa using z
      exact Nat.ne_of_lt hcl z'
    · intro href hhref
      refine ⟨fun A' E' i v s₂ m₂ hA hPv hn hm hk => ?_, fun A' E' i v s₂ m₂ hA hPv hp hn hm hk => ?_⟩
      · simp only [List.forIn_nil]
        exact wpAny_pure ⟨rfl, keeps_refl _⟩
      · obtain ⟨cc, u, hcc, ev⟩ := hPv
        subst ev
        have gl2 : s₂.heap.Ns mainGlobals X.mg := by
          obtain ⟨oG, es, ep, hoG, r⟩ := gl3
          refine ⟨oG, es, ep, hk mainGlobals (List.mem_range.mpr (Nat.lt_of_lt_of_le glt (by show s1.heap.objs.size ≤ h3.objs.size; rw [sz2] at hsz; omega))) (fun z => ?_) oG (hhref _ _ hoG), r⟩
          have z' : mainGlobals = s1.heap.objs.size := by simpa using z
          exact Nat.ne_of_lt glt z'
        exact wpAny_mono (hel _ A' E' cc u s₂ m₂ rfl I1.ok.glob gl2 hn hm) (fun y s3 r => ⟨⟨cc, hcc, r.1⟩, r.2⟩) fun _ _ e => e
    · intro g h5 tk5 gs hgb hag hsz5 hk5 W5 hat
      simp only [GxR.passing_true, List.length_range] at W5
      refine hQ a H1 g _ q1 ⟨_, _, _, _, _, W5.in4_1, hat, ?_, fun s' hm => ?_⟩
      · intro j y sj Qj Ej hy hQj
        obtain ⟨i, hij, cc, hcc, ey⟩ := hy
        subst ey
        obtain ⟨hj, ej⟩ := List.getElem?_eq_some_iff.mp hij
        rw [List.getElem_range] at ej
        subst ej
        have e9 : a.cps.toList[j]? = some cc := by rw [Array.getElem?_toList]; exact hcc
        have hQ2 : Qj (trF pb a.cps.toList j) sj := hQj
        rw [trF_some e9] at hQ2
        exact wpAny_truthy_bool hQ2
      · obtain ⟨more, em⟩ := hmore
        have nwr : ∀ b u, s1.heap.get? b = some u → b ∉ h3.objs.size :: [s1.heap.objs.size] := fun b u e hb => by
          have hl := Heap.lt_size e
          have hb' : b = h3.objs.size ∨ b = s1.heap.objs.size := by simpa using hb
          rcases hb' with z | z
          · rw [z] at hl
            have h9 : (h3.objs.size : Nat) < s1.heap.objs.size := hl
            omega
          · rw [z] at hl
            exact Nat.lt_irrefl _ hl
        have J := inv_tab (more := more) (h' := s'.heap) (g' := s'.gens) (d' := s'.drawn) (t' := s'.toks) I1 hP (fun b u hb e => hm.heap b u (nwr b u e) (hk5 b u (kp3 b u hb e)))
          (by rw [← em]; exact hm.heap P _ (nwr P _ hPs) (hk5 P _ hP3)) (AllBare.movedS (I1.bare.push hgb) hm)
        rw [sh_eta s1 s' hm.os] at J
        exact ⟨upd H1 P (.tbl (ps ++ more)), ⟨⟨ps ++ more, upd_same, by rw [← em]; exact ht3⟩, fun b hb => upd_ne hb⟩, J⟩
  refine ⟨lim2, ?_⟩
  cases hf : codeAmong gpos ps.toList with
  | none =>
    refine wpAny_genexprCodeX hcode (cd.code hP2 ht) (cd.tab hP2) hf fun c' h' tk hx hge hlt hco' _ htab' _ => ?_
    obtain ⟨o1, vs, f1, tf, fl, tg, inF, tx, tt, op, _, _, _, _, _, _, _, _, _, htr, _⟩ := hco'
    exact go _ h' tk _ hx (Nat.le_trans hge (Nat.le_of_lt hlt)) htab'.2 ⟨_, rfl⟩ htr
  | some cv =>
    refine wpAny_genexprCode_hit hcode (cd.code hP2 ht) hf ?_
    exact go cv (s1.heap.push o) s1.toks ps (Heap.ExtBut.refl _ _) (Nat.le_refl _) hP2 ⟨#[], by simp⟩ ht

/-- all(test for x in e) -/
theorem pe_allG {c P : Addr} {elt iter : Expr} {x : Str} {px p pos gpos : Pos} {sc : Scope} {pb : Nat → Bool} {te : TE} {k : Nat}
    (hr : Room k X.A) (hg : Gl X "all") (hm : X.mg "all" = none) (hb : bootBuiltins "all" = some (.builtin "all")) (TB : TabB X.base X.mg c P) (hcode : X.env.code = .ref c) (S : GenS X.env sc x) (hi : PE X iter te) (hel : EltG X.prog X.w X.mg sc x elt pb)
    (hs : ∀ v, genFold iter X.env v = pure v)
    (he : starEach [.GeneratorExp elt [⟨.Name x px, iter, [], 0⟩] sc gpos] X.env = (false, eval (.GeneratorExp elt [⟨.Name x px, iter, [], 0⟩] sc gpos) X.env) :: starEach [] X.env := by rfl) :
    PE X (.Call (.Name "all" p) [.GeneratorExp elt [⟨.Name x px, iter, [], 0⟩] sc gpos] [] pos) (tAllS P pb te) := by
  refine ⟨fun pins s σ H Q I h => ?_⟩
  refine wpAny_Call_Name_kw (ld_blt I hg hm hb ?_)
  refine PyProof.Rows.callWith_builtin1 ?_ he (by rfl)
  rw [he]
  show wpAny _ _ (spliced ((false, eval (.GeneratorExp elt [⟨.Name x px, iter, [], 0⟩] sc gpos) X.env) :: backTo pos (starEach [] X.env))) _ _ s
  refine Calls.spliced_cons (gen_strG (R := fun a H1 => ∀ H2, Tabbed P H1 H2 → Q (.bl (a.cps.toList.all pb)) H2) hr TB hcode S hi hel hs I h fun a H1 g s5 hR hG => ?_)
  obtain ⟨fp, wr, G, F, St, W, hst, htr, hI⟩ := hG
  refine Calls.spliced_nil (call_all_walkS (W.self 0 _ _ _ hst ⟨g, fp, wr, G, _, F, St, _, rfl, W, hst, htr, fun s' hmv => ?_⟩))
  obtain ⟨H2, hT, J⟩ := hI s' hmv
  refine ⟨.bl _, H2, J, rfl, ?_⟩
  rw [all_signs a pb]
  exact hR H2 hT
end
end FS
set_option maxHeartbeats 2000000
namespace FS
open PySem PySem.Spec PyProof.Rows L2 LamX
/-- all that was tracked is kept, but what stands at P -/
def But (P : Addr) (H H' : Hp) : Prop := ∀ b o, b ≠ P → H b = some o → H' b = some o
section
variable {X : Cx} {pins : List (Addr × Obj)} {σ : L2.St} {H : Hp} {s : Shared}
end
section
variable {X : Cx}
end
end FS
set_option maxHeartbeats 2000000
namespace FS
open PySem PySem.Spec PyProof.Rows L2 LamX
/-- the function object o stands at f -/
def LamO (o : Obj) (f : Addr) : HO := .ext fun h => h.get? f = some o
abbrev lamObj (X : Cx) (ps : Arguments) (b : Expr) (sc : Scope) (dV doc pm ct : Value) (c' : Addr) : Obj :=
  PySem.W.kdv_obj "<lambda>" (X.env.qual ++ "<lambda>") ps (.expr b) sc (cloFrom X.env.cells sc.names []) dV doc pm c' ct
section
variable {X : Cx} {pins : List (Addr × Obj)} {σ : L2.St} {H : Hp} {s : Shared}
theorem lam_tail {c P : Addr} {ps : Arguments} {b : Expr} {sc : Scope} {dV : Value} {pos : Pos} {fl : Nat} {E Q : Value → Shared → Prop} (I : Inv X pins σ H s) (TB : TabB X.base X.mg c P) (hcode : X.env.code = .ref c) (hT : TabS H P (X.env.qual ++ "<lambda>"))
    (hfree : ∀ y ∈ sc.names, y.2 = .free → ∃ c, X.env.cells.lookup y.1 = some c)
    (h : ∀ (f c' : Addr) (doc pm ct : Value) (H1 : Hp) (s1 : Shared), Inv X pins σ H1 s1 → But P H H1 → TabS H1 P (X.env.qual ++ "<lambda>") → H1 c' = some (CodeO c' (X.env.qual ++ "<lambda>")) → H1 f = some (LamO (lamObj X ps b sc dV doc pm ct c') f) → H f = none → Q (.ref f) s1) :
    wpAny (model X.prog X.w) X.A (makeTail "<lambda>" (X.env.qual ++ "<lambda>") ps (.expr b) sc X.env dV .none none pos fl) Q E s := by
  obtain ⟨tb, hP, ht, ha⟩ := hT
  have bP := TB.bm.keeps I.bk
  have hPs := I.hok P _ hP
  cases hc : codeAmong pos tb.toList with
  | none =>
    refine PySem.W.kdv_makeTail (mg := X.mg) (ps := tb) (closure_ok hfree) I.ok.glob (I.mod.glob.keeps I.bk) hcode (TB.code.keeps I.bk) hPs ht hc TB.gP bP fun c' ct doc h' tk hx hge hlt hrec htb => ?_
    obtain ⟨c2, oc, vs, t, e2, hoc, hd, hv⟩ := hrec
    cases e2
    have nC := I.hok.fresh hge
    have nPc := ne_of_none hP nC
    have J := inv_table (t' := tk) (more := #[rawInt pos.line, rawInt pos.col, .ref c']) I hP (fun d o n e => hx d o n e) htb hge ⟨oc, vs, t, hoc, hd, hv⟩
    generalize hH1 : upd (upd H P (.tbl (tb ++ #[rawInt pos.line, rawInt pos.col, .ref c']))) c' (CodeO c' (X.env.qual ++ "<lambda>")) = H1 at J
    have kb : But P H H1 := fun d o n e => by
      rw [← hH1, upd_ne (ne_of_none e nC), upd_ne n]
      exact e
    have hsz : s.heap.objs.size ≤ h'.objs.size := Nat.le_trans hge (Nat.le_of_lt hlt)
    have K := Inv.laid (o := LamO (lamObj X ps b sc dV doc ((X.mg "__name__").getD .none) ct c') h'.objs.size) (t' := tk) J (h' := h'.push (lamObj X ps b sc dV doc ((X.mg "__name__").getD .none) ct c')) (fun d u e => Heap.get?_push_of_some _ e) (Nat.le_refl _)
      ⟨Heap.get?_push_size _ rfl, ⟨_, Heap.get?_push_size _ rfl⟩, fun h1 h2 e st => st _ e⟩
    have hfn : H1 h'.objs.size = none := J.hok.fresh (Nat.le_refl _)
    have ec' : H1 c' = some (CodeO c' (X.env.qual ++ "<lambda>")) := by rw [← hH1, upd_same]
    have eP : H1 P = some (.tbl (tb ++ #[rawInt pos.line, rawInt pos.col, .ref c'])) := by rw [← hH1, upd_ne nPc, upd_same]
    have up : ∀ d o, H1 d = some o → upd H1 h'.objs.size (LamO (lamObj X ps b sc dV doc ((X.mg "__name__").getD .none) ct c') h'.objs.size) d = some o := fun d o e => by
      rw [upd_ne (ne_of_none e hfn)]
      exact e
    have eL : (tb ++ #[rawInt pos.line, rawInt pos.col, .ref c']).toList = tb.toList ++ [rawInt pos.line, rawInt pos.col, .ref c'] := by simp
    refine h h'.objs.size c' doc _ ct _ _ K (fun d o n e => up d o (kb d o n e)) ⟨_, up _ _ eP, ?_, fun p' cv z => ?_⟩ (up _ _ ec') upd_same (I.hok.fresh hsz)
    · rw [eL]
      exact PySem.TriplesOk_snoc _ _ _ _ ht
    · rw [eL] at z
      rcases among_app _ ht z with z | z
      · obtain ⟨d, e1, e2⟩ := ha p' cv z
        refine ⟨d, e1, up _ _ (kb _ _ (fun q => ?_) e2)⟩
        rw [q, hP] at e2
        exact codeO_ne _ (Option.some.inj e2).symm
      · exact ⟨c', z, up _ _ ec'⟩
  | some cv =>
    obtain ⟨c', e, hco⟩ := ha pos cv hc
    subst e
    refine PySem.W.kdv_makeTailHit (mg := X.mg) (ps := tb) (closure_ok hfree) I.ok.glob (I.mod.glob.keeps I.bk) hcode (TB.code.keeps I.bk) hPs ht hc bP fun ct doc h' tk hx hsz => ?_
    have K := Inv.laid (a := h'.objs.size) (o := LamO (lamObj X ps b sc dV doc ((X.mg "__name__").getD .none) ct c') h'.objs.size) (t' := tk) I (h' := h'.push (lamObj X ps b sc dV doc ((X.mg "__name__").getD .none) ct c')) (fun d u e => Heap.get?_push_of_some _ (hx d u e)) hsz
      ⟨Heap.get?_push_size _ rfl, ⟨_, Heap.get?_push_size _ rfl⟩, fun h1 h2 e st => st _ e⟩
    have hfn : H h'.objs.size = none := I.hok.fresh hsz
    have up : ∀ d o, H d = some o → upd H h'.objs.size (LamO (lamObj X ps b sc dV doc ((X.mg "__name__").getD .none) ct c') h'.objs.size) d = some o := fun d o e => by
      rw [upd_ne (ne_of_none e hfn)]
      exact e
    refine h h'.objs.size c' doc _ ct _ _ K (fun d o _ e => up d o e) ⟨tb, up _ _ hP, ht, fun p' cv z => ?_⟩ (up _ _ hco) upd_same hfn
    obtain ⟨d, e1, e2⟩ := ha p' cv z
    exact ⟨d, e1, up _ _ e2⟩
/-- the lambda's object stands at f: without parameters | with one that is the number i if nothing is given -/
def LamAt (X : Cx) (ps : Arguments) (b : Expr) (sc : Scope) (df : Option Int) (H : Hp) (f c' : Addr) : Prop := H c' = some (CodeO c' (X.env.qual ++ "<lambda>")) ∧ ∃ doc pm ct, match df with
  | none => H f = some (LamO (lamObj X ps b sc .none doc pm ct c') f)
  | some i => ∃ T, H T = some (.tup [.int i]) ∧ H f = some (LamO (lamObj X ps b sc (.ref T) doc pm ct c') f)
theorem LamAt.kept {ps : Arguments} {b : Expr} {sc : Scope} {df : Option Int} {H H' : Hp} {f c' : Addr} (h : LamAt X ps b sc df H f c') (k : ∀ d o, (∀ tb, o ≠ HO.tbl tb) → (∀ xs, o ≠ HO.lst xs) → H d = some o → H' d = some o) : LamAt X ps b sc df H' f c' := by
  obtain ⟨h1, doc, pm, ct, h2⟩ := h
  refine ⟨k _ _ (fun tb z => by cases z) (fun xs z => by cases z) h1, doc, pm, ct, ?_⟩
  cases df with
  | none => exact k _ _ (fun tb z => by cases z) (fun xs z => by cases z) h2
  | some i =>
    obtain ⟨T, h3, h4⟩ := h2
    exact ⟨T, k _ _ (fun tb z => by cases z) (fun xs z => by cases z) h3, k _ _ (fun tb z => by cases z) (fun xs z => by cases z) h4⟩
def tLamV (X : Cx) (ps : Arguments) (b : Expr) (sc : Scope) (df : Option Int) (P : Addr) : TE := fun σ H Q => TabS H P (X.env.qual ++ "<lambda>") ∧
  ∀ f c' H1, But P H H1 → TabS H1 P (X.env.qual ++ "<lambda>") → LamAt X ps b sc df H1 f c' → H f = none → Q (.ref f) H1
theorem pe_lamV0 {c P : Addr} {ps : Arguments} {b : Expr} {sc : Scope} {pos : Pos} (TB : TabB X.base X.mg c P) (hcode : X.env.code = .ref c) (hfree : ∀ y ∈ sc.names, y.2 = .free → ∃ c, X.env.cells.lookup y.1 = some c) (hdef : defaultsOf ps X.env = ([], [])) :
    PE X (.Lambda ps b sc pos) (tLamV X ps b sc none P) := by
  refine ⟨fun pins s σ H Q I ⟨hT, h⟩ => PySem.W.kla_eval hdef ?_⟩
  rw [makeFunction_eq]
  simp only [List.zip_nil_right, List.filterMap_nil, List.isEmpty_nil, if_true, pure_bind]
  exact lam_tail I TB hcode hT hfree fun f c' doc pm ct H1 s1 I1 kb T1 hc hf hn => ⟨.ref f, H1, I1, rfl, h f c' H1 kb T1 ⟨hc, doc, pm, ct, hf⟩ hn⟩
theorem pe_lamV1 {c P : Addr} {ps : Arguments} {b e : Expr} {sc : Scope} {pos : Pos} {i : Int} (TB : TabB X.base X.mg c P) (hcode : X.env.code = .ref c) (hfree : ∀ y ∈ sc.names, y.2 = .free → ∃ c, X.env.cells.lookup y.1 = some c)
    (hd : ps.defaults = [e]) (hk : ps.kw_defaults = []) (he : PE X e (tC (.int i))) : PE X (.Lambda ps b sc pos) (tLamV X ps b sc (some i) P) := by
  refine ⟨fun pins s σ H Q I ⟨hT, h⟩ => PySem.W.kdv_lam (by rw [hd]; rfl) hk ?_⟩
  rw [hd]
  refine PySem.W.kdv_all1 (thn (he.run pins s σ H (fun v H1 => v = .int i ∧ H1 = H) I ⟨rfl, rfl⟩) fun u s1 ⟨v, H1, I1, r1, ev, eH⟩ => PySem.W.kdv_all0 ?_)
  subst ev eH
  rw [makeFunction_eq]
  simp only [List.zip_nil_right, List.filterMap_nil, List.isEmpty_nil, if_true, pure_bind, List.isEmpty_cons, Bool.false_eq_true, if_false]
  refine wpAny_bind (wpAny_newTextTuple ?_)
  have J := Inv.laid (a := s1.heap.objs.size) (o := .tup [.int i]) (t' := s1.toks) I1 (h' := s1.heap.push { cls := .type "tuple", data := .seq [u].toArray }) (fun d w e => Heap.get?_push_of_some _ e) (Nat.le_refl _) ⟨by show 1 ≤ sizeLine; decide, [u], .cons r1 .nil, IsTup.new s1.heap _⟩
  have hn := I1.hok.fresh (Nat.le_refl _)
  have kT : ∀ d o, H1 d = some o → upd H1 s1.heap.objs.size (.tup [.int i]) d = some o := fun d o e => by
    rw [upd_ne (ne_of_none e hn)]
    exact e
  refine lam_tail J TB hcode (hT.ext kT) hfree fun f c' doc pm ct H2 s2 I2 kb T2 hc hf hn2 => ⟨.ref f, H2, I2, rfl, h f c' H2 (fun d o n e => kb d o n (kT d o e)) T2 ⟨hc, doc, pm, ct, s1.heap.objs.size, kb _ _ (fun z => ?_) upd_same, hf⟩ ?_⟩
  · obtain ⟨tb, hP, _⟩ := hT
    rw [← z, hn] at hP
    cases hP
  · cases hz : H1 f with
    | none => rfl
    | some o =>
      rw [kT _ _ hz] at hn2
      cases hn2
/-- the lambda's names: captured ones, globals, parameters that its maker has no name of -/
structure LamS1 (N : List Str) (sc0 sc : Scope) : Prop where
  kind : sc.kind = .function
  co : sc.isCoroutine = false
  gen : sc.isGenerator = false
  own : ∀ y ∈ sc.names, y.2 ≠ .cell ∧ (y.2 = .local → y.1 ∉ N)
  free : ∀ y ∈ sc.names, y.2 = .free → sc0.names.lookup y.1 = some .cell ∨ sc0.names.lookup y.1 = some .free
def lamS1B (N : List Str) (sc0 sc : Scope) : Bool :=
  decide (sc.kind = .function) && (!sc.isCoroutine && (!sc.isGenerator && sc.names.all fun y => !decide (y.2 = .cell) && ((!decide (y.2 = .local) || !decide (y.1 ∈ N)) && (!decide (y.2 = .free) || (decide (sc0.names.lookup y.1 = some .cell) || decide (sc0.names.lookup y.1 = some .free))))))
theorem lamS1_by {N : List Str} {sc0 sc : Scope} (h : lamS1B N sc0 sc = true) : LamS1 N sc0 sc := by
  unfold lamS1B at h
  simp only [Bool.and_eq_true, Bool.or_eq_true, Bool.not_eq_true', decide_eq_true_eq, decide_eq_false_iff_not, List.all_eq_true] at h
  obtain ⟨a1, a2, a3, a4⟩ := h
  refine ⟨a1, a2, a3, fun y hy => ⟨(a4 y hy).1, fun e => ?_⟩, fun y hy e => ?_⟩
  · rcases (a4 y hy).2.1 with z | z
    · exact absurd e z
    · exact z
  · rcases (a4 y hy).2.2 with z | z
    · exact absurd e z
    · exact z
theorem LamS1.has {N : List Str} {sc : Scope} (L : LamS1 N X.env.scope sc) (ok : X.Ok) : ∀ y ∈ sc.names, y.2 = .free → ∃ c, X.env.cells.lookup y.1 = some c := fun y hy e => by
  rcases L.free y hy e with z | z
  · exact ok.has _ (.inl z)
  · exact ok.has _ (.inr z)
variable {HZ : Hp} {s1 : Shared}
theorem lam_startD {A : Around} {outer : List Env} {E : XK} {sc : Scope} {f c' : Addr} {h1 : Heap} {tk : Nat} {mm : Str → Option Value} (I : Inv X pins σ H s) (L : LamS1 X.N X.env.scope sc) (e0 : Env0 X.prog X.w X.K X.mg X.base A outer s1 HZ) (hd : A.handled = none)
    (un : Un (frs X.stack) [] H HZ s.heap s1.heap) (hns : h1.Ns s1.heap.objs.size mm) (kp : ∀ d o, s1.heap.get? d = some o → h1.get? d = some o) : Inv (lamCx X A outer s1 HZ E sc f c') [] σ HZ { s1 with heap := h1, toks := tk } := by
  have hfree := L.has I.ok
  have cm : ∀ {y d}, (cloFrom X.env.cells sc.names []).lookup y = some d → X.env.cells.lookup y = some d := fun {y d} e => by
    rcases cloFrom_mem (PySem.mem_of_lookup e) with hm | ⟨g1, g2⟩
    · cases hm
    · obtain ⟨d1, hd1⟩ := hfree _ g1 rfl
      have hd2 : X.env.cells.lookup y = some d1 := hd1
      rw [show d = d1 by rw [g2, hd2] <;> rfl]
      exact hd2
  have look : ∀ {y}, sc.names.lookup y = some .free → ∃ d, (cloFrom X.env.cells sc.names []).lookup y = some d := fun {y} hl => mem_lookup (cloFrom_has (cells := X.env.cells) (acc := []) (show (y, NameKind.free) ∈ sc.names from PySem.mem_of_lookup hl))
  have cellK : ∀ {d : Addr} {v : Option Value}, H d = none → s.heap.IsCell d v → h1.IsCell d v := fun {d v} n z => by
    obtain ⟨o, ho, hv⟩ := z
    obtain ⟨sl, q⟩ := un.any ho n (by simp)
    exact ⟨_, kp _ _ q, hv⟩
  have noA : ∀ d : Addr, d ∉ (lamCx X A outer s1 HZ E sc f c').ex := fun d z => by cases (show d ∈ ([] : List Addr) from z)
  have ok : (lamCx X A outer s1 HZ E sc f c').Ok := {
    mod := e0.mod, kind := L.kind, glob := rfl, blt := rfl, above := Nat.le_refl _
    inj := fun y z d e1 e2 => I.ok.inj y z d (cm e1) (cm e2)
    has := fun y hy => by
      rcases (show sc.names.lookup y = some .cell ∨ sc.names.lookup y = some .free from hy) with hy | hy
      · exact absurd rfl (L.own _ (PySem.mem_of_lookup hy)).1
      · exact look hy
    cab := fun y d z _ => by cases (show false = true from z)
    hd := fun _ => hd, frames := Around.frames_deeper e0.frames, stk := .inr ⟨rfl, rfl⟩
    exf := fun d z => absurd z (noA d), bs := e0.bs, bsz := e0.bsz, noex := fun d _ _ => noA d, exfs := fun d z => absurd z (noA d), funs := e0.funs, frf := e0.frf }
  refine { ok := ok, os := rfl, bare := e0.bare, base := Un.kept kp, loc := ⟨_, hns, fun i y v e1 e2 e3 => ?_⟩, cell := fun y d e => ?_, free := e0.hok.fresh (Nat.le_refl _), freeC := fun y d e => ?_, pin := fun q hq => absurd (show q ∈ ([] : List (Addr × Obj)) ++ [] from hq) (by simp), hok := e0.hok.kept kp, len := I.len }
  · rcases (show Vis sc y from e3) with k | k | k
    · exact absurd (List.mem_of_getElem? (show X.N[i]? = some y from e1)) ((L.own _ (PySem.mem_of_lookup k)).2 rfl)
    · exact absurd rfl (L.own _ (PySem.mem_of_lookup k)).1
    · obtain ⟨m0, hn0, hl0⟩ := I.loc
      have fr := L.free _ (PySem.mem_of_lookup k) rfl
      have hvis : Vis X.env.scope y := fr.elim (fun z => .inr (.inl z)) fun z => .inr (.inr z)
      obtain ⟨u, r, q⟩ := hl0 i y v e1 e2 hvis
      obtain ⟨d2, g2⟩ := look k
      refine ⟨u, r, .inr ⟨.inr k, d2, g2, ?_⟩⟩
      have d1 := cm g2
      rcases q with ⟨k', _⟩ | ⟨_, d3, e', z⟩
      · have k2 : X.env.scope.names.lookup y = some .local := k'
        rcases fr with z | z
        · cases (show some NameKind.local = some .cell from k2.symm.trans z)
        · cases (show some NameKind.local = some .free from k2.symm.trans z)
      · rw [d1] at e'
        cases e'
        exact cellK (I.freeC y _ d1) z
  · obtain ⟨u, z⟩ := I.cell y d (cm e)
    exact ⟨u, cellK (I.freeC y d (cm e)) z⟩
  · obtain ⟨v, o, ho, hv⟩ := I.cell y d (cm e)
    exact un.free d o ho (I.freeC y d (cm e)) (by simp)
/-- what the lambda's parameters become when nothing is given -/
def LamBind (ps : Arguments) (b : Expr) (sc : Scope) : Option Int → Prop
  | none => ∀ (q : Str) (cl : List (Str × Addr)) (doc pm cv ct : Value), bindArgs (PySem.W.kdv_fn "<lambda>" q ps (.expr b) sc cl .none doc pm cv ct) ⟨[], []⟩ = pure []
  | some _ => ∃ x0, sc.names.lookup x0 = some .local ∧ ∀ (q : Str) (cl : List (Str × Addr)) (T : Addr) (doc pm cv ct u : Value), ∃ r, bindArgs (PySem.W.kdv_fn "<lambda>" q ps (.expr b) sc cl (.ref T) doc pm cv ct) ⟨[], []⟩ = (seqItems? (.ref T) >>= r) ∧ r (some #[u]) = pure [(x0, u)]
theorem pe_actV {CXg : CXT} {Eg : XK} {Ng : List Str} {qg : Str} {sg : Scope} {g f c' : Addr} {cdg : Value} {ps : Arguments} {b : Expr} {sc : Scope} {df : Option Int} {k i : Nat} {a : Str} {pn : List (Addr × Obj)} {xe : Value → Shared → Prop} {W : WX} {E : XK} {tb : TE} {p1 p2 : Pos}
    (I : Inv X pins σ H s) (L : LamS1 X.N X.env.scope sc) (hbind : LamBind ps b sc df) (tk : Takes ((cxOf CXg X.prog X.w X.K X.mg X.base Ng qg sg g cdg X.A X.stack s H Eg).tr pn xe) W) (hW : ∀ cls d σ' H', E cls d H' → W cls d σ' H') (hr : Room (k + 1) (X.A.deeper (envOfC qg sg s.heap.objs.size g cdg)))
    (hbody : ∀ (A : Around) (outer : List Env) (s : Shared) (H : Hp), Room k (A.deeper (lamEnv X sc s.heap.objs.size f c')) → PE (lamCx X A outer s H E sc f c') b tb) (hN : Ng[i]? = some a) (hv : Vis sg a) (hd : (a == ("__debug__" : Str)) = false := by decide) (hcd : (a == ("__classdict__" : Str)) = false := by decide) :
    PE ((cxOf CXg X.prog X.w X.K X.mg X.base Ng qg sg g cdg X.A X.stack s H Eg).tr pn xe) (.Call (.Name a p1) [] [] p2) (fun σ0 H0 R => σ0[i]? = some (some (.ref f)) ∧ LamAt X ps b sc df H0 f c' ∧ tb σ H0 R) := by
  refine ⟨fun pz sZ σ0 H0 R IZ ⟨hs, hat, ht⟩ => ?_⟩
  refine wpAny_Call_Name_kw (thn ((pe_var (pos := p1) (i := i) hN hv hd hcd).run pz sZ σ0 H0 (fun v H1 => v = .ref f ∧ H1 = H0) IZ ⟨.ref f, hs, rfl, rfl⟩) fun u s1 ⟨v, H1, I1, r1, ev, eH⟩ => ?_)
  subst ev
  subst eH
  obtain rfl : u = Value.ref f := r1
  obtain ⟨hc, doc, pm, ct, hdf⟩ := hat
  obtain ⟨⟨oc, vs, t, hoc, hdc, hvc⟩, _, _⟩ := I1.hok c' _ hc
  have un : Un (frs X.stack) [] H H1 s.heap s1.heap := I1.base
  have go : ∀ (dV : Value), s1.heap.get? f = some (lamObj X ps b sc dV doc pm ct c') → (∀ (M : Model) (A : Around) (E' : Value → Shared → Prop) (Q' : List (Str × Value) → Shared → Prop), (∀ bs, (∀ y ∈ bs, sc.names.lookup y.1 = some .local) → Q' bs s1) → wpAny M A (bindArgs (PySem.W.kdv_fn "<lambda>" (X.env.qual ++ "<lambda>") ps (.expr b) sc (cloFrom X.env.cells sc.names []) dV doc pm (.ref c') ct) ⟨[], []⟩) Q' E' s1) →
      codeAny (model X.prog X.w) (X.A.deeper (envOfC qg sg s.heap.objs.size g cdg)) (.call (.ref f) ⟨[], []⟩) (CR (L2.CX X.prog X.w) (envOfC qg sg s.heap.objs.size g cdg :: X.stack) X.prog X.w H1 s1 R E) s1 := fun dV hf hb => by
    refine PySem.W.kla_callFunE hr.depth hf rfl L.co L.gen rfl ⟨c', oc, vs, t, rfl, hoc, hdc, hvc⟩ (hb _ _ _ _ fun bs hbs => ?_)
    refine wpAny_newFunctionEnv (fun y hy => (L.own y hy).1) hbs (fun h1 hns hsb => ⟨I1.nolimit.fresh _ hsb, ?_⟩) L.kind
    have kp : ∀ d o, s1.heap.get? d = some o → h1.get? d = some o := fun d o e => hsb.extBut d o (Nat.ne_of_lt (Heap.lt_size e)) (Heap.get?_push_of_some _ e)
    have J := lam_startD (tk := s1.toks + bs.length) (E := E) (f := f) (c' := c') I L I1.env0 hr.hd un hns kp
    refine PySem.W.kla_codeExpr (wpAny_mono ((hbody _ _ s1 H1 (hr.deeper _)).run [] _ _ H1 R J ht) (fun v s' ⟨v', H', J', rv, q⟩ => ?_) fun e s' hq => hq)
    exact ⟨v', H', J'.os, J'.bare, J'.base, J'.hok, rv, q⟩
  have rc : PySem.W.FnAt f s1.heap ∧ codeAny (model X.prog X.w) (X.A.deeper (envOfC qg sg s.heap.objs.size g cdg)) (.call (.ref f) ⟨[], []⟩) (CR (L2.CX X.prog X.w) (envOfC qg sg s.heap.objs.size g cdg :: X.stack) X.prog X.w H1 s1 R E) s1 := by
    cases df with
    | none =>
      obtain ⟨hf, _, _⟩ := I1.hok f _ hdf
      refine ⟨⟨_, _, _, _, hf⟩, go _ hf fun M A E' Q' q => ?_⟩
      rw [hbind]
      exact wpAny_pure (q [] fun y hy => by cases hy)
    | some n =>
      obtain ⟨T, hT, hdf⟩ := hdf
      obtain ⟨hf, _, _⟩ := I1.hok f _ hdf
      obtain ⟨_, its, hv', hIT⟩ := I1.hok T _ hT
      refine ⟨⟨_, _, _, _, hf⟩, go _ hf fun M A E' Q' q => ?_⟩
      obtain ⟨x0, hx0, hb⟩ := hbind
      cases hv' with
      | @cons _ w0 _ _ r0 rs =>
      cases rs
      obtain ⟨r, b1, b2⟩ := hb (X.env.qual ++ "<lambda>") (cloFrom X.env.cells sc.names []) T doc pm (.ref c') ct w0
      obtain ⟨o, ho, _, nn, hdat⟩ := hIT
      refine (BindsTo.of_defaults (T := T) (items := #[w0]) (n := nn) rfl ho hdat b1 b2) M A E' Q' (q _ fun y hy => ?_)
      rw [List.mem_singleton.mp hy]
      exact hx0
  refine PySem.W.callWith_F0 rc.1 (wpAny_call (codeAny_mono rc.2 fun r s' hq => ?_))
  have hx : Passes (L2.CX X.prog X.w) ((cxOf CXg X.prog X.w X.K X.mg X.base Ng qg sg g cdg X.A X.stack s H Eg).tr pn xe) E := passes_call tk hW
  cases r with
  | error e => exact hx pz σ0 H1 s1 e s' I1 hq
  | ok fl => cases fl with
    | ret u => exact I1.after hq
    | next => exact False.elim hq
    | brk => exact False.elim hq
    | cont => exact False.elim hq
end
/-- one lambda of X, read -/
structure LamK (X : Cx) (k : Nat) where
  ps : Arguments
  b : Expr
  sc : Scope
  df : Option Int
  t : XK → TE
  L : LamS1 X.N X.env.scope sc
  bind : LamBind ps b sc df
  body : ∀ (A : Around) (outer : List Env) (s : Shared) (H : Hp) (E : XK) (f c' : Addr), Room k (A.deeper (lamEnv X sc s.heap.objs.size f c')) → PE (lamCx X A outer s H E sc f c') b (t E)
def tGive (X : Cx) (k : Nat) (te : TE) (TT : (XK → Hp → VK → Prop) → Hp → VK → Prop) : TE := fun σ H Q => te σ H fun v H1 => ∃ (l : LamK X k) (f c' : Addr), v = .ref f ∧ LamAt X l.ps l.b l.sc l.df H1 f c' ∧ TT (fun E H' Q' => l.t E σ H' Q') H1 Q
/-- a def that calls what it gets: the context's parts that GivesP speaks of -/
def GivesQ (X : Cx) (Ng : List Str) (x : Str) (sg : Scope) (g : Addr) (cdg : Value) (bg : List Stmt) (a : Str) (TT : (XK → Hp → VK → Prop) → Hp → VK → Prop) : Prop :=
  ∀ (f : Addr) (pre : Hp → Prop) (s : Shared) (H : Hp) (Q : VK) (tl : XK → Hp → VK → Prop),
    (∀ (W : WX) (pn : List (Addr × Obj)) (xe : Value → Shared → Prop) (E : XK) (p1 p2 : Pos), Takes ((cxOf C8.CX0 X.prog X.w X.K X.mg X.base Ng x sg g cdg X.A X.stack s H C8.E0).tr pn xe) W → (∀ cls d σ' H', E cls d H' → W cls d σ' H') →
      PE ((cxOf C8.CX0 X.prog X.w X.K X.mg X.base Ng x sg g cdg X.A X.stack s H C8.E0).tr pn xe) (.Call (.Name a p1) [] [] p2) (fun σ0 H0 R => σ0[0]? = some (some (.ref f)) ∧ pre H0 ∧ tl E H0 R)) →
    pre H → TT tl H Q → ∃ t, PSs (cxOf C8.CX0 X.prog X.w X.K X.mg X.base Ng x sg g cdg X.A X.stack s H C8.E0).nox bg t ∧ t { nx := fun _ H' => Q .non H', rt := Q } (L2.start Ng [.ref f]) H
theorem pe_give {X : Cx} {TT : (XK → Hp → VK → Prop) → Hp → VK → Prop} {x a : Str} {g : Addr} {k : Nat} {pg : Arguments} {bg : List Stmt} {sg : Scope} {dV kV doc pm cdv ct oc : Value} {an od : Option Addr} {osl : Array (Option Value)} {Ng : List Str} {e : Expr} {te : TE} {p pos : Pos}
    (hg : Gl X x) (hm : X.mg x = some (.ref g)) (hk : PySem.W.keepIn X.K (.ref g) = true) (lk : X.K.lookup g = some ⟨oc, od, .func (PySem.W.fnOf x x pg bg sg dV kV doc pm an cdv ct), osl⟩) (hcg : PySem.W.codeIn X.K cdv x = true) (hb : L2.Binds X.K (PySem.W.fnOf x x pg bg sg dV kV doc pm an cdv ct) [a] []) (Sg : FnScope Ng [a] sg) (hNg : Ng[0]? = some a) (hva : Vis sg a)
    (hG : GivesQ X Ng x sg g cdv bg a TT) (hr : Room (k + 2) X.A) (he : PE X e te) (hst : starEach [e] X.env = (false, eval e X.env) :: starEach [] X.env := by rfl) (hpl : (backTo pos (starEach [] X.env)).any (·.1) = false := by rfl)
    (hdb : (x == ("__debug__" : Str)) = false := by decide) (hd : (a == ("__debug__" : Str)) = false := by decide) (hcd : (a == ("__classdict__" : Str)) = false := by decide) : PE X (.Call (.Name x p) [e] [] pos) (tGive X k te TT) := by
  refine ⟨fun pins s σ H Q I h => ?_⟩
  refine wpAny_Call_Name_kw (ld_glob I hg hm (PySem.W.callWith_K (h₀ := X.base) I.ok.mod.kin hk ?_ hst hpl) hdb)
  rw [hst]
  show wpAny _ _ (spliced ((false, eval e X.env) :: backTo pos (starEach [] X.env))) _ _ s
  refine Calls.spliced_cons (thn (he.run pins s σ H _ I h) fun u s1 ⟨v, H1, I1, r1, l, f, c', ev, hat, hq⟩ => Calls.spliced_nil ⟨I1.kIn, ?_⟩)
  subst ev
  obtain rfl : u = Value.ref f := r1
  have rc : codeAny (model X.prog X.w) X.A (.call (.ref g) ⟨[.ref f], []⟩) (CR C8.CX0 X.stack X.prog X.w H1 s1 Q C8.E0) s1 := by
    refine run_ofS (N := Ng) (ps := [a]) (us := [.ref f]) (vs := [.ref f]) lk hcg Sg hr I1.env0 (hb s1 [.ref f] I1.kIn rfl) (.cons rfl .nil) rfl fun hr' => ?_
    obtain ⟨t', ht', hq'⟩ := hG f (fun H0 => LamAt X l.ps l.b l.sc l.df H0 f c') s1 H1 Q (fun E H' Q' => l.t E σ H' Q') (fun W pn xe E p1 p2 tk hW => pe_actV (i := 0) I1 l.L l.bind tk hW hr' (fun A outer s H hr2 => l.body A outer s H E f c' hr2) hNg hva hd hcd) hat hq
    exact ⟨t', ht'.nox, hq'⟩
  refine wpAny_call (codeAny_mono rc fun r s2 hq => ?_)
  cases r with
  | error e => exact (show False from hq).elim
  | ok fl => cases fl with
    | ret u => exact I1.after hq
    | next => exact False.elim hq
    | brk => exact False.elim hq
    | cont => exact False.elim hq
end FS
set_option maxHeartbeats 2000000
namespace FS
open PySem PySem.Spec PyProof.Rows L2
section
variable {X : Cx} {e : Expr} {es : List Expr} {ta : TA} {p1 p2 pos : Pos} {S : Addr} {x : Str}
theorem pe_baseinit {pl : Sem Bool} (hg : Gl X x) (hm : X.mg x = some (.ref S)) (rd : ClX.CRead X.K S (.type "type")) (fv : PySem.W.findCls X.K (.ref S) (.type "type") "__init__" = some (.val (.builtin "ValueError.__init__"))) (ha : PA X (e :: es) ta)
    (hc : eval (.Call (.Attribute (.Name x p1) "__init__" p2) (e :: es) [] pos) X.env = (do
      let ov ← eval (.Name x p1) X.env
      standAt p2.atName
      let (f, first) ← holding [ov] (getMethod ov "__init__" pl)
      callWith pos f first (backTo pos (starEach (e :: es) X.env)) (backToKw pos (keywordEach [] X.env))) := by rfl)
    (hdb : (x == ("__debug__" : Str)) = false := by decide)
    (he : starEach (e :: es) X.env = (false, eval e X.env) :: starEach es X.env := by rfl) (hpl : (backTo pos (starEach es X.env)).any (·.1) = false := by rfl) :
    PE X (.Call (.Attribute (.Name x p1) "__init__" p2) (e :: es) [] pos) (tVeI X.K ta) := by
  refine ⟨fun pins s σ H Q I h => PySem.W.methodCall_KW (ld_glob I hg hm ?_ hdb) hc⟩
  refine PySem.W.method_cls I.kIn rd.ga (PySem.W.cls_value I.kIn rd.rd fv (by decide +kernel) ?_)
  show wpAny _ _ (callWith pos (Value.builtin "ValueError.__init__") [] (backTo pos (starEach (e :: es) X.env)) []) _ _ _
  refine PyProof.Rows.callWith_method1 (thn (ha.run pos pins _ σ H _ (I.tok _) h) fun us s1 ⟨vs, H1, I1, r1, a, C, ws, ev, hl, T, ea, q⟩ => ?_) he hpl
  subst ev
  cases r1 with
  | @cons _ u0 _ ur ra rw' =>
    obtain rfl : u0 = Value.ref a := ra
    have hlen : ur.length ≤ sizeLine := by
      have z := Paired.length rw'
      rw [sizeLine_eq]
      omega
    exact oinit_ok T I1 ea hlen fun s' J => ⟨.non, H1, J, rfl, q⟩
end
end FS
namespace PySem.W
open PySem PySem.Spec PySem.Calls PyProof.Rows
section
variable {prog : Program} {w : World} {A : Around} {E : Value → Shared → Prop} {s : Shared} {K : Frag} {x D : Addr} {ox od : Obj}
/-- x.__class__, x an error with a dict of its own -/
theorem fs_classD {Q : Option Value → Shared → Prop} (hga : findIn K (.ref D) "__getattribute__" = some (some (.builtin "BaseException.__getattribute__"))) (hgt : findIn K (.ref D) "__getattr__" = some none) (hsub : subIn K (.ref D) (.type "BaseException") = some true)
    (hdct : hasDictIn K D = true) (ha : findIn K (.ref D) "__class__" = some (some (.builtin "object.__class__")))
    (hn : specialIn K (.builtin "object.__class__") "__get__" = some (some (.builtin "getset_descriptor.__get__"))) (htk : takesIn K (.builtin "object.__class__") = some true) (hm : mroIn K D (.type "object") = some true)
    (X : K.In s.heap) (I : InstAt s.heap x ox D (some od)) (h : Q (some (.ref D)) { s with toks := s.toks + 1 }) : wpAny (model prog w) A (getAttr? (.ref x) "__class__") Q E s := by
  have hcl : (clsIn K D).isSome = true := by
    obtain ⟨cd, hcd, _⟩ := any_some hdct
    rw [hcd]
    rfl
  have hf := findObj_data (od := od) hcl ha hn htk
  obtain ⟨hp, gs, dr, tk, os⟩ := s
  have T0 := I.type (M := model prog w)
  have T1 := looks_findIn (M := model prog w) X hga
  have T2 := looks_findIn (M := model prog w) X hgt
  have T3 := looks_find (M := model prog w) X I hf
  have sub : Looks (model prog w) hp (isInstance (.ref x) (.type "BaseException")) true := T0.andThen (looks_subIn X hsub)
  have n2 : (Value.builtin "BaseException.__getattribute__" == Value.builtin "object.__getattribute__") = false := by decide +kernel
  have n1 : (onTheHeap (Value.ref D) && Value.builtin "BaseException.__getattribute__" == Value.builtin "object.__getattribute__") = false := by rw [n2]; rfl
  have n0 : (false && onTheHeap (Value.builtin "BaseException.__getattribute__")) = false := rfl
  unfold getAttr? getAttrBy? getAttrBy
  refine wpAny_bind (wpAny_mkText (wpAny_bind (wpAny_attempt (wpAny_holding (wpAny_bind (T0.at (wpAny_bind (T1.at ?_))))))))
  show wpAny _ _ (if (onTheHeap (Value.ref D) && Value.builtin "BaseException.__getattribute__" == Value.builtin "object.__getattribute__") = true then _ else _) _ _ _
  rw [n1, if_neg Bool.false_ne_true]
  unfold getAttrByItsOwn hookBefore
  refine wpAny_bind ?_
  rw [if_pos (show onTheHeap (Value.ref D) = true from rfl)]
  refine T2.at (wpAny_bind (wpAny_attempt (wpAny_holding ?_)))
  unfold callGetattribute
  rw [n0, if_neg Bool.false_ne_true]
  unfold boundAndCalled
  rw [PySem.F.excAttr_ValueError.ga.bind (.ref x)]
  refine wpAny_bind (wpAny_pure ?_)
  show wpAny _ _ (call (.builtin "BaseException.__getattribute__") [.ref x, .str "__class__" tk]) _ _ _
  refine wpAny_call (codeAny_call_builtin PySem.F.excAttr_ValueError.ga.plain PySem.F.entry_bexc_ga ?_)
  refine @check_slot (model prog w) _ _ ⟨hp, gs, dr, tk + 1, os⟩ "BaseException.__getattribute__" "BaseException" "__getattribute__" (.ref x) [.str "__class__" tk] [] _ (by decide +kernel) (by decide +kernel) sub (PySem.F.args_bexc_ga (.ref x) (.str "__class__" tk)) ?_
  unfold Builtin.«object.__getattribute__»
  refine wpAny_bind (wpAny_of_eq (a := ((Value.ref x : Value), [Value.str "__class__" tk])) (by first | rfl | (simp only [slotArgs]; rfl)) ?_)
  refine wpAny_bind (wpAny_pure (wpAny_bind (T0.at (wpAny_bind (T3.at ?_)))))
  show wpAny _ _ (holding [Value.builtin "object.__class__"] (call (.builtin "getset_descriptor.__get__") [.builtin "object.__class__", .ref x, .ref D]) >>= ret) _ _ _
  refine wpAny_bind (wpAny_holding (wpAny_call (class_get (s := ⟨hp, gs, dr, tk + 1, os⟩) (ox := ox) (od := some od) X I hm ?_)))
  refine wpAny_pure ?_
  show wpAny _ _ (handedOut (.ref D)) _ _ _
  rw [handedOut_of (v := .ref D) rfl]
  first
    | exact wpAny_pure (wpAny_pure h)
    | exact wpAny_pure h
    | exact wpAny_pure (wpAny_bind (wpAny_pure (wpAny_pure h)))
theorem fs_kitD (hga : findIn K (.ref D) "__getattribute__" = some (some (.builtin "BaseException.__getattribute__"))) (hgt : findIn K (.ref D) "__getattr__" = some none) (hsub : subIn K (.ref D) (.type "BaseException") = some true) (hdct : hasDictIn K D = true) (ha : findIn K (.ref D) "__class__" = some (some (.builtin "object.__class__")))
    (hn : specialIn K (.builtin "object.__class__") "__get__" = some (some (.builtin "getset_descriptor.__get__"))) (htk : takesIn K (.builtin "object.__class__") = some true) (hm : mroIn K D (.type "object") = some true) :
    KitX K (.ref x) (.ref D) (fun h => ∃ ox od, InstAt h x ox D (some od)) where
  ty := fun _ _ _ ⟨_, _, I⟩ => I.type
  it := fun _ _ X _ => by
    obtain ⟨cd, hcd, _⟩ := any_some hdct
    unfold clsIn at hcd
    split at hcd
    · rename_i _ _ _ _ hk
      intro A' Q' E' s' kp q
      unfold isType loadHead
      exact wpAny_bind (wpAny_loadPart (kp _ _ (X _ _ hk)) (wpAny_pure q))
    · cases hcd
  ne := (handS_kitx_exc (ox := default) (x := x) hga hgt hsub hdct ha hn htk hm).ne
  ca := fun X ⟨_, _, I⟩ k => fs_classD hga hgt hsub hdct ha hn htk hm X I k
end
end PySem.W
namespace FS
open PySem PySem.Spec PyProof.Rows L2
/-- isinstance(e, c), e the error that the suite holds, with a dict of its own -/
theorem call_isD {X : Cx} {a D d : Addr} {oe : Obj} {pn : List (Addr × Obj)} (C : ExcC X.K D) (hz : Zc (.ref D) (some d) oe) (hf : ∃ vs, oe.data = .fields vs) :
    CallR (X.suite a ((a, oe) :: pn)) (.builtin "isinstance") (fun xs H Q => rIsE X.K D a xs H Q ∧ ∃ fs, H d = some (.xd fs)) := by
  intro pins s σ H xs us Q I r h
  obtain ⟨⟨c, cv, b, ev, hcv, e, q⟩, fs, hd⟩ := h
  subst ev
  obtain ⟨u1, u2, eu, rx, rt⟩ := vals2 r
  subst eu
  cases rx
  have ec := hcv _ rt
  subst ec
  obtain ⟨hget, _⟩ := I.pin (a, oe) (List.mem_append.mpr (.inl List.mem_cons_self))
  obtain ⟨vs, hv⟩ := hf
  obtain ⟨mA, hns, _⟩ := (show ObjOk X.prog X.w H s.heap d (.xd fs) from I.hok d _ hd)
  obtain ⟨od, ho, _⟩ := lookIn_ns hns
  have J : PySem.W.InstAt s.heap a oe D (some od) := ⟨hget, hz.1, by unfold PySem.W.notCls; rw [hv] <;> rfl, by rw [hz.2]; exact ho⟩
  exact PySem.W.kia_one (PySem.W.fs_kitD C.hg C.hk C.hs C.hd C.ha C.hn C.ht C.hm) I.kIn ⟨oe, od, J⟩ e (fun z => nomatch z) fun tk => ⟨.bl b, H, I.kept (t' := tk) fun _ _ z => z, rfl, q⟩
end FS
set_option maxHeartbeats 2000000
namespace FS
open PySem PySem.Spec PyProof.Rows L2
abbrev PG0 : Program := PySem.Challenge.pw_flagsteps_k53_clauses_learned
def top (i : Nat) : Stmt := PG0.main.body.getD i (.Pass ⟨0, 0, 0, 0⟩)
abbrev sIsName : Stmt := top 29
abbrev sIsClause : Stmt := top 30
abbrev sChkNames : Stmt := top 31
abbrev sChkClauses : Stmt := top 32
abbrev sChkState : Stmt := top 33
abbrev sFulfils : Stmt := top 35
abbrev sAmong : Stmt := top 36
abbrev sLaw : Stmt := top 58
abbrev sAllStates : Stmt := top 39
abbrev iIR : Nat := 4
abbrev iIS : Nat := 8
abbrev iRules : Nat := 37
abbrev sDice : Stmt := top 49
abbrev sNext : Stmt := top 50
abbrev sLike : Stmt := top 51
abbrev sPick : Stmt := top 52
abbrev sTold : Stmt := top 53
abbrev sNames5 : Stmt := top 54
abbrev sKeeps : Stmt := top 55
abbrev sAll5 : Stmt := top 56
abbrev sCommonCl : Stmt := top 44
abbrev sLearnRules : Stmt := top 46
abbrev sClosure : Stmt := top 47
abbrev sCandidates : Stmt := top 42
abbrev sNeeded : Stmt := top 45
abbrev sAllCommon : Stmt := top 43
abbrev sChkStates : Stmt := top 41
abbrev iISs : Nat := 13
abbrev sCandL : Stmt := top 57
end FS
set_option maxHeartbeats 2000000
namespace FS
open PySem PySem.Spec PyProof.Rows L2
theorem sub_cmb : isSubtype (.type "itertools.combinations") (.type "itertools.combinations") = pure true := by rw [isSubtype_type]; kernel_rfl
theorem mro_cmb : mroOf (.type "itertools.combinations") = pure [.type "itertools.combinations", .type "object"] := by rw [mroOf_type]; kernel_rfl
theorem new_cmb : typeLookup (.type "itertools.combinations") "__new__" = pure (some (.builtin "itertools.combinations.__new__")) := by rw [typeLookup_type, builtinLookup_eq_fast]; kernel_rfl
theorem init_cmb : Slot "itertools.combinations" "__init__" "object.__init__" :=
  .of (owner := "object") (n := "__init__") (by rw [typeLookup_type, builtinLookup_eq_fast]; kernel_rfl) (by decide +kernel) (by decide +kernel) (by decide +kernel)
    (by first | exact .inl (by decide +kernel) | exact .inr (by decide +kernel)) (by rw [isSubtype_type]; kernel_rfl)
theorem called_cmb : TypeCalled "itertools.combinations" "itertools.combinations.__new__" "object.__init__" :=
  ⟨by decide +kernel, by decide +kernel, ⟨_, _, mro_cmb⟩, madeBy_type mro_cmb new_cmb (by decide +kernel), by decide +kernel, sub_cmb, init_cmb⟩
theorem tyCall_cmb (a b : Value) : checkTypeCall "itertools.combinations" ⟨[a, b], []⟩ = pure () := by kernel_rfl
theorem nwCall_cmb (a b : Value) : checkBuiltinCall "itertools.combinations.__new__" ⟨[.type "itertools.combinations", a, b], []⟩ = pure () := by kernel_rfl
theorem ent_cmb_new : entryFor table "itertools.combinations.__new__" = some Builtin.«itertools.combinations.__new__» := entryFor_of_tree (by kernel_rfl)
theorem iter_cmb : Slot "itertools.combinations" "__iter__" "itertools.combinations.__iter__" :=
  .of (owner := "itertools.combinations") (n := "__iter__") (by rw [typeLookup_type, builtinLookup_eq_fast]; kernel_rfl) (by decide +kernel) (by decide +kernel) (by decide +kernel)
    (by first | exact .inl (by decide +kernel) | exact .inr (by decide +kernel)) sub_cmb
theorem next_cmb : Slot "itertools.combinations" "__next__" "itertools.combinations.__next__" :=
  .of (owner := "itertools.combinations") (n := "__next__") (by rw [typeLookup_type, builtinLookup_eq_fast]; kernel_rfl) (by decide +kernel) (by decide +kernel) (by decide +kernel)
    (by first | exact .inl (by decide +kernel) | exact .inr (by decide +kernel)) sub_cmb
theorem ent_cmb_iter : entryFor table "itertools.combinations.__iter__" = some Builtin.«dict_keyiterator.__iter__» :=
  entryFor_alias (id' := "dict_keyiterator.__iter__") (by kernel_rfl) (by first | rfl | decide +kernel | (unfold String.splitOn; simp +decide [String.splitOnAux])) (by decide +kernel) (by kernel_rfl)
theorem ent_cmb_next : entryFor table "itertools.combinations.__next__" = some Builtin.«itertools.combinations.__next__» := entryFor_of_tree (by kernel_rfl)
theorem own_cmb : Manifest.owners.lookup (String.ofList ("itertools.combinations".toList.reverse.reverse)) = some Manifest.sig_itertools_combinations := by kernel_rfl
theorem arg_cmb_iter (a : Value) : argsOk "itertools.combinations.__iter__" ⟨[a], []⟩ := by
  unfold argsOk; rw [signature?_of (id := "itertools.combinations.__iter__") (n := "__iter__".toList.reverse) (o := "itertools.combinations".toList.reverse) (by kernel_rfl) own_cmb]; kernel_rfl
theorem arg_cmb_next (a : Value) : argsOk "itertools.combinations.__next__" ⟨[a], []⟩ := by
  unfold argsOk; rw [signature?_of (id := "itertools.combinations.__next__") (n := "__next__".toList.reverse) (o := "itertools.combinations".toList.reverse) (by kernel_rfl) own_cmb]; kernel_rfl
theorem noDict_cmb : typeHasDict (.type "itertools.combinations") = false := by decide +kernel
/-- such an object: the pool's tuple, how far it is, its last tuple, the places -/
abbrev CmbObj (pool : Value) (st : Int) (last : Value) (ix : List Nat) : Obj := { cls := .type "itertools.combinations", data := .fields ([pool, rawInt st, last] ++ ix.map fun (i : Nat) => rawInt i).toArray }
theorem cat_cmb : ("itertools." ++ "combinations" : String) = "itertools.combinations" := by decide +kernel
/-- the heap behind the making -/
def cmbHeap (h : Heap) (vs : List Value) (n : Nat) : Heap := ((((h.push (seqObj "list" #[] 0)).update h.objs.size (Obj.mapSeq (· ++ vs.toArray)))).push { cls := .type "tuple", data := .seq vs.toArray }).push (CmbObj (.ref (h.objs.size + 1)) 0 .none (List.range n))
theorem meets_cmb {l : Addr} {vs : List Value} {n : Int} {t : Tok} (h0 : 0 ≤ n) (h1 : n ≤ 1000) (hn : ¬ n.toNat > vs.length) (hz : vs.length ≤ sizeLine) :
    Meets (Builtin.«itertools.combinations.__new__» ⟨[.type "itertools.combinations", .ref l, .int n t], []⟩) (fun _ R s => s.heap.IsList l vs.toArray ∧
      R (.ok (.ret (.ref (s.heap.objs.size + 2)))) { s with heap := cmbHeap s.heap vs n.toNat }) :=
  .of_wp fun prog w A R s hyp => by
    obtain ⟨hp, g, dd, tk, os⟩ := s
    obtain ⟨hl, hyp⟩ := hyp
    have hsub : isSubtype (.type "itertools.combinations") (.type ("itertools." ++ "combinations")) = pure true := by rw [cat_cmb]; exact sub_cmb
    have hd := noDict_cmb
    have e1 : ¬ n < 0 := by omega
    have e2 : ¬ (Builtin.Itertools.itTooMany n = true) := by
      unfold Builtin.Itertools.itTooMany
      simp only [decide_eq_true_eq]
      omega
    have e0 : ¬ ((decide (n < -2 ^ 63) || decide (n ≥ 2 ^ 63)) = true) := by
      rw [Bool.or_eq_true, decide_eq_true_eq, decide_eq_true_eq]
      omega
    have e3 : (if n.toNat > vs.length then (2 : Int) else 0) = 0 := if_neg hn
    repeat (first
      | (with_reducible refine wpAny_bind (collect_list hl ?_ (hsz := hz)))
      | (with_reducible refine collect_list hl ?_ (hsz := hz))
      | wp_step
      | (rw [if_neg e0])
      | (rw [if_neg e1])
      | (rw [if_neg e2])
      | simp only [List.head?_cons, Option.some_or, List.getElem?_cons_succ, List.getElem?_cons_zero, List.length_cons, List.length_nil, List.forIn_nil])
    try dsimp only
    rw [e3]
    have e5 : ((hp.push (seqObj "list" #[] 0)).update hp.objs.size (Obj.mapSeq (· ++ vs.toArray))).objs.size = hp.objs.size + 1 := by rw [Heap.size_update, size_push']
    rw [if_neg (by
      simp only [List.size_toArray, List.length_append, List.length_map, List.length_range, List.length_cons, List.length_nil]
      rw [sizeLine_eq]
      omega)]
    repeat wp_step
    refine ⟨_, rfl, ?_⟩
    have e6 : (((hp.push (seqObj "list" #[] 0)).update hp.objs.size (Obj.mapSeq (· ++ vs.toArray))).push { cls := .type "tuple", data := .seq vs.toArray }).objs.size = hp.objs.size + 2 := by rw [size_push', e5]
    rw [e6, e5]
    exact hyp
section
variable {prog : Program} {w : World} {A : Around} {E : Value → Shared → Prop} {s : Shared}
theorem call_cmb {l : Addr} {vs : List Value} {n : Int} {t : Tok} {Q : Value → Shared → Prop} (hl : s.heap.IsList l vs.toArray) (h0 : 0 ≤ n) (h1 : n ≤ 1000) (hn : ¬ n.toNat > vs.length) (hz : vs.length ≤ sizeLine)
    (h : Q (.ref (s.heap.objs.size + 2)) { s with heap := cmbHeap s.heap vs n.toNat }) :
    wpAny (model prog w) A (call (.type "itertools.combinations") [.ref l, .int n t]) Q E s := by
  refine callType_new called_cmb (by decide +kernel) (tyCall_cmb _ _) (nwCall_cmb _ _) (fun obj => F.args_object_init_3 obj _ _) ent_cmb_new (meets_cmb h0 h1 hn hz) ⟨hl, ?_⟩
  show _ ∧ _
  have e5 : ((s.heap.push (seqObj "list" #[] 0)).update s.heap.objs.size (Obj.mapSeq (· ++ vs.toArray))).objs.size = s.heap.objs.size + 1 := by rw [Heap.size_update, size_push']
  have e6 : (((s.heap.push (seqObj "list" #[] 0)).update s.heap.objs.size (Obj.mapSeq (· ++ vs.toArray))).push { cls := .type "tuple", data := .seq vs.toArray }).objs.size = s.heap.objs.size + 2 := by rw [size_push', e5]
  refine ⟨⟨CmbObj (.ref (s.heap.objs.size + 1)) 0 .none (List.range n.toNat), ?_, rfl⟩, h⟩
  show (cmbHeap s.heap vs n.toNat).get? _ = _
  unfold cmbHeap
  rw [← e6]
  exact Heap.get?_push_size _ rfl
theorem cmbHeap_it {h : Heap} {vs : List Value} {n : Nat} : (cmbHeap h vs n).get? (h.objs.size + 2) = some (CmbObj (.ref (h.objs.size + 1)) 0 .none (List.range n)) := by
  have e5 : ((h.push (seqObj "list" #[] 0)).update h.objs.size (Obj.mapSeq (· ++ vs.toArray))).objs.size = h.objs.size + 1 := by rw [Heap.size_update, size_push']
  have e6 : (((h.push (seqObj "list" #[] 0)).update h.objs.size (Obj.mapSeq (· ++ vs.toArray))).push { cls := .type "tuple", data := .seq vs.toArray }).objs.size = h.objs.size + 2 := by rw [size_push', e5]
  unfold cmbHeap
  rw [← e6]
  exact Heap.get?_push_size _ rfl
theorem cmbHeap_pool {h : Heap} {vs : List Value} {n : Nat} : (cmbHeap h vs n).get? (h.objs.size + 1) = some { cls := .type "tuple", data := .seq vs.toArray } := by
  have e5 : ((h.push (seqObj "list" #[] 0)).update h.objs.size (Obj.mapSeq (· ++ vs.toArray))).objs.size = h.objs.size + 1 := by rw [Heap.size_update, size_push']
  unfold cmbHeap
  refine Heap.get?_push_of_some _ ?_
  rw [← e5]
  exact Heap.get?_push_size _ rfl
theorem cmbHeap_old {h : Heap} {vs : List Value} {n : Nat} {b : Addr} {o : Obj} (e : h.get? b = some o) : (cmbHeap h vs n).get? b = some o := by
  unfold cmbHeap
  refine Heap.get?_push_of_some _ (Heap.get?_push_of_some _ ?_)
  rw [Heap.get?_update_ne _ _ _ _ (Nat.ne_of_lt (Heap.lt_size e))]
  exact Heap.get?_push_of_some _ e
theorem iter_cmbs {it : Addr} {p : Value} {st : Int} {last : Value} {ix : List Nat} {Q : Value → Shared → Prop} (hit : s.heap.get? it = some (CmbObj p st last ix)) (h : Q (.ref it) s) : wpAny (model prog w) A (pyIter (.ref it)) Q E s := by
  have hT : s.TypeIs (.ref it) "itertools.combinations" := ⟨_, hit, rfl⟩
  refine wpAny_pyIter_slot hT iter_cmb (wpAny_call_entry iter_cmb hT ent_cmb_iter ?_ (arg_cmb_iter _))
  show wpAny _ _ (ret (.ref it)) _ _ s
  exact wpAny_pure ⟨_, rfl, "itertools.combinations", _, hT, next_cmb.lookup, h⟩
end
end FS
set_option maxHeartbeats 1000000
namespace FS
open PySem PySem.Spec PyProof.Rows L2
/-- the last place that can still go up -/
def lastLow (n : Nat) (l : List Nat) : Option Nat := (List.range l.length).reverse.find? (fun j => l.getD j 0 != j + n - l.length)
def nextC (n : Nat) (l : List Nat) : Option (List Nat) :=
  (lastLow n l).map fun j => l.take j ++ (List.range (l.length - j)).map (l.getD j 0 + 1 + ·)
section
variable {prog : Program} {w : World} {A : Around} {E : Value → Shared → Prop} {s : Shared}
theorem ne_pool {h : Heap} {it p : Addr} {st : Int} {last : Value} {ix : List Nat} {vs : List Value} (hit : h.get? it = some (CmbObj (.ref p) st last ix)) (hp : h.get? p = some { cls := .type "tuple", data := .seq vs.toArray }) : p ≠ it := fun e => by
  rw [e, hit] at hp
  have z := congrArg Obj.cls (Option.some.inj hp)
  have z2 : Value.type "itertools.combinations" = Value.type "tuple" := z
  injection z2 with z3
  exact absurd z3 (by decide)
theorem numbers_ok {it : Addr} {p last : Value} {st : Int} {ix : List Nat} {Q : List Nat → Shared → Prop} (hit : s.heap.get? it = some (CmbObj p st last ix)) (h : Q ix s) : wpAny (model prog w) A (Builtin.Itertools.itNumbersFrom (.ref it) 3) Q E s := by
  unfold Builtin.Itertools.itNumbersFrom
  refine wpAny_bind (wpAny_load hit (wpAny_pure ?_))
  simp only [CmbObj, List.cons_append, List.nil_append, List.drop_succ_cons, List.drop_zero, List.map_map, Function.comp_def, rawInt, Int.toNat_natCast, List.map_id']
  exact h
/-- the tuple of this turn -/
theorem hand_out {it p : Addr} {last : Value} {nx : List Nat} {vs : List Value} {P : PySem.Fin → Shared → Prop} (hit : s.heap.get? it = some (CmbObj (.ref p) 1 last nx)) (hp : s.heap.get? p = some { cls := .type "tuple", data := .seq vs.toArray }) (hx : nx.length ≤ 1000)
    (hQ : ∀ h', h'.get? it = some (CmbObj (.ref p) 1 (.ref s.heap.objs.size) nx) → h'.get? s.heap.objs.size = some { cls := .type "tuple", data := .seq (nx.map fun i => vs.toArray.getD i .none).toArray } → (∀ b o, b ≠ it → s.heap.get? b = some o → h'.get? b = some o) →
      P (.done (.ret (.ref s.heap.objs.size))) { s with heap := h' }) :
    wpAny (model prog w) A ((Builtin.Itertools.itPoolItems (.ref p) >>= fun items => newTuple (nx.map fun i => items.getD i .none)) >>= fun result => field (.ref it) 2 >>= fun before => setField (.ref it) 2 result >>= fun _ => letGo [before] [result] >>= fun _ => ret result) P E s := by
  have hpi := ne_pool hit hp
  refine wpAny_bind (wpAny_bind ?_)
  unfold Builtin.Itertools.itPoolItems
  refine wpAny_bind (wpAny_seqItems hp rfl (wpAny_pure ?_))
  refine wpAny_newTuple ?_ (by simp; rw [sizeLine_eq]; omega)
  have hlt : it < s.heap.objs.size := Heap.lt_size hit
  have hit3 : (s.heap.push { cls := .type "tuple", data := .seq (nx.map fun i => vs.toArray.getD i .none).toArray }).get? it = some (CmbObj (.ref p) 1 last nx) := Heap.get?_push_of_some _ hit
  refine wpAny_bind (wpAny_field hit3 rfl (x := last) rfl ?_)
  refine wpAny_bind (wpAny_setField hit3 rfl (by simp) ?_)
  refine wpAny_bind (wpAny_letGo (wpAny_pure ?_))
  refine hQ _ (Heap.get?_update_self _ hit3 rfl) ?_ fun b o hb e => ?_
  · rw [Heap.get?_update_ne _ _ _ _ (Nat.ne_of_gt hlt)]
    exact Heap.get?_push_size _ rfl
  · rw [Heap.get?_update_ne _ _ _ _ hb]
    exact Heap.get?_push_of_some _ e
theorem next_first {it p : Addr} {last : Value} {ix : List Nat} {vs : List Value} {Q : Option Value → Shared → Prop} (hit : s.heap.get? it = some (CmbObj (.ref p) 0 last ix)) (hp : s.heap.get? p = some { cls := .type "tuple", data := .seq vs.toArray }) (hx : ix.length ≤ 1000)
    (hQ : ∀ h', h'.get? it = some (CmbObj (.ref p) 1 (.ref s.heap.objs.size) ix) → h'.get? s.heap.objs.size = some { cls := .type "tuple", data := .seq (ix.map fun i => vs.toArray.getD i .none).toArray } → (∀ b o, b ≠ it → s.heap.get? b = some o → h'.get? b = some o) →
      Q (some (.ref s.heap.objs.size)) { s with heap := h' }) : wpAny (model prog w) A (pyNext (.ref it)) Q E s := by
  have hT : s.TypeIs (.ref it) "itertools.combinations" := ⟨_, hit, rfl⟩
  unfold pyNext
  refine wpAny_bind (wpAny_attempt (wpAny_callSpecial?_slot (name := Str.ofString "__next__") hT next_cmb
    (wpAny_call_entry next_cmb hT ent_cmb_next ?_ (arg_cmb_next _))))
  show wpAny _ _ (field (.ref it) 0 >>= _) _ _ s
  refine wpAny_bind (wpAny_field hit rfl (x := .ref p) rfl ?_)
  show wpAny _ _ (Builtin.Itertools.itNumbersFrom (.ref it) 3 >>= _) _ _ s
  refine wpAny_bind (numbers_ok hit ?_)
  show wpAny _ _ (Builtin.Itertools.itIntField (.ref it) 1 >>= _) _ _ s
  refine wpAny_bind ?_
  unfold Builtin.Itertools.itIntField
  refine wpAny_bind (wpAny_field hit rfl (x := rawInt 0) rfl (wpAny_pure ?_))
  show wpAny _ _ (setField (.ref it) 1 (rawInt 1) >>= _) _ _ s
  refine wpAny_bind (wpAny_setField hit rfl (by simp) ?_)
  have hpi := ne_pool hit hp
  have hit2 : (s.heap.update it (Obj.mapFields (·.setIfInBounds 1 (rawInt 1)))).get? it = some (CmbObj (.ref p) 1 last ix) := Heap.get?_update_self _ hit rfl
  have hp2 : (s.heap.update it (Obj.mapFields (·.setIfInBounds 1 (rawInt 1)))).get? p = some { cls := .type "tuple", data := .seq vs.toArray } := (Heap.get?_update_other _ _ (Ne.symm hpi)).trans hp
  have hsz : (s.heap.update it (Obj.mapFields (·.setIfInBounds 1 (rawInt 1)))).objs.size = s.heap.objs.size := Heap.size_update ..
  refine hand_out (s := { s with heap := _ }) hit2 hp2 hx fun h' h1 h2 h3 => ⟨_, rfl, wpAny_pure ?_⟩
  rw [hsz] at h1 h2 ⊢
  exact hQ h' h1 h2 fun b o hb eo => h3 b o hb ((Heap.get?_update_other _ _ (Ne.symm hb)).trans eo)
theorem next_more {it p : Addr} {last : Value} {ix nx : List Nat} {vs : List Value} {Q : Option Value → Shared → Prop} (hit : s.heap.get? it = some (CmbObj (.ref p) 1 last ix)) (hp : s.heap.get? p = some { cls := .type "tuple", data := .seq vs.toArray }) (hn : nextC vs.length ix = some nx) (hx : nx.length ≤ 1000)
    (hQ : ∀ h', h'.get? it = some (CmbObj (.ref p) 1 (.ref s.heap.objs.size) nx) → h'.get? s.heap.objs.size = some { cls := .type "tuple", data := .seq (nx.map fun i => vs.toArray.getD i .none).toArray } → (∀ b o, b ≠ it → s.heap.get? b = some o → h'.get? b = some o) →
      Q (some (.ref s.heap.objs.size)) { s with heap := h' }) : wpAny (model prog w) A (pyNext (.ref it)) Q E s := by
  have hT : s.TypeIs (.ref it) "itertools.combinations" := ⟨_, hit, rfl⟩
  unfold pyNext
  refine wpAny_bind (wpAny_attempt (wpAny_callSpecial?_slot (name := Str.ofString "__next__") hT next_cmb
    (wpAny_call_entry next_cmb hT ent_cmb_next ?_ (arg_cmb_next _))))
  show wpAny _ _ (field (.ref it) 0 >>= _) _ _ s
  refine wpAny_bind (wpAny_field hit rfl (x := .ref p) rfl ?_)
  show wpAny _ _ (Builtin.Itertools.itNumbersFrom (.ref it) 3 >>= _) _ _ s
  refine wpAny_bind (numbers_ok hit ?_)
  show wpAny _ _ (Builtin.Itertools.itIntField (.ref it) 1 >>= _) _ _ s
  refine wpAny_bind ?_
  unfold Builtin.Itertools.itIntField
  refine wpAny_bind (wpAny_field hit rfl (x := rawInt 1) rfl (wpAny_pure ?_))
  show wpAny _ _ (Builtin.Itertools.itPoolItems (.ref p) >>= _) _ _ s
  refine wpAny_bind ?_
  unfold Builtin.Itertools.itPoolItems
  refine wpAny_bind (wpAny_seqItems hp rfl (wpAny_pure ?_))
  split
  · rename_i nx' heq
    have e2 : nx' = nx := Option.some.inj ((show nextC vs.length ix = some nx' from Eq.trans (by kernel_rfl) heq).symm.trans hn)
    subst e2
    refine wpAny_bind ?_
    unfold Builtin.Itertools.itSetNumbersFrom
    refine wpAny_updateFields hit rfl ?_ (hz := by simp; rw [sizeLine_eq]; omega)
    have hpi := ne_pool hit hp
    have hit2 : (s.heap.update it (Obj.mapFields fun fs => fs.extract 0 3 ++ (nx'.map fun (n : Nat) => rawInt n).toArray)).get? it = some (CmbObj (.ref p) 1 last nx') := by
      have z := Heap.get?_update_self (Obj.mapFields fun fs => fs.extract 0 3 ++ (nx'.map fun (n : Nat) => rawInt n).toArray) hit rfl
      rw [z]
      simp [Obj.mapFields, CmbObj]
    have hp2 : (s.heap.update it (Obj.mapFields fun fs => fs.extract 0 3 ++ (nx'.map fun (n : Nat) => rawInt n).toArray)).get? p = some { cls := .type "tuple", data := .seq vs.toArray } := (Heap.get?_update_other _ _ (Ne.symm hpi)).trans hp
    have hsz : (s.heap.update it (Obj.mapFields fun fs => fs.extract 0 3 ++ (nx'.map fun (n : Nat) => rawInt n).toArray)).objs.size = s.heap.objs.size := Heap.size_update ..
    refine hand_out (s := { s with heap := _ }) hit2 hp2 hx fun h' h1 h2 h3 => ⟨_, rfl, wpAny_pure ?_⟩
    rw [hsz] at h1 h2 ⊢
    exact hQ h' h1 h2 fun b o hb eo => h3 b o hb ((Heap.get?_update_other _ _ (Ne.symm hb)).trans eo)
  · rename_i heq
    cases (show nextC vs.length ix = none from Eq.trans (by kernel_rfl) heq).symm.trans hn
theorem next_end {it p : Addr} {last : Value} {ix : List Nat} {vs : List Value} {Q : Option Value → Shared → Prop} (hh : A.handled = none) (hit : s.heap.get? it = some (CmbObj (.ref p) 1 last ix)) (hp : s.heap.get? p = some { cls := .type "tuple", data := .seq vs.toArray }) (hn : nextC vs.length ix = none)
    (hQ : ∀ h', Heap.ExtBut it s.heap h' → Q none { s with heap := h' }) : wpAny (model prog w) A (pyNext (.ref it)) Q E s := by
  have hT : s.TypeIs (.ref it) "itertools.combinations" := ⟨_, hit, rfl⟩
  unfold pyNext
  refine wpAny_bind (wpAny_attempt (wpAny_callSpecial?_slot (name := Str.ofString "__next__") hT next_cmb
    (wpAny_call_entry next_cmb hT ent_cmb_next ?_ (arg_cmb_next _))))
  show wpAny _ _ (field (.ref it) 0 >>= _) _ _ s
  refine wpAny_bind (wpAny_field hit rfl (x := .ref p) rfl ?_)
  show wpAny _ _ (Builtin.Itertools.itNumbersFrom (.ref it) 3 >>= _) _ _ s
  refine wpAny_bind (numbers_ok hit ?_)
  show wpAny _ _ (Builtin.Itertools.itIntField (.ref it) 1 >>= _) _ _ s
  refine wpAny_bind ?_
  unfold Builtin.Itertools.itIntField
  refine wpAny_bind (wpAny_field hit rfl (x := rawInt 1) rfl (wpAny_pure ?_))
  show wpAny _ _ (Builtin.Itertools.itPoolItems (.ref p) >>= _) _ _ s
  refine wpAny_bind ?_
  unfold Builtin.Itertools.itPoolItems
  refine wpAny_bind (wpAny_seqItems hp rfl (wpAny_pure ?_))
  split
  · rename_i nx' heq
    cases (show nextC vs.length ix = some nx' from Eq.trans (by kernel_rfl) heq).symm.trans hn
  · refine wpAny_bind (wpAny_setField hit rfl (by simp) ?_)
    unfold Builtin.Itertools.itStop
    show wpAny _ _ (newExc (.type "StopIteration") [] >>= _) _ _ _
    refine wpAny_bind ?_
    simp only [newExc, newTuple]
    refine wpAny_bind (wpAny_newObj_type ?_ (by size_fits))
    refine wpAny_bind (m := firstArgMember _ _) (wpAny_of_eq (a := Value.none) (by first | rfl | (simp only [firstArgMember]; rfl)) ?_)
    refine wpAny_newObj_type ?_ (by size_fits)
    simp only [raiseNew]
    refine wpAny_bind (wpAny_handled ?_)
    first | rw [show A.in1.handled = none from hh] | rw [hh]
    refine wpAny_bind (wpAny_pure (wpAny_throw ?_))
    refine wpAny_bind (wpAny_isInstance (T := "StopIteration") (b := true) ⟨_, Heap.get?_push_size _ rfl, rfl⟩ isSubtype_stop ?_)
    refine wpAny_pure (hQ _ ?_)
    exact (((Heap.SameBut.update ..).extBut).push _).push _
end
end FS
set_option maxHeartbeats 1000000
namespace FS
open PySem PySem.Spec PyProof.Rows L2
/-- the places that combinations(.., r) of n things goes through -/
structure CmbSeq (n r : Nat) (L : List (List Nat)) : Prop where
  first : L[0]? = some (List.range r)
  next : ∀ i ix nx, L[i]? = some ix → L[i + 1]? = some nx → nextC n ix = some nx
  last : ∀ ix, L[L.length - 1]? = some ix → nextC n ix = none
  few : ∀ ix ∈ L, ix.length ≤ 1000 ∧ ∀ j ∈ ix, j < n
def cmbTup (xs : List V) (ix : List Nat) : List V := ix.map fun i => xs.getD i .non
def ItCmb (xs : List V) (L : List (List Nat)) : It where
  go := fun i _ => i < L.length
  yld := fun i H v H' => ∃ T ix, v = .ref T ∧ H T = none ∧ L[i]? = some ix ∧ H' = upd H T (.tup (cmbTup xs ix))
  stop := fun i _ => i = L.length
def cmbAt (xs : List V) (r : Nat) (L : List (List Nat)) (it p : Addr) (i : Nat) (h : Heap) : Prop :=
  ∃ us last, Vals xs us ∧ p ≠ it ∧ h.get? p = some { cls := .type "tuple", data := .seq us.toArray } ∧ h.get? it = some (CmbObj (.ref p) (if i = 0 then 0 else 1) last (if i = 0 then List.range r else L.getD (i - 1) []))
theorem vals_getD : ∀ {xs : List V} {us : List Value} {i : Nat}, Vals xs us → i < xs.length → RelV (xs.getD i .non) (us.toArray.getD i .none)
  | x :: xs, u :: us, 0, .cons r _, _ => by simpa using r
  | x :: xs, u :: us, i + 1, .cons _ rr, h => by
    have z := vals_getD (i := i) rr (by simpa using h)
    simpa using z
theorem turn_cmb {P : Program} {w : World} {K : PySem.W.Frag} {tg : Expr} {xs : List V} {r : Nat} {L : List (List Nat)} (S : CmbSeq xs.length r L) (it p : Addr) :
    Turn P w K tg (ItCmb xs L) [it, p] it (cmbAt xs r L it p) where
  mem := by simp
  obj := fun i h st b hb => by
    obtain ⟨us, last, _, _, hp, hit⟩ := st
    have hb' : b = it ∨ b = p := by simpa using hb
    rcases hb' with z | z <;> subst z
    · exact ⟨_, hit, fun v q => nomatch q⟩
    · exact ⟨_, hp, fun v q => nomatch q⟩
  keep := fun i h h' st k => by
    obtain ⟨us, last, h1, h2, hp, hit⟩ := st
    exact ⟨us, last, h1, h2, k p (by simp) _ hp, k it (by simp) _ hit⟩
  item := by
    intro X hP hw hK hc i pins s σ H E I hf st hg
    subst hP hw hK
    obtain ⟨us, last, hv, hne, hp, hit⟩ := st
    have hg' : i < L.length := hg
    obtain ⟨nx, hnx⟩ : ∃ nx, L[i]? = some nx := ⟨_, List.getElem?_eq_getElem hg'⟩
    have hmem := List.mem_of_getElem? hnx
    obtain ⟨hfew, hin⟩ := S.few nx hmem
    have hlen := hv.length
    have fin : ∀ h' : Heap, h'.get? it = some (CmbObj (.ref p) 1 (.ref s.heap.objs.size) nx) → h'.get? s.heap.objs.size = some { cls := .type "tuple", data := .seq (nx.map fun i => us.toArray.getD i .none).toArray } → (∀ b o, b ≠ it → s.heap.get? b = some o → h'.get? b = some o) →
        ∃ u, some (Value.ref s.heap.objs.size) = some u ∧ wpAny (model X.prog X.w) X.A (letOwnedTupleGo tg (.ref it) u) (fun _ s2 => ∃ x H', Inv X pins σ H' s2 ∧ RelV x u ∧ (ItCmb xs L).yld i H x H' ∧ cmbAt xs r L it p (i + 1) s2.heap ∧ ∀ b ∈ [it, p], H' b = none) E { s with heap := h' } := by
      intro h' h1 h2 h3
      refine ⟨_, rfl, go_of (s := { s with heap := h' }) (n := "itertools.combinations") h1 rfl rfl (by decide) ?_⟩
      have hT : Vals (cmbTup xs nx) (nx.map fun i => us.toArray.getD i .none) := by
        unfold cmbTup
        clear hnx hmem hfew h1 h2
        induction nx with
        | nil => exact .nil
        | cons j nx ih => exact .cons (vals_getD hv (hin j List.mem_cons_self)) (ih fun k hk => hin k (List.mem_cons_of_mem _ hk))
      have new : ObjOk X.prog X.w (upd H s.heap.objs.size (.tup (cmbTup xs nx))) h' s.heap.objs.size (.tup (cmbTup xs nx)) :=
        ⟨by unfold cmbTup; rw [List.length_map, sizeLine_eq]; omega, nx.map fun i => us.toArray.getD i .none, hT, ⟨_, h2, rfl, _, rfl⟩⟩
      have I1 : Inv X pins σ (upd H s.heap.objs.size (.tup (cmbTup xs nx))) { s with heap := h' } :=
        I.turnedNew (ch := [it]) (t' := s.toks) (fun b ob hb q => h3 b ob (fun z => hb (by simp [z])) q) (fun b hb => hf b (by simp at hb; simp [hb])) (Nat.le_refl _) new
      refine ⟨.ref s.heap.objs.size, _, I1, rfl, ⟨_, nx, rfl, I.hok.fresh (Nat.le_refl _), hnx, rfl⟩, ⟨us, .ref s.heap.objs.size, hv, hne, h3 p _ hne hp, ?_⟩, fun b hb => ?_⟩
      · have e : L.getD (i + 1 - 1) [] = nx := by
          rw [Nat.add_sub_cancel, List.getD_eq_getElem?_getD, hnx]
          rfl
        rw [if_neg (Nat.succ_ne_zero i), if_neg (Nat.succ_ne_zero i), e]
        exact h1
      · have hb' : b = it ∨ b = p := by simpa using hb
        have hlt' : b < s.heap.objs.size := by
          rcases hb' with z | z <;> rw [z]
          · exact Heap.lt_size hit
          · exact Heap.lt_size hp
        rw [upd_ne (Nat.ne_of_lt hlt')]
        exact (hf b hb).1
    by_cases hi : i = 0
    · subst hi
      have e : nx = List.range r := Option.some.inj (hnx.symm.trans S.first)
      rw [if_pos rfl, if_pos rfl] at hit
      rw [← e] at hit
      exact next_first hit hp hfew fin
    · rw [if_neg hi, if_neg hi] at hit
      obtain ⟨j, rfl⟩ : ∃ j, i = j + 1 := ⟨i - 1, by omega⟩
      have hj : L[j]? = some (L.getD (j + 1 - 1) []) := by
        rw [Nat.add_sub_cancel, List.getD_eq_getElem?_getD, List.getElem?_eq_getElem (by omega : j < L.length)]
        rfl
      have z := S.next j _ nx hj hnx
      rw [hlen] at z
      exact next_more hit hp z hfew fin
  done := by
    intro X hP hw hK hc i pins s σ H E I hf st hg
    subst hP hw hK
    obtain ⟨us, last, hv, hne, hp, hit⟩ := st
    have hg' : i = L.length := hg
    obtain ⟨f0, f1, f2, f3, f4, f5⟩ := hf it (by simp)
    have hpos : 0 < L.length := (List.getElem?_eq_some_iff.mp S.first).1
    rw [if_neg (by omega), if_neg (by omega)] at hit
    have hj : L[L.length - 1]? = some (L.getD (i - 1) []) := by
      rw [hg', List.getD_eq_getElem?_getD, List.getElem?_eq_getElem (by omega : L.length - 1 < L.length)]
      rfl
    have z := S.last _ hj
    rw [hv.length] at z
    exact next_end (I.ok.hd hc) hit hp z fun h' eb => ⟨rfl, I.turned (t' := s.toks) (fun b o hb e => eb b o hb e) f0 f1 f3 f4 f5⟩
  self := fun A i s Q E st h => by
    obtain ⟨us, last, _, _, _, hit⟩ := st
    exact iter_cmbs hit h
/-- combinations(a, b) -/
def iCmb (K : PySem.W.Frag) (ta : TA) : TI := fun σ H R => ta σ H fun vs H1 => ∃ a xs r L, vs = [.ref a, .int (r : Nat)] ∧ SqL K H1 a xs ∧ r ≤ xs.length ∧ r ≤ 1000 ∧ CmbSeq xs.length r L ∧ R (ItCmb xs L) H1
theorem pi_cmb {X : Cx} {e1 e2 : Expr} {ta : TA} {p pos : Pos} {tg : Expr} {x : Str} (hg : Gl X x) (hm : X.mg x = some (.type "itertools.combinations")) (ha : PA X [e1, e2] ta) (hs : starEach [e1, e2] X.env = (false, eval e1 X.env) :: starEach [e2] X.env := by rfl) (hpl : (backTo pos (starEach [e2] X.env)).any (·.1) = false := by rfl) (hdb : (x == ("__debug__" : Str)) = false := by decide) :
    PI X tg (.Call (.Name x p) [e1, e2] [] pos) (iCmb X.K ta) := by
  refine ⟨fun pins s σ H R I h => ?_⟩
  refine Call_ (ld_glob I hg hm (PyProof.Rows.callWith_type1 (thn (ha.run pos pins s σ H _ I h) fun us s1 ⟨vs, H1, I1, r1, a, xs, r, L, ev, hq, hr, hr2, S, q⟩ => ?_) hs hpl) hdb)
  subst ev
  obtain ⟨u1, u2, rfl, ru, ri⟩ := vals2 r1
  cases ru
  obtain ⟨t, rfl⟩ := ri
  obtain ⟨its, rv, pt, hz⟩ := I1.list hq
  have hl := rv.length
  refine call_cmb pt.isList (by omega) (by omega) (by omega) (by omega) ?_
  have I2 : Inv X pins σ H1 { s1 with heap := cmbHeap s1.heap its (r : Int).toNat } := I1.kept (t' := s1.toks) fun b o => cmbHeap_old
  have e0 : ((r : Nat) : Int).toNat = r := Int.toNat_natCast r
  rw [e0] at I2 ⊢
  have hit : (cmbHeap s1.heap its r).get? (s1.heap.objs.size + 2) = some (CmbObj (.ref (s1.heap.objs.size + 1)) 0 .none (List.range r)) := cmbHeap_it
  refine iter_cmbs (s := { s1 with heap := _ }) hit ?_
  refine ⟨s1.heap.objs.size + 2, [s1.heap.objs.size + 2, s1.heap.objs.size + 1], _, _, H1, rfl, I2, turn_cmb S _ _, ⟨its, .none, rv, ?_, cmbHeap_pool, hit⟩, fun b hb => ?_, q⟩
  · exact Nat.ne_of_lt (Nat.lt_succ_self _)
  · have hb' : b = s1.heap.objs.size + 2 ∨ b = s1.heap.objs.size + 1 := by simpa using hb
    have hle : s1.heap.objs.size ≤ b := by
      rcases hb' with z | z <;> rw [z]
      · exact Nat.le_trans (Nat.le_succ _) (Nat.le_succ _)
      · exact Nat.le_succ _
    exact I1.fpOk hle (I1.hok.fresh hle)
theorem walk_cmb {xs : List V} {L : List (List Nat)} : Walk (ItCmb xs L) L.length (fun _ => True) (fun i H v H' => ∃ T ix, v = .ref T ∧ H T = none ∧ L[i]? = some ix ∧ H' = upd H T (.tup (cmbTup xs ix))) :=
  ⟨fun _ _ hi _ => hi, fun _ _ => rfl, fun _ _ _ _ _ _ y => y⟩
end FS
set_option maxHeartbeats 2000000
namespace FS
open PySem PySem.Spec PyProof.Rows L2
open PySem.W (EachIs AllAlike Sortable dataLe)
def rSortedD (K : PySem.W.Frag) : List V → Hp → VK → Prop := fun vs H Q => ∃ (a : Addr) (ps : List (V × PyData)), vs = [V.ref a] ∧ SqL K H a (ps.map Prod.fst) ∧ (∀ p ∈ ps, Dp K H p.1 p.2) ∧ AllAlike (ps.map Prod.snd) ∧ Sortable (ps.map Prod.snd) ∧ (∀ p ∈ ps, p.2.depth ≤ 8) ∧
  ∀ l, H l = none → Q (.ref l) (upd H l (.lst ((ps.mergeSort (dataLe false Prod.snd)).map Prod.fst)))
section
variable {X : Cx}
theorem each_vals {ps : List (V × PyData)} : ∀ {us : List Value}, Vals (ps.map Prod.fst) us → EachIs (fun v (p : V × PyData) => RelV p.1 v) us ps := by
  induction ps with
  | nil => intro us r; cases r; exact .nil
  | cons p ps ih =>
    intro us r
    cases r with
    | cons r1 r2 => exact .cons r1 (ih r2)
theorem vals_each {ps : List (V × PyData)} : ∀ {us : List Value}, EachIs (fun v (p : V × PyData) => RelV p.1 v) us ps → Vals (ps.map Prod.fst) us := by
  induction ps with
  | nil => intro us r; cases r; exact .nil
  | cons p ps ih =>
    intro us r
    cases r with
    | cons r1 r2 => exact .cons r1 (ih r2)
theorem each_reads {pins : List (Addr × Obj)} {σ : L2.St} {H : Hp} {s : Shared} (I : Inv X pins σ H s) : ∀ {ps : List (V × PyData)} {us : List Value}, (∀ p ∈ ps, Dp X.K H p.1 p.2) → EachIs (fun v (p : V × PyData) => RelV p.1 v) us ps → EachIs (fun v (p : V × PyData) => ∃ as, Reads s.heap v p.2 as) us ps
  | [], _, _, .nil => .nil
  | p :: ps, _, h, .cons r1 r2 => .cons (Dp.reads I p.2 p.1 _ (h p List.mem_cons_self) r1) (each_reads I (fun q hq => h q (List.mem_cons_of_mem _ hq)) r2)
theorem cr_sortedD (hu : X.A.units + 12 < cLine) : CallR X (.builtin "sorted") (rSortedD X.K) := by
  intro pins s σ H vs us Q I r h
  obtain ⟨a, ps, rfl, hs, hd, hal, hk, hdp, q⟩ := h
  obtain ⟨its, rv, hl, hz⟩ := I.list hs
  obtain ⟨u, rfl, ru⟩ := vals1 r
  obtain rfl : u = Value.ref a := ru
  have e := each_vals rv
  have hlen : ps.length = its.length := by
    have z := rv.length
    rw [List.length_map] at z
    exact z
  refine PySem.W.sorted_data (enc := Prod.snd) (bs := ps) (R := fun v p => RelV p.1 v) hl.isList e (each_reads I hd e) hal hk (by rw [List.length_map] at hz; exact hz) (fun b hb => by have z := hdp b hb; omega) fun out h1 h2 => ?_
  obtain ⟨n, hn⟩ := sortedAll_at s.heap its (List.toArray out)
  have hfr : H (s.heap.objs.size + 1) = none := I.hok.fresh (Nat.le_succ _)
  refine ⟨.ref (s.heap.objs.size + 1), upd H (s.heap.objs.size + 1) (.lst ((ps.mergeSort (dataLe false Prod.snd)).map Prod.fst)), I.laid (t' := s.toks) (fun b o => sortedAll_old) (Nat.le_succ _) ⟨?_, out, n, vals_each h2, ?_⟩, rfl, q _ hfr⟩
  · rw [List.length_map, List.length_mergeSort]
    rw [List.length_map] at hz
    exact hz
  · exact hn
end
end FS
set_option maxHeartbeats 2000000
namespace FS
open PySem PySem.Spec PyProof.Rows L2
open PySem.W (EachIs AllAlike Sortable dataLe dataLt rowLt alike alikeAll)
/-- the rows as they are doubled -/
def genI : Nat → List (List Nat)
  | 0 => [[]]
  | k + 1 => genI k ++ (genI k).map (· ++ [k])
def itC : Nat → Nat → List Nat → List (List Nat)
  | 0, _, l => [l]
  | f + 1, n, l => l :: (match nextC n l with | some l' => itC f n l' | none => [])
def endsC : Nat → Nat → List Nat → Bool
  | 0, n, l => (nextC n l).isNone
  | f + 1, n, l => match nextC n l with | some l' => endsC f n l' | none => true
theorem itC_first (f n : Nat) (l : List Nat) : (itC f n l)[0]? = some l := by cases f <;> rfl
theorem itC_ne (f n : Nat) (l : List Nat) : (itC f n l) ≠ [] := by cases f <;> simp [itC]
theorem itC_next : ∀ (f n : Nat) (l : List Nat) (i : Nat) (ix nx : List Nat), (itC f n l)[i]? = some ix → (itC f n l)[i + 1]? = some nx → nextC n ix = some nx
  | 0, n, l, i, ix, nx, h1, h2 => by simp [itC] at h2
  | f + 1, n, l, i, ix, nx, h1, h2 => by
    cases hn : nextC n l with
    | none =>
      have e : itC (f + 1) n l = [l] := by simp only [itC, hn]
      rw [e] at h2
      simp at h2
    | some l' =>
      have e : itC (f + 1) n l = l :: itC f n l' := by simp only [itC, hn]
      rw [e] at h1 h2
      cases i with
      | zero =>
        have e1 : l = ix := by simpa using h1
        have e2 : (itC f n l')[0]? = some nx := by simpa using h2
        rw [itC_first] at e2
        rw [← e1, hn, e2]
      | succ i => exact itC_next f n l' i ix nx (by simpa using h1) (by simpa using h2)
theorem itC_last : ∀ (f n : Nat) (l : List Nat), endsC f n l = true → ∀ ix, (itC f n l)[(itC f n l).length - 1]? = some ix → nextC n ix = none
  | 0, n, l, h, ix, hx => by
    have e : l = ix := by simpa [itC] using hx
    rw [← e]
    exact Option.isNone_iff_eq_none.mp h
  | f + 1, n, l, h, ix, hx => by
    cases hn : nextC n l with
    | none =>
      have e : itC (f + 1) n l = [l] := by simp only [itC, hn]
      rw [e] at hx
      have e1 : l = ix := by simpa using hx
      rw [← e1, hn]
    | some l' =>
      have e : itC (f + 1) n l = l :: itC f n l' := by simp only [itC, hn]
      have h' : endsC f n l' = true := by simpa only [endsC, hn] using h
      rw [e] at hx
      have hpos : 0 < (itC f n l').length := List.length_pos_iff.mpr (itC_ne f n l')
      have e2 : (l :: itC f n l').length - 1 = ((itC f n l').length - 1) + 1 := by rw [List.length_cons]; omega
      rw [e2] at hx
      exact itC_last f n l' h' ix (by simpa using hx)
def seqC (n r : Nat) : List (List Nat) := itC 300 n (List.range r)
def okSeq (n r : Nat) : Bool := endsC 300 n (List.range r) && (seqC n r).all fun ix => decide (ix.length ≤ 1000) && (ix.all (decide <| · < n) && ix.isSublist (List.range n))
theorem okSeq_all : ∀ n < 11, ∀ r < 11, r ≤ n → okSeq n r = true := by decide +kernel
theorem cmbSeq {n r : Nat} (hn : n ≤ 10) (hr : r ≤ n) : CmbSeq n r (seqC n r) := by
  have h := okSeq_all n (by omega) r (by omega) hr
  unfold okSeq at h
  rw [Bool.and_eq_true, List.all_eq_true] at h
  refine ⟨itC_first _ _ _, fun i ix nx => itC_next _ _ _ i ix nx, fun ix => itC_last _ _ _ h.1 ix, fun ix hx => ?_⟩
  have z := h.2 ix hx
  rw [Bool.and_eq_true, Bool.and_eq_true, List.all_eq_true] at z
  exact ⟨of_decide_eq_true z.1, fun j hj => of_decide_eq_true (z.2.1 j hj)⟩
theorem seqC_sub {n r : Nat} (hn : n ≤ 10) (hr : r ≤ n) {ix : List Nat} (hx : ix ∈ seqC n r) : ix.Sublist (List.range n) := by
  have h := okSeq_all n (by omega) r (by omega) hr
  unfold okSeq at h
  rw [Bool.and_eq_true, List.all_eq_true] at h
  have z := h.2 ix hx
  rw [Bool.and_eq_true, Bool.and_eq_true] at z
  exact List.isSublist_iff_sublist.mp z.2.2
/-- all of them, fewer ones first -/
def ordI (n : Nat) : List (List Nat) := (List.range (n + 1)).flatMap (seqC n)
theorem ordI_sub {n : Nat} (hn : n ≤ 10) {ix : List Nat} (hx : ix ∈ ordI n) : ix.Sublist (List.range n) := by
  obtain ⟨r, hr, h⟩ := List.mem_flatMap.mp hx
  exact seqC_sub hn (by have z := List.mem_range.mp hr; omega) h
def keyI (l : List Nat) : List Int := (l.length : Int) :: l.map fun (i : Nat) => (i : Int)
def rowD (nm : Nat → Str) (l : List Nat) : PyData := .tuple [.int l.length, .tuple (l.map fun i => .int (i : Nat)), .tuple (l.map fun i => .str (nm i))]
theorem keyI_inj {l m : List Nat} (h : keyI l = keyI m) : l = m := by
  unfold keyI at h
  have h2 := (List.cons.inj h).2
  have h3 := congrArg (List.map Int.toNat) h2
  simpa [Function.comp_def] using h3
theorem alike_strs : ∀ xs ys : List Str, alikeAll (xs.map .str) (ys.map .str) = true
  | [], ys => by simp [alikeAll]
  | x :: xs, [] => by simp [alikeAll]
  | x :: xs, y :: ys => by simp [alikeAll, alike, alike_strs xs ys]
theorem ints_eq (l : List Nat) : (l.map fun i => PyData.int (i : Nat)) = (l.map fun (i : Nat) => (i : Int)).map .int := by rw [List.map_map]; rfl
theorem strs_eq (nm : Nat → Str) (l : List Nat) : (l.map fun i => PyData.str (nm i)) = (l.map nm).map .str := by rw [List.map_map]; rfl
theorem rowD_alike (nm : Nat → Str) (l m : List Nat) : alike (rowD nm l) (rowD nm m) = true := by
  unfold rowD
  rw [ints_eq, ints_eq, strs_eq, strs_eq]
  simp only [alike, alikeAll, PySem.W.alike_ints, alike_strs, Bool.and_self, Bool.and_true]
theorem eqv_ints (xs ys : List Int) : PyData.eqv (.tuple (xs.map .int)) (.tuple (ys.map .int)) = decide (xs = ys) := by
  have key : ∀ xs ys : List Int, PyData.eqvAll (xs.map .int) (ys.map .int) = decide (xs = ys) := by
    intro xs
    induction xs with
    | nil => intro ys; cases ys <;> simp [PyData.eqvAll]
    | cons x xs ih =>
      intro ys
      cases ys with
      | nil => simp [PyData.eqvAll]
      | cons y ys =>
        simp only [List.map_cons, PyData.eqvAll, ih]
        by_cases h : x = y <;> by_cases h2 : xs = ys <;> simp [PyData.eqv, h, h2]
  simpa [PyData.eqv] using key xs ys
theorem rowD_lt (nm : Nat → Str) (l m : List Nat) : dataLt (rowD nm l) (rowD nm m) = decide (keyI l < keyI m) := by
  by_cases hlm : l = m
  · subst hlm
    have e : dataLt (rowD nm l) (rowD nm l) = false := by
      unfold PySem.W.dataLt
      exact lex_irrefl _
    rw [e]
    symm
    exact decide_eq_false (List.lt_irrefl _)
  · have hk : keyI l ≠ keyI m := fun e => hlm (keyI_inj e)
    unfold rowD
    rw [PySem.W.dataLt_tuple, PySem.W.dataLt_cons (by simp [alike]), PySem.W.dataLt_cons (by rw [ints_eq, ints_eq]; simp only [alike, PySem.W.alike_ints]), PySem.W.dataLt_int, ints_eq, ints_eq, eqv_ints, PySem.W.dataLt_tuple]
    have e2 : PyProof.Rows.lexLt itemOrd (PySem.W.keyToksAll ((l.map fun (i : Nat) => (i : Int)).map .int)) (PySem.W.keyToksAll ((m.map fun (i : Nat) => (i : Int)).map .int)) = decide ((l.map fun (i : Nat) => (i : Int)) < (m.map fun (i : Nat) => (i : Int))) := PySem.W.dataLt_ints _ _
    rw [e2]
    unfold keyI at hk ⊢
    by_cases h1 : (l.length : Int) = (m.length : Int)
    · have h3 : ¬ (l.map fun (i : Nat) => (i : Int)) = (m.map fun (i : Nat) => (i : Int)) := fun e => hk (by rw [h1, e])
      have e1 : PyData.eqv (.int (l.length : Int)) (.int (m.length : Int)) = true := by simp [PyData.eqv, h1]
      rw [e1, if_pos rfl, decide_eq_false h3, if_neg Bool.false_ne_true]
      refine decide_eq_decide.mpr ?_
      rw [List.cons_lt_cons_iff]
      constructor
      · intro h
        exact .inr ⟨h1, h⟩
      · rintro (h | h)
        · omega
        · exact h.2
    · have e1 : PyData.eqv (.int (l.length : Int)) (.int (m.length : Int)) = false := by simp only [PyData.eqv, beq_eq_false_iff_ne]; exact h1
      rw [e1, if_neg Bool.false_ne_true]
      refine decide_eq_decide.mpr ?_
      rw [List.cons_lt_cons_iff]
      constructor
      · intro h
        exact .inl h
      · rintro (h | h)
        · exact h
        · exact absurd h.1 h1
def leI (l m : List Nat) : Bool := !decide (keyI m < keyI l)
theorem leI_iff {l m : List Nat} : leI l m = true ↔ keyI l ≤ keyI m := by
  unfold leI
  rw [Bool.not_eq_true', decide_eq_false_iff_not]
  exact List.not_lt
theorem leI_total : PySem.W.TotalLe leI where
  total := fun a b => by
    rw [leI_iff, leI_iff]
    exact List.le_total _ _
  trans := fun a b c h1 h2 => by
    rw [leI_iff] at h1 h2 ⊢
    exact List.le_trans h1 h2
theorem rowD_le (nm : Nat → Str) (l m : List Nat) : dataLe false (rowD nm) l m = leI l m := by
  show (!dataLt (rowD nm m) (rowD nm l)) = leI l m
  rw [rowD_lt]
  rfl
def chainI : List (List Nat) → Bool
  | a :: b :: l => leI a b && chainI (b :: l)
  | _ => true
theorem chain_pair : ∀ l : List (List Nat), chainI l = true → l.Pairwise (fun a b => leI a b = true)
  | [], _ => List.Pairwise.nil
  | [a], _ => List.pairwise_singleton _ _
  | a :: b :: l, h => by
    have h' : leI a b = true ∧ chainI (b :: l) = true := by simpa [chainI] using h
    have ih := chain_pair (b :: l) h'.2
    refine List.pairwise_cons.mpr ⟨fun c hc => ?_, ih⟩
    rcases List.mem_cons.mp hc with e | hc
    · rw [e]; exact h'.1
    · exact leI_total.trans _ _ _ h'.1 ((List.pairwise_cons.mp ih).1 c hc)
theorem ord_ok : ∀ n < 9, chainI (ordI n) = true ∧ (ordI n).isPerm (genI n) = true := by decide +kernel
theorem sort_gen {n : Nat} (hn : n ≤ 8) : (genI n).mergeSort leI = ordI n := by
  obtain ⟨h1, h2⟩ := ord_ok n (by omega)
  refine (PySem.W.sort_unique leI_total (chain_pair _ h1) fun c => ?_).symm
  have e : ∀ l : List (List Nat), l.filter (PySem.W.sameRank leI c) = List.replicate (l.count c) c := fun l => by
    have e2 : (PySem.W.sameRank leI c) = (· == c) := by
      funext a
      unfold PySem.W.sameRank
      by_cases h : a = c
      · subst h
        rw [PySem.W.TotalLe.refl leI_total]
        simp
      · have z : ¬ (leI c a = true ∧ leI a c = true) := fun ⟨x, y⟩ => h (keyI_inj (List.le_antisymm (leI_iff.mp y) (leI_iff.mp x)))
        have z2 : (leI c a && leI a c) = false := by
          rw [← Bool.not_eq_true, Bool.and_eq_true]
          exact z
        rw [z2]
        simp [h]
    rw [e2, List.filter_beq]
  rw [e, e, (List.isPerm_iff.mp h2).count_eq]
end FS
set_option maxHeartbeats 1000000
namespace FS
open PySem PySem.Spec PyProof.Rows L2 GenW
section
variable {X : Cx} {pos : Pos}
def tGIf (c : TT) (a b : TGn) : TGn := fun D ys σ H => c σ H fun k H1 => if k = true then a D ys σ H1 else b D ys σ H1
theorem gs_if {c : Expr} {a b : List Stmt} {tc : TT} {ta tb : TGn} (hc : PT X c tc) (ha : GSs X a ta) (hb : GSs X b tb) : GS X (.If c a b pos) (tGIf tc ta tb) := by
  refine ⟨fun A S ip R n ys s₀ cd fs K J gd lv s σ H D g hn k hI ht => ?_⟩
  obtain ⟨acc, cc, r, I⟩ := hI
  rw [exec_If]
  refine seg_bind_wrap (wpAny_standAt ?_)
  refine seg_bind_wrap ?_
  rw [g.over]
  refine wpAny_mono (hc.run _ s σ H _ I ht) (fun b s' hb' => ?_) fun x s' hx => k.exc n s₀ x s' hx
  obtain ⟨H2, I2, q2⟩ := hb'
  cases b with
  | true => exact ha.run A S ip R n ys s₀ cd fs K J gd lv s' σ H2 D g hn k ⟨acc, cc, r, I2⟩ q2
  | false => exact hb.run A S ip R n ys s₀ cd fs K J gd lv s' σ H2 D g hn k ⟨acc, cc, r, I2⟩ q2
theorem seg_forLoop {prog : Program} {w : World} {A : Around} {R : GenEnd} {Y : Protocol} {n : Nat} {s₀ : Shared} {fs : List Frame} {s : Shared} {env : Env} {target : Expr} {it : Value} {body orelse : List Stmt}
    (h : wpAny (model prog w) (A.over (.forLoop target it body orelse env) fs) (pyNext it) (fun r s1 => match r with
        | none => Seg (model prog w) A R Y n s₀ (.forLoop target it body orelse env) (.pure (.again (.block orelse env))) fs s1
        | some v => wpAny (model prog w) (A.over (.forLoop target it body orelse env) fs) (letOwnedTupleGo target it v) (fun _ s2 =>
            wpAny (model prog w) (A.over (.forLoop target it body orelse env) fs) (assign target env v) (fun _ s3 =>
              Seg (model prog w) A R Y n s₀ (.forLoop target it body orelse env) ((execs body env).wrap (fun f => match f with
                | .next | .cont => .pure (.again (.forLoop target it body orelse env))
                | .brk => .pure (.done .next)
                | .ret v => .pure (.done (.ret v))) (fun e => (do noteFrame e env; theTreesLotGoes e : Sem Unit).wrap (fun _ => .raise e) .raise id id) id id) fs s3)
              (fun x s' => Seg (model prog w) A R Y n s₀ (.forLoop target it body orelse env) ((do noteFrame x env; theTreesLotGoes x : Sem Unit).wrap (fun _ => .raise x) .raise id id) fs s') s2)
            (fun x s' => Seg (model prog w) A R Y n s₀ (.forLoop target it body orelse env) ((do noteFrame x env; theTreesLotGoes x : Sem Unit).wrap (fun _ => .raise x) .raise id id) fs s') s1)
      (fun x s' => Seg (model prog w) A R Y n s₀ (.forLoop target it body orelse env) ((do noteFrame x env; theTreesLotGoes x : Sem Unit).wrap (fun _ => .raise x) .raise id id) fs s') s) :
    Seg (model prog w) A R Y n s₀ (.forLoop target it body orelse env) ((model prog w).den (.forLoop target it body orelse env)) fs s := by
  show Seg _ A R Y n s₀ _ ((forTurn target it body orelse env).onRaise (fun x => do noteFrame x env; theTreesLotGoes x)) fs s
  unfold forTurn
  rw [Sem.onRaise_eq_wrap]
  have note : ∀ (x : Value) (s' : Shared), Seg (model prog w) A R Y n s₀ (.forLoop target it body orelse env) ((do noteFrame x env; theTreesLotGoes x : Sem Unit).wrap (fun _ => .raise x) .raise id id) fs s' →
      Seg (model prog w) A R Y n s₀ (.forLoop target it body orelse env) ((do noteFrame x env; theTreesLotGoes x : Sem Unit).bind fun _ => .raise x) fs s' := fun x s' hx => by
    rw [Sem.bind_eq_wrap]
    exact hx
  refine seg_bind_wrap (wpAny_standAt ?_)
  refine seg_bind_wrap (wpAny_onRaise (wpAny_mono h (fun r s1 h1 => ?_) fun x s' hx => wpAny_standAt (note x s' hx)))
  cases r with
  | none => exact h1
  | some v =>
    refine seg_bind_wrap (wpAny_mono h1 (fun _ s2 h2 => ?_) fun x s' hx => note x s' hx)
    refine seg_bind_wrap (wpAny_mono h2 (fun _ s3 h3 => ?_) fun x s' hx => note x s' hx)
    rw [Sem.bind_eq_wrap', Sem.wrap_wrap]
    rw [Sem.wrap_congr (execs body env) _ _ (K' := fun f => match f with
          | .next | .cont => .pure (.again (.forLoop target it body orelse env))
          | .brk => .pure (.done .next)
          | .ret v => .pure (.done (.ret v))) (H' := (fun e => (do noteFrame e env; theTreesLotGoes e : Sem Unit).wrap (fun _ => .raise e) .raise id id))
      (fun f => by cases f <;> rfl)
      (fun e => by first | exact Sem.bind_eq_wrap _ _ | (show (do noteFrame e env; theTreesLotGoes e : Sem Unit).bind (fun _ => .raise e) = _; rw [Sem.bind_eq_wrap]))]
    exact h3
/-- for, with what is out so far -/
def tGFor (wi : TI) (g : TG) (tb : TGn) : TGn := fun D ys σ H => wi σ H fun J H1 => ∃ W : Nat → Nat → List V → L2.St → Hp → Prop, (∃ m, W 0 m ys σ H1) ∧ ∀ i m ys σ H, W i m ys σ H →
  (J.stop i H ∧ D.nx ys σ H) ∨ (J.go i H ∧ ∃ N : List V → L2.St → Hp → Prop, (∀ ys' σ' H', N ys' σ' H' → ∃ m', m' < m ∧ W (i + 1) m' ys' σ' H') ∧ ∀ x H', J.yld i H x H' → g x σ H' fun σ2 H2 => tb { D with nx := N, ct := N, bk := D.nx } ys σ2 H2)
theorem gs_for {tg iter : Expr} {body : List Stmt} {wi : TI} {g : TG} {tb : TGn} (hp : PassesOwn (model X.prog X.w) X.A X.env X.xe) (hc : X.calm = true) (hi : PI X tg iter wi) (hg : PG X tg g) (hb : GSs X body tb)
    (hs : ∀ x, foldedSetIterable iter X.env x = pure x := by intro _; rfl) : GS X (.For tg iter body [] pos) (tGFor wi g tb) := by
  refine ⟨fun A S ip R n ys s₀ cd fs K J gd lv s σ H D gc hn k hI ht => ?_⟩
  obtain ⟨acc, cc, r, I⟩ := hI
  rw [exec_For]
  refine seg_bind_wrap (wpAny_standAt ?_)
  refine seg_bind_wrap ?_
  rw [gc.over]
  refine wpAny_mono (hi.run _ s σ H _ I ht) (fun v s1 h1 => ?_) fun x s' hx => k.exc n s₀ x s' hx
  refine seg_bind_wrap (wpAny_of_eq (hs v) ?_)
  refine seg_bind_wrap (wpAny_standAt ?_)
  refine seg_bind_wrap ?_
  rw [gc.over]
  refine wpAny_holding (wpAny_mono h1 (fun itv s2 h2 => ?_) fun x s' hx => k.exc n s₀ x s' hx)
  obtain ⟨it, fp, tn, Ji, H2, e, I2, T, st2, f2, W, ⟨m0, w0⟩, turn⟩ := h2
  subst e
  have stat : ∀ {H' : Hp}, (∀ b ∈ fp, H' b = none) → ∀ b ∈ fp, FpOk X ((S, lstObj acc cc) :: ip) H' b := fun hn b hb => ⟨hn b hb, (f2 b hb).2⟩
  have fpS : ∀ b ∈ fp, b ≠ S := fun b hb e => (f2 b hb).2.2.2.2.2 (S, lstObj acc cc) (List.mem_append_right _ List.mem_cons_self) e.symm
  show Seg _ A R _ n s₀ cd (.call (.forLoop tg (.ref it) body [] X.env) _ _ _ _) fs s2
  refine seg_call fun p => ?_
  have gl := fun (kk : Result → Sem PySem.Fin) => gc_loop (k := kk) (c' := .forLoop tg (.ref it) body [] X.env) (l := lv []) (kp := []) (p := p) gc rfl rfl
  have stat : ∀ {acc' : Array Value} {cc' : Nat} {H' : Hp}, (∀ b ∈ fp, H' b = none) → ∀ b ∈ fp, FpOk X ((S, lstObj acc' cc') :: ip) H' b := fun {acc' cc' H'} hn b hb => by
    obtain ⟨_, f1, f2', f3, f4, f5⟩ := f2 b hb
    refine ⟨hn b hb, f1, f2', f3, f4, fun q hq => ?_⟩
    rcases List.mem_append.mp hq with hq | hq
    · exact f5 q (List.mem_append_left _ hq)
    · rcases List.mem_cons.mp hq with e | hq
      · rw [e]
        exact (fpS b hb).symm
      · exact f5 q (List.mem_append_right _ (List.mem_cons_of_mem _ hq))
  have loop : ∀ (m i n : Nat) (ys : List V) (s₀ s : Shared) (σ : L2.St) (H : Hp), n + ys.length = sizeLine → W i m ys σ H → GI X S ip ys σ H s → tn i s.heap → (∀ b ∈ fp, H b = none) →
      Seg (model X.prog X.w) A R (GY X S) n s₀ (.forLoop tg (.ref it) body [] X.env) ((model X.prog X.w).den (.forLoop tg (.ref it) body [] X.env))
        (.ret (fun r => ((match r with | .ok f => (.pure f : Sem Flow) | .error e => .raise e).onRaise (cameBack X.env)).wrap K J gd lv) none (gd false) (lv []) cd p [] :: fs) s := by
    intro m
    induction m using Nat.strongRecOn with
    | ind m ih =>
      intro i n ys s₀ s σ H hn w hI st fr
      have ee : ∀ (n : Nat) (s₀ : Shared) (x : Value) (s' : Shared), X.xe x s' → Seg (model X.prog X.w) A R (GY X S) n s₀ (.forLoop tg (.ref it) body [] X.env)
          ((do noteFrame x X.env; theTreesLotGoes x : Sem Unit).wrap (fun _ => .raise x) .raise id id)
          (.ret (fun r => ((match r with | .ok f => (.pure f : Sem Flow) | .error e => .raise e).onRaise (cameBack X.env)).wrap K J gd lv) none (gd false) (lv []) cd p [] :: fs) s' := fun n s₀ x s' hx => by
        refine seg_wrap ?_
        rw [(gl _).over]
        refine wpAny_bind (wpAny_mono (hp x s' hx) (fun _ s'' hcb => wpAny_theTreesLotGoes ?_) fun y s'' hcb => ?_)
        · exact seg_leaf (.error x) (seg_cameBack gc k hcb)
        · exact seg_leaf (.error y) (seg_cameBack gc k hcb)
      refine seg_forLoop ?_
      rw [(gl _).over]
      obtain ⟨acc, cc, r, I⟩ := hI
      rcases turn i m ys σ H w with ⟨stop, qn⟩ | ⟨go, N, hN, step⟩
      · refine wpAny_mono (T.done X rfl rfl rfl hc i _ s σ H X.xe I (stat fr) st stop) (fun r' s4 ⟨hr, I4⟩ => ?_) fun x s' hx => ee n s₀ x s' hx
        subst hr
        refine seg_again rfl ?_
        exact seg_leaf (.ok .next) (k.ok n ys s₀ s4 .next hn ⟨σ, H, ⟨acc, cc, r, I4⟩, qn⟩)
      · refine wpAny_mono (T.item X rfl rfl rfl hc i _ s σ H X.xe I (stat fr) st go) (fun r' s4 ⟨u, hr, h4⟩ => ?_) fun x s' hx => ee n s₀ x s' hx
        subst hr
        refine wpAny_mono h4 (fun _ s5 ⟨x, H5, I5, r5, y5, st5, fr5⟩ => ?_) fun x s' hx => ee n s₀ x s' hx
        have I5' := I5.pinned (stat fr5) (T.obj _ _ st5)
        refine wpAny_mono (hg.run _ s5 σ H5 x u _ I5' r5 (step x H5 y5)) (fun _ s6 ⟨σ6, H6, I6, q6⟩ => ?_) fun x s' hx => ee n s₀ x s' hx
        have gl2 := gl (fun r => ((match r with | .ok f => (.pure f : Sem Flow) | .error e => .raise e).onRaise (cameBack X.env)).wrap K J gd lv)
        have hip : ∀ q ∈ ip ++ pinsAt fp s5.heap, q.1 ≠ S := fun q hq => by
          rcases List.mem_append.mp hq with hq | hq
          · exact gc.ip q hq
          · exact fpS q.1 (of_pinsAt hq).1
        refine hb.run A S (ip ++ pinsAt fp s5.heap) R n ys s₀ _ _ _ _ id id s6 σ6 H6 { D with nx := N, ct := N, bk := D.nx } ⟨gl2.pn, hip, gl2.apart, gl2.over, gl2.split, gl2.guard, gl2.gd⟩ hn ⟨fun n' ys' s₀' s7 f hn' hs => ?_, fun n' s₀' x s7 hx => ee n' s₀' x s7 hx⟩ ⟨acc, cc, r, I6⟩ q6
        have again : ∀ {σ7 : L2.St} {H7 : Hp}, GI X S (ip ++ pinsAt fp s5.heap) ys' σ7 H7 s7 → N ys' σ7 H7 → Seg (model X.prog X.w) A R (GY X S) n' s₀' (.forLoop tg (.ref it) body [] X.env) (.pure (.again (.forLoop tg (.ref it) body [] X.env)))
            (.ret (fun r => ((match r with | .ok f => (.pure f : Sem Flow) | .error e => .raise e).onRaise (cameBack X.env)).wrap K J gd lv) none (gd false) (lv []) cd p [] :: fs) s7 := fun {σ7 H7} G7 n7 => by
          obtain ⟨m', hm, w7⟩ := hN ys' σ7 H7 n7
          obtain ⟨acc7, cc7, r7, I7⟩ := G7
          have I7' : Inv X (((S, lstObj acc7 cc7) :: ip) ++ pinsAt fp s5.heap) σ7 H7 s7 := I7
          refine seg_again rfl (ih m' hm (i + 1) n' ys' s₀' s7 σ7 H7 hn' w7 ⟨acc7, cc7, r7, I7'.pins_of fun q hq => I7'.pin q ?_⟩ (T.keep _ _ _ st5 fun b hb o e => (I7'.pin (b, o) (List.mem_append_right _ (List.mem_append_right _ (mem_pinsAt hb e)))).1) fun b hb => ?_)
          · exact List.mem_append_right _ (List.mem_append_left _ hq)
          · obtain ⟨o, e, d⟩ := T.obj _ _ st5 b hb
            exact (I7'.pin (b, o) (List.mem_append_right _ (List.mem_append_right _ (mem_pinsAt hb e)))).2.1
        cases f with
        | next => obtain ⟨σ7, H7, G7, n7⟩ := hs; exact again G7 n7
        | cont => obtain ⟨σ7, H7, G7, n7⟩ := hs; exact again G7 n7
        | brk =>
          obtain ⟨σ7, H7, ⟨acc7, cc7, r7, I7⟩, q7⟩ := hs
          exact seg_leaf (.ok .next) (k.ok n' ys' s₀' s7 .next hn' ⟨σ7, H7, ⟨acc7, cc7, r7, I7.pins_of fun q hq => I7.pin q (by
            rcases List.mem_cons.mp hq with e | hq
            · rw [e]; exact List.mem_append_right _ List.mem_cons_self
            · exact List.mem_append_right _ (List.mem_cons_of_mem _ (List.mem_append_left _ hq)))⟩, q7⟩)
        | ret v =>
          obtain ⟨x7, σ7, H7, ⟨acc7, cc7, r7, I7⟩, rv, q7⟩ := hs
          exact seg_leaf (.ok (.ret v)) (k.ok n' ys' s₀' s7 (.ret v) hn' ⟨x7, σ7, H7, ⟨acc7, cc7, r7, I7.pins_of fun q hq => I7.pin q (by
            rcases List.mem_cons.mp hq with e | hq
            · rw [e]; exact List.mem_append_right _ List.mem_cons_self
            · exact List.mem_append_right _ (List.mem_cons_of_mem _ (List.mem_append_left _ hq)))⟩, rv, q7⟩)
  exact loop m0 0 n ys s₀ s2 σ H2 hn w0 ⟨acc, cc, r, I2⟩ st2 fun b hb => (f2 b hb).1
end
end FS
set_option maxHeartbeats 2000000
namespace FS
open PySem PySem.Spec PyProof.Rows L2
section
variable {X : Cx} {x1 x2 : Str} {c1 c2 : Value} {body suite : List Stmt} {b₀ : Stmt} {np1 np2 tpos pos pos' : Pos} {kk : Nat} {tb : WX → TS} {ts : Addr → Value → Option Addr → TS} {Wout : WX}
end
end FS
set_option maxHeartbeats 2000000
namespace FS
open PySem PySem.Spec PyProof.Rows L2 HT
section
variable {prog : Program} {w : World} {A : Around} {E : Value → Shared → Prop} {s : Shared}
theorem adjust_rev (n : Nat) : Builtin.Slice.sliceAdjust none none (-1) (n : Int) = ((n : Int) - 1, -1) := by
  unfold Builtin.Slice.sliceAdjust
  have h1 : ((-1 : Int) < 0) := by omega
  simp only [h1, if_true]
theorem places_rev (n : Nat) : Builtin.Slice.slicePlaces ((n : Int) - 1) (-1) (-1) = n := by
  unfold Builtin.Slice.slicePlaces
  have h1 : ¬ ((-1 : Int) > 0) := by omega
  simp only [h1, if_false]
  split <;> simp <;> omega
theorem fm_some {α β : Type} {f : α → Option β} {g : α → β} : ∀ {l : List α}, (∀ m ∈ l, f m = some (g m)) → l.filterMap f = l.map g
  | [], _ => rfl
  | a :: l, h => by
    rw [List.filterMap_cons, h a List.mem_cons_self, List.map_cons]
    exact congrArg _ (fm_some fun m hm => h m (List.mem_cons_of_mem _ hm))
theorem pick_rev (xs : Array Value) : ((List.range xs.size).filterMap fun (m : Nat) => xs[(((xs.size : Int) - 1) + (m : Int) * (-1)).toNat]?).toArray = xs.toList.reverse.toArray := by
  congr 1
  have e : ∀ m ∈ List.range xs.size, xs[(((xs.size : Int) - 1) + (m : Int) * (-1)).toNat]? = some (xs.toList.reverse.getD m .none) := fun m hm => by
    have hm' := List.mem_range.mp hm
    have e1 : (((xs.size : Int) - 1) + (m : Int) * (-1)).toNat = xs.size - 1 - m := by omega
    rw [e1, List.getD_eq_getElem?_getD, List.getElem?_reverse (by rw [Array.length_toList]; exact hm'), Array.length_toList, Array.getElem?_toList, Array.getElem?_eq_getElem (by omega)]
    rfl
  rw [fm_some e]
  refine List.ext_getElem? fun i => ?_
  rw [List.getElem?_map]
  by_cases hi : i < xs.size
  · rw [List.getElem?_range hi]
    show some (xs.toList.reverse.getD i Value.none) = _
    rw [List.getD_eq_getElem?_getD]
    have hl : i < xs.toList.reverse.length := by rw [List.length_reverse, Array.length_toList]; exact hi
    rw [List.getElem?_eq_getElem hl]
    rfl
  · rw [List.getElem?_eq_none (by rw [List.length_range]; omega), List.getElem?_eq_none (by rw [List.length_reverse, Array.length_toList]; omega)]
    rfl
theorem applied_rev {sl : Addr} {vs : Value} {n : Nat} {Q : Int × Int × Nat → Shared → Prop} (hs : s.heap.IsSliceOf sl .none .none vs) (ps : IsPart vs (some (-1)))
    (h : Q ((n : Int) - 1, -1, n) s) : wpAny (model prog w) A (Builtin.Slice.sliceApplied (.ref sl) (pure (n : Int))) Q E s := by
  obtain ⟨os, hos, hcs, hds⟩ := id hs
  unfold Builtin.Slice.sliceApplied Builtin.Slice.sliceFields
  refine wpAny_bind (wpAny_bind (wpAny_field hos hds (x := .none) rfl (wpAny_bind (wpAny_field hos hds (x := .none) rfl (wpAny_bind (wpAny_field hos hds (x := vs) rfl (wpAny_pure ?_)))))))
  refine wpAny_bind (slicePart_ ps ?_)
  show wpAny _ _ (if ((-1 : Int) == 0) = true then _ else _) _ _ s
  rw [if_neg (by decide)]
  refine wpAny_bind (slicePart_none (wpAny_bind (slicePart_none (wpAny_bind (wpAny_pure ?_)))))
  show wpAny _ _ (match Builtin.Slice.sliceAdjust none none (-1) (n : Int) with | (lo, hi) => pure (lo, (-1 : Int), Builtin.Slice.slicePlaces lo hi (-1))) _ _ s
  rw [adjust_rev]
  show wpAny _ _ (pure ((n : Int) - 1, (-1 : Int), Builtin.Slice.slicePlaces ((n : Int) - 1) (-1) (-1))) _ _ s
  rw [places_rev]
  exact wpAny_pure h
theorem getItem_tuple_rev {t sl : Addr} {items : Array Value} {vs : Value} {Q : Value → Shared → Prop} (ht : IsTup s.heap t items) (hs : s.heap.IsSliceOf sl .none .none vs) (ps : IsPart vs (some (-1)))
    (h : Q (.ref s.heap.objs.size) { s with heap := s.heap.push { cls := .type "tuple", data := .seq items.toList.reverse.toArray } })
    (hsz : items.size ≤ sizeLine) : wpAny (model prog w) A (getItem (.ref t) (.ref sl)) Q E s := by
  have htake : sizeOk (.seq items.toList.reverse.toArray) := by
    show items.toList.reverse.toArray.size ≤ sizeLine
    rw [List.size_toArray, List.length_reverse, Array.length_toList]
    omega
  obtain ⟨os, hos, hcs, hds⟩ := id hs
  have hTs : s.TypeIs (.ref sl) "slice" := ⟨os, hos, hcs⟩
  unfold getItem
  try with_reducible refine wpAny_holding ?_
  first | refine wpAny_bind (wpAny_pure ?_) | skip
  refine wpAny_bind (wpAny_sequenceKey ht.typeIs (by decide) ?_)
  refine wpAny_bind (wpAny_callSpecial?_slot (name := Str.ofString "__getitem__") ht.typeIs PyProof.Rows.slot_tuple_getitem
    (wpAny_call_entry PyProof.Rows.slot_tuple_getitem ht.typeIs entry_tuple_getitem ?_ (args_tuple_getitem _ _)))
  show wpAny _ _ (Builtin.Tuple.tupleItemsOf (.ref t) >>= _) _ _ s
  refine wpAny_bind (tupleItemsOf_ ht ?_)
  refine wpAny_bind (wpAny_typeOf hTs ?_)
  rw [if_pos (by decide)]
  refine wpAny_bind (applied_rev (n := items.size) hs ps ?_)
  have hno : ¬ ((((items.size : Int) - 1) == 0 && (-1 : Int) == 1 && items.size == items.size) = true) := by
    intro q
    rw [Bool.and_eq_true, Bool.and_eq_true] at q
    exact absurd q.1.2 (by decide)
  show wpAny _ _ (if (((items.size : Int) - 1) == 0 && (-1 : Int) == 1 && items.size == items.size) = true then _ else _) _ _ s
  rw [if_neg hno, pick_rev]
  first
    | exact wpAny_bind (m := Builtin.Tuple.tupleExact _) (wpAny_newObj_type (wpAny_pure ⟨_, rfl, wpAny_pure h⟩) htake)
    | exact wpAny_bind (m := Builtin.Tuple.tupleExact _) (wpAny_newObj_type (wpAny_bind (wpAny_pure (wpAny_pure ⟨_, rfl, wpAny_pure h⟩))) htake)
    | exact wpAny_bind (wpAny_bind (m := Builtin.Tuple.tupleExact _) (wpAny_newObj_type (wpAny_pure (wpAny_pure ⟨_, rfl, wpAny_pure h⟩)) htake))
    | exact wpAny_bind (wpAny_bind (m := Builtin.Tuple.tupleExact _) (wpAny_newObj_type (wpAny_pure ⟨_, rfl, wpAny_pure h⟩) htake))
end
section
variable {X : Cx}
def tRevT (K : PySem.W.Frag) (te : TE) : TE := fun σ H Q => te σ H fun x H1 => ∃ a xs, x = .ref a ∧ SqT K H1 a xs ∧ ∀ p, H1 p = none → Q (.ref p) (upd H1 p (.tup xs.reverse))
theorem pe_revT {e : Expr} {te : TE} {k : Nat} {p1 p2 p3 pos : Pos} (he : PE X e te) : PE X (.Subscript e (.Slice none none (some (.UnaryOp .USub (.Constant (.int 1) k p1) p2)) p3) pos) (tRevT X.K te) := by
  refine ⟨fun pins s σ H Q I h => ?_⟩
  refine Subscript_ (thn (he.run pins s σ H _ I h) fun v s1 ⟨x, H1, I1, r1, q1⟩ => ?_)
  obtain ⟨a, xs, ex, hx, q⟩ := q1
  subst ex
  cases r1
  have hst : PO X (some (.UnaryOp .USub (.Constant (.int 1) k p1) p2)) (tPart (tUn (rU fun i => .int (-i)) (tC (.int 1)))) := po_some (pe_un un_neg pe_int)
  refine wpAny_Slice (thn (po_none.run pins s1 σ H1 (fun o H2 => o = none ∧ H2 = H1) I1 ⟨rfl, rfl⟩) fun vl s2 ⟨l, H2, I2, pl, el, e2⟩ => ?_)
  subst el e2
  cases pl
  refine thn (po_none.run pins s2 σ H2 (fun o H3 => o = none ∧ H3 = H2) I2 ⟨rfl, rfl⟩) fun vu s3 ⟨u, H3, I3, pu, eu, e3⟩ => ?_
  subst eu e3
  cases pu
  refine thn (hst.run pins s3 σ H3 (fun o H4 => o = some (-1) ∧ H4 = H3) I3 ⟨1, rfl, -1, rfl, rfl, rfl⟩) fun vs s4 ⟨o, H4, I4, ps, eo, e4⟩ => ?_
  subst eo e4
  have I5 : Inv X pins σ H4 { s4 with heap := s4.heap.push { cls := .type "slice", data := .fields #[.none, .none, vs] } } := I4.kept (t' := s4.toks) fun b ob q => Heap.get?_push_of_some _ q
  obtain ⟨its, r, ht, hz⟩ := I5.tuple hx
  have hlen := r.length
  show wpAny (model X.prog X.w) X.A (subscriptTail e (.Slice none none (some (.UnaryOp .USub (.Constant (.int 1) k p1) p2)) p3) (.ref a) (.ref s4.heap.objs.size)) (EP X pins σ Q) X.xe { s4 with heap := s4.heap.push { cls := .type "slice", data := .fields #[.none, .none, vs] } }
  refine tail_any (ops := [.ref a, .ref s4.heap.objs.size]) ht.typeIs (PyProof.Rows.slot_tuple_getitem.lookup) ?_ (by with_unfolding_all rfl)
  refine getItem_tuple_rev ht (Heap.IsSliceOf.new _ _ _ vs) ps ?_ (by rw [List.size_toArray]; omega)
  refine ⟨.ref _, _, I5.laid (t' := s4.toks) (o := .tup xs.reverse) (fun b ob q => Heap.get?_push_of_some _ q) (Nat.le_refl _) ?_, rfl, q _ (I5.hok.fresh (Nat.le_refl _))⟩
  exact ⟨by rw [List.length_reverse]; exact hz, _, r.reverse, IsTup.new _ _⟩
end
end FS
set_option maxHeartbeats 2000000
namespace FS
open PySem PySem.Spec PyProof.Rows L2
section
variable {X : Cx} {e : Expr} {es : List Expr} {ta : TA} {p pos : Pos}
theorem pmkN_oex {CX : CXT} {x : Str} {C fI : Addr} {k : Nat} {fd : FuncData} {ps : List Str} {sp : Sp} (T : OexC X.K C) (iC : PySem.W.findIn X.K (.ref C) "__init__" = some (some (.ref fI))) (tI : PySem.W.typeIn X.K (.ref fI) = some (.type "function"))
    (F1 : FnOk X.prog X.w X.K X.mg X.base CX k fI fd ps sp) (room : Room (k + 1) X.A) (bnd : Binds X.K fd ps []) (hx : Passes CX X (fun _ _ _ => False)) (hg : Gl X x) (hm : X.mg x = some (.ref C)) (ha : PA X (e :: es) ta)
    (hdb : (x == ("__debug__" : Str)) = false := by decide) (he : starEach (e :: es) X.env = (false, eval e X.env) :: starEach es X.env := by rfl) (hpl : (backTo pos (starEach es X.env)).any (·.1) = false := by rfl) :
    L2N.PMk X (.Call (.Name x p) (e :: es) [] pos) (tMkO C sp [] ta) := by
  intro pins s σ H Q I h
  obtain ⟨_, _, _, _, bm, _, _, _, _, _, _, _, _, _, _, hC, hbm⟩ := T.cls
  refine wpAny_Call_Name_kw (ld_glob I hg hm ?_ hdb)
  refine PySem.W.callWith_K (h₀ := X.base) I.ok.mod.kin T.kC (thn (ha.run pos pins s σ H _ I h) fun us s1 ⟨vs, H1, I1, r1, _, q1⟩ => ⟨I1.kIn, ?_⟩) he hpl
  show wpAny _ _ (call (.ref C) us) _ _ _
  obtain ⟨hp, gn, dw, nt, ws⟩ := s1
  generalize hnw : hp.objs.size + 1 = nw at *
  have hsz : hp.objs.size ≤ nw := by omega
  have free := I1.hok.fresh hsz
  have hq := q1 nw free
  rw [List.append_nil] at hq
  generalize hP : (hp.push (PySem.W.kdv_tup us)).push (PySem.HandSPX.excO C hp.objs.size) = hp3
  have keep : ∀ b o, hp.get? b = some o → hp3.get? b = some o := fun b o z => by
    rw [← hP]
    exact Heap.get?_push_of_some _ (Heap.get?_push_of_some _ z)
  have there : hp3.get? nw = some (PySem.HandSPX.excO C hp.objs.size) := by
    rw [← hP, ← hnw]
    heap_get
  have I2 : Inv X pins σ (upd H1 nw (exo nw C none)) ⟨hp3, gn, dw, nt, ws⟩ := I1.laid (t' := nt) (a := nw) (o := exo nw C none) (h' := hp3) keep hsz (exo_ok there)
  have r2 : Vals (V.ref nw :: vs) (Value.ref nw :: us) := .cons rfl r1
  have hl : (Value.ref nw :: us ++ []).length = ps.length := by
    have z := r2.length
    rw [F1.len _ _ _ _ hq] at z
    rw [List.append_nil]
    exact z.symm
  have small : us.length ≤ sizeLine := by
    have z := Paired.length r1
    rw [sizeLine_eq]
    omega
  have b2 := bnd _ (Value.ref nw :: us) I2.kIn hl
  rw [List.append_nil] at b2
  subst hnw
  subst hP
  refine wpAny_call (PySem.HandSPX.call_own F.excBase_ValueError (fun Y => PySem.HandSPX.refsVE_contains Y bm hbm) (I1.kIn _ _ hC) (PySem.W.looks_findIn I1.kIn iC) (fun self => PySem.W.bind_fn I1.kIn self tI) small
    (codeAny_mono (F1.run _ X.stack _ _ ⟨_, []⟩ (Value.ref (hp.objs.size + 1) :: us) _ _ (fun _ _ _ => False) (room.make C us []) (I2.env0.make C us []) b2 r2 hq) fun r s' out => ?_))
  cases r with
  | error er => exact hx pins σ _ _ er s' I2 out
  | ok fl =>
    cases fl with
    | ret u =>
      obtain ⟨v, H2, o2, bare2, un2, hok2, rv, ev, d, fs, ea, ed, hd1, q2⟩ := out
      subst ev
      obtain ⟨h2, g2, d2, t2, o3⟩ := s'
      obtain ⟨_, G, J, kG, ge, hoe, na⟩ := mk_end0 (d2 := d2) (t2 := t2) I1 hsz keep un2 hok2 o2 bare2 ea ed hd1
      refine ⟨rv, ⟨hp.objs.size + 1, _, _, ⟨G, g2, d2, t2, o3⟩, _, .ref C, some d, rfl, J, kG, ge, hoe, ⟨rfl, rfl, fun vs hv => ?_⟩, rfl, rfl, na, rfl, bare2, raises_own T.exC T.tyC, q2⟩⟩
      cases hv
      rfl
    | next => exact False.elim out
    | brk => exact False.elim out
    | cont => exact False.elim out
end
/-- as okX, its error's context told -/
theorem okCt {P : Program} {w : World} {K : PySem.W.Frag} {mg : Str → Option Value} {base : Heap} {x qual : Str} {st : Stmt} {f : Addr} {fd : FuncData} {N ps : List Str} {k : Nat} {sp : Sp} (F : Fun K x qual st f fd) (S : FnScope N ps (defScope st)) (len : ∀ vs H Q E, sp vs H Q E → vs.length = ps.length)
    (hbody : ∀ (cdv : Value) (A : Around) (outer : List Env) (s : Shared) (H : Hp) (vs : List V) (Q : VK) (E : XK), Room k (A.deeper (envOfC qual (defScope st) s.heap.objs.size f cdv)) → sp vs H Q E →
      ∃ t, PSs (cxOf (L2N.CX P w) P w K mg base N qual (defScope st) f cdv A outer s H E) (defBody st) t ∧ t { nx := fun _ H' => Q .non H', rt := Q } (start N vs) H) : FnOk P w K mg base (L2N.CX P w) (k + 1) f fd ps sp := by
  obtain ⟨oc, od, kV, doc, pm, an, cdv, ct, osl, rfl, lk, hcd⟩ := F.ex
  exact fn_of lk hcd S len fun A outer s H vs Q E hr hsp => hbody cdv A outer s H vs Q E hr hsp
/-- a def that is called within an except's suite -/
theorem okHot {P : Program} {w : World} {K : PySem.W.Frag} {mg : Str → Option Value} {base : Heap} {x qual : Str} {st : Stmt} {f : Addr} {fd : FuncData} {N ps : List Str} {k : Nat} {sp : Sp} (F : Fun K x qual st f fd) (S : FnScope N ps (defScope st)) (len : ∀ vs H Q E, sp vs H Q E → vs.length = ps.length)
    (hbody : ∀ (cdv : Value) (A : Around) (outer : List Env) (s : Shared) (H : Hp) (vs : List V) (Q : VK) (E : XK) (p : Addr × Obj), L2H.RoomH k (A.deeper (envOfC qual (defScope st) s.heap.objs.size f cdv)) → sp vs H Q E →
      ∃ t, PSs (L2H.cxH CX0 P w K mg base N qual (defScope st) f cdv A outer s H E p) (defBody st) t ∧ t { nx := fun _ H' => Q .non H', rt := Q } (start N vs) H) : L2H.FnH P w K mg base CX0 (k + 1) f fd ps sp := by
  obtain ⟨oc, od, kV, doc, pm, an, cdv, ct, osl, rfl, lk, hcd⟩ := F.ex
  exact L2H.fn_ofH lk hcd S len fun A outer s H vs Q E p _ hr hsp => hbody cdv A outer s H vs Q E p hr hsp
end FS
set_option maxHeartbeats 2000000
namespace FS
open PySem PySem.Spec PyProof.Rows L2
/-- the cells stand apart from the iterator's objects -/
def CellsOff (X : Cx) (ch : List Addr) : Prop := ∀ b ∈ ch, ∀ x c, X.env.cells.lookup x = some c → c ≠ b
/-- the block's context -/
abbrev cX (X : Cx) (s0 : Shared) (H0 : Hp) (bs : Scope) (cl : List (Str × Addr)) (C0 : Addr) (fp : List Addr) : Cx := X.blk s0 H0 bs (compEnvC bs cl C0 X.env) fp
section
variable {X : Cx}
theorem pe_lcV {elt tg iter : Expr} {bs : Scope} {own : List (Str × Nat)} {pos : Pos} {wi : TI} {g : TG} {te : L2.St → TE} (calm : X.calm = true) (nd : X.N.Nodup) (hi : PI X tg iter wi) (ok : BlkOk X.N X.env.scope bs own)
    (hg : ∀ (s0 : Shared) (H0 : Hp) (C0 : Addr) (cl : List (Str × Addr)) (fp : List Addr), PG (cX X s0 H0 bs cl C0 fp) tg g)
    (he : ∀ (pz : List (Addr × Obj)) (σo : L2.St) (s0 : Shared) (H0 : Hp) (C0 : Addr) (cl : List (Str × Addr)) (fp : List Addr), Inv X pz σo H0 s0 → CellsOff X fp → PE (cX X s0 H0 bs cl C0 fp) elt (te σo)) (hs : ∀ x, foldedSetIterable iter X.env x = pure x := by intro _; rfl) :
    PE X (.ListComp elt [⟨tg, iter, [], 0⟩] bs pos) (fun σ H Q => tLc wi g tYes (te σ) (own.map (·.2)) σ H Q) := by
  refine ⟨fun pz s σ H Q I h => ?_⟩
  rw [eval_ListComp]
  have free : ∀ y ∈ bs.names, y.2 = .free → ∃ c, X.env.cells.lookup y.1 = some c := fun y hy e => (ok.free y hy e).elim (fun k => I.ok.has _ (.inl k)) fun k => I.ok.has _ (.inr k)
  refine wpAny_comprehension_free (use := none) rfl hs (closure_ok free) ok.kind (fun y hy e => by rw [ok.uniq y hy, e]) (thn (hi.run pz s σ H _ I h) fun xv sa ha => thn ha fun itv sb hb => ?_)
  obtain ⟨it, fp, tn, J, Hb, e, Ib, T, stb, fb, q⟩ := hb
  subst e
  refine wpAny_newObj_type (newEnv_comp ?_) (by show 0 ≤ sizeLine; decide)
  generalize hM : sb.heap.objs.size = M
  have newM : Hb M = none := Ib.hok.fresh (Nat.le_of_eq hM)
  obtain ⟨W, ⟨m0, w0⟩, turn⟩ := q M newM
  generalize hsc : ({ sb with heap := sb.heap.push { cls := .type "list", data := .seq ([] : List Value).toArray } } : Shared) = sc
  have heapC : sc.heap = sb.heap.push { cls := .type "list", data := .seq ([] : List Value).toArray } := by rw [← hsc]
  have Ic : Inv X pz σ (upd Hb M (.lst [])) sc := by
    rw [← hsc]
    exact Ib.laid (t' := sb.toks) (fun b o e => Heap.get?_push_of_some _ e) (Nat.le_of_eq hM) ⟨Nat.zero_le _, [], 0, .nil, by rw [← hM]; exact Heap.get?_push_size _ rfl⟩
  have small : ∀ b ∈ fp, b < sb.heap.objs.size := fun b hb => by
    obtain ⟨o, e, _⟩ := T.obj _ _ stb b hb
    exact Heap.lt_size e
  have fc : ∀ b ∈ fp, FpOk X pz (upd Hb M (.lst [])) b ∧ b < sc.heap.objs.size := fun b hb => by
    have lt := small b hb
    refine ⟨⟨by rw [upd_ne (by rw [← hM]; exact Nat.ne_of_lt lt)]; exact (fb b hb).1, (fb b hb).2⟩, ?_⟩
    rw [heapC, Heap.size_push]
    exact Nat.lt_succ_of_lt lt
  have off : CellsOff X fp := fun b hb => (fc b hb).1.2.2.2.2.1
  have stc : tn 0 sc.heap := T.keep _ _ _ stb fun b _ o e => by rw [heapC]; exact Heap.get?_push_of_some _ e
  have Id := block_start Ic ok nd fc
  have none0 : ∀ b ∈ fp, (upd Hb M (.lst [])) b = none := fun b hb => (fc b hb).1.1
  generalize hH : upd Hb M (.lst []) = Hc at Ic Id w0 none0 fc
  show codeAny _ _ (.compStart (.ListComp elt [⟨tg, iter, [], 0⟩] bs pos) 0 (.ref it) (.ref M) (compEnvC bs (cellsFrom (sc.heap.objs.size + 1) bs.names (cloFrom X.env.cells bs.names [])) sc.heap.objs.size X.env)) (compPost (model X.prog X.w) X.A X.xe none (EP X pz σ Q) (.ref M) sc.heap.objs.size) { sc with heap := pushCells (sc.heap.push { cls := .type "dict", data := .dict #[] }) bs.names }
  generalize hcl : cellsFrom (sc.heap.objs.size + 1) bs.names (cloFrom X.env.cells bs.names []) = cl at Id ⊢
  have pg : PG (X.blk sc Hc bs (compEnvC bs cl sc.heap.objs.size X.env) fp) tg g := hg sc Hc sc.heap.objs.size cl fp
  have pe : PE (X.blk sc Hc bs (compEnvC bs cl sc.heap.objs.size X.env) fp) elt (te σ) := he pz σ sc Hc sc.heap.objs.size cl fp Ic off
  have cL : (compEnvC bs cl sc.heap.objs.size X.env).locals = sc.heap.objs.size := rfl
  generalize hce : compEnvC bs cl sc.heap.objs.size X.env = ce at Id pg pe cL ⊢
  generalize hsd : ({ sc with heap := pushCells (sc.heap.push { cls := .type "dict", data := .dict #[] }) bs.names } : Shared) = sd at Id ⊢
  have std : tn 0 sd.heap := T.keep _ _ _ stc fun b _ o e => by rw [← hsd]; exact pushCells_keeps _ _ _ _ (Heap.get?_push_of_some _ e)
  have stat : ∀ {σ' : L2.St} {H' : Hp} {s' : Shared}, Inv (X.blk sc Hc bs ce fp) [] σ' H' s' → (∀ b ∈ fp, H' b = none) → ∀ b ∈ fp, FpOk (X.blk sc Hc bs ce fp) [] H' b := fun {σ' H' s'} I' hn b hb =>
    ⟨hn b hb, (I'.ok.exf b hb).1, I'.ok.exfs b hb, .inl hb, fun x c e => (I'.ok.exf b hb).2 x c e, fun p hp => absurd (show p ∈ ([] : List (Addr × Obj)) ++ [] from hp) (by simp)⟩
  have loop : codeAny (model X.prog X.w) X.A (.compLoop (.ListComp elt [⟨tg, iter, [], 0⟩] bs pos) 0 (.ref it) (.ref M) ce) (compPost (model X.prog X.w) X.A X.xe none (EP X pz σ Q) (.ref M) sc.heap.objs.size) sd := by
    refine compLoop_any (fun n s' => ∃ i H', Inv (X.blk sc Hc bs ce fp) [] (wipe σ (own.map (·.2))) H' s' ∧ tn i s'.heap ∧ (∀ b ∈ fp, H' b = none) ∧ W i n H') ?_ m0 ⟨0, Hc, Id, std, none0, w0⟩
    rintro n se ⟨i, He, Ie, ste, ne, we⟩
    rcases turn i n He we with ⟨stop, qq⟩ | ⟨go, Nx, hNx, step⟩
    · refine thnF (T.done (X.blk sc Hc bs ce fp) rfl rfl rfl calm i [] se _ He (fun _ _ => False) Ie (stat Ie ne) ste stop) fun r sf ⟨hr, If⟩ => ?_
      subst hr
      have Ig : Inv X pz σ He sf := Ic.call' (ch := fp) If.os If.base If.hok If.bare fun b hb => ⟨(fc b hb).1.2.2.2.1, (fc b hb).1.2.1, (fc b hb).1.2.2.2.2.1, (fc b hb).1.2.2.2.2.2⟩
      have nC : He sc.heap.objs.size = none := by
        have z : He ce.locals = none := If.free
        rwa [cL] at z
      obtain ⟨m, hn, _⟩ := If.loc
      have hn : sf.heap.Ns ce.locals m := hn
      rw [cL] at hn
      obtain ⟨f0, f1, f2, f3, f4, f5⟩ := Ic.fpOk (Nat.le_refl _) nC
      exact ⟨m, hn, fun h'' sub => ⟨.ref M, He, Ig.turned (t' := sf.toks) (fun b o hb e => (sub.2 b hb).trans e) f0 f1 f3 f4 f5, rfl, qq⟩⟩
    · refine thnF (T.item (X.blk sc Hc bs ce fp) rfl rfl rfl calm i [] se _ He (fun _ _ => False) Ie (stat Ie ne) ste go) fun r sf ⟨u, hr, hf⟩ => ?_
      subst hr
      refine thnF hf fun _ sg ⟨x, Hg, Ig, rg, yg, stg, ng⟩ => ?_
      refine thnF (pg.run _ sg _ Hg x u _ (Ig.pinned (stat Ig ng) (T.obj _ _ stg)) rg (step x Hg yg)) fun _ sh ⟨σh, Hh, Ih, hwh, qh⟩ => ?_
      refine thnF ((pts_nil (X := X.blk sc Hc bs ce fp)).run _ sh σh Hh _ Ih qh) fun b si ⟨Hi, Ii, qi⟩ => ?_
      have fin : ∀ {s' : Shared} {H' : Hp}, Inv (X.blk sc Hc bs ce fp) ([] ++ pinsAt fp sg.heap) σh H' s' → Nx H' → ∃ m, m < n ∧ ∃ i H', Inv (X.blk sc Hc bs ce fp) [] (wipe σ (own.map (·.2))) H' s' ∧ tn i s'.heap ∧ (∀ b ∈ fp, H' b = none) ∧ W i m H' := fun {s' H'} I' nx => by
        obtain ⟨m', hm, w'⟩ := hNx H' nx
        have pin' : ∀ b ∈ fp, ∀ o, sg.heap.get? b = some o → s'.heap.get? b = some o ∧ H' b = none := fun b hb o e =>
          let z := I'.pin (b, o) (List.mem_append_right _ (List.mem_append_right _ (mem_pinsAt hb e)))
          ⟨z.1, z.2.1⟩
        have hl : (wipe σ (own.map (·.2))).length = σh.length := by rw [← hwh, wipe_length]
        refine ⟨m', hm, i + 1, H', (I'.unpinned (pins := [])).weak hl (fun j v e => ?_), T.keep _ _ _ stg fun b hb o e => (pin' b hb o e).1, fun b hb => ?_, w'⟩
        · rw [← hwh] at e
          exact (wipe_some e).1
        · obtain ⟨o, e, _⟩ := T.obj _ _ stg b hb
          exact (pin' b hb o e).2
      cases b with
      | false =>
        simp only [Bool.false_eq_true, if_false] at qi ⊢
        exact fin Ii qi
      | true =>
        simp only [if_true] at qi ⊢
        refine thnF (pe.run _ si σh Hi _ Ii qi) fun z sj ⟨yv, Hj, Ij, rj, acc, hMj, hzj, nx⟩ => ?_
        exact app_ok (X := X.blk sc Hc bs ce fp) Ij hMj hzj rj fun sk Ik => fin Ik nx
  exact codeAny_compStart_list loop (T.self X.A 0 _ _ _ std loop)
end
end FS
set_option maxHeartbeats 2000000
namespace FS
open PySem PySem.Spec PyProof.Rows L2 LamX
section
variable {X : Cx} {pins : List (Addr × Obj)} {σ : L2.St} {H : Hp} {s : Shared}
variable {HZ : Hp} {s1 : Shared}
theorem lam_startB {A : Around} {outer : List Env} {E : XK} {sc : Scope} {f c' : Addr} {h1 : Heap} {tk : Nat} {ch : List Addr} {mm : Str → Option Value} (I : Inv X pins σ H s) (L : LamS1 X.N X.env.scope sc) (e0 : Env0 X.prog X.w X.K X.mg X.base A outer s1 HZ) (hd : A.handled = none)
    (un : Un (frs X.stack) ch H HZ s.heap s1.heap) (off : CellsOff X ch) (hns : h1.Ns s1.heap.objs.size mm) (kp : ∀ d o, s1.heap.get? d = some o → h1.get? d = some o) : Inv (lamCx X A outer s1 HZ E sc f c') [] σ HZ { s1 with heap := h1, toks := tk } := by
  have hfree := L.has I.ok
  have cm : ∀ {y d}, (cloFrom X.env.cells sc.names []).lookup y = some d → X.env.cells.lookup y = some d := fun {y d} e => by
    rcases cloFrom_mem (PySem.mem_of_lookup e) with hm | ⟨g1, g2⟩
    · cases hm
    · obtain ⟨d1, hd1⟩ := hfree _ g1 rfl
      have hd2 : X.env.cells.lookup y = some d1 := hd1
      rw [show d = d1 by rw [g2, hd2] <;> rfl]
      exact hd2
  have noch : ∀ {y d}, (cloFrom X.env.cells sc.names []).lookup y = some d → d ∉ ch := fun {y d} e z => off d z y d (cm e) rfl
  have look : ∀ {y}, sc.names.lookup y = some .free → ∃ d, (cloFrom X.env.cells sc.names []).lookup y = some d := fun {y} hl => mem_lookup (cloFrom_has (cells := X.env.cells) (acc := []) (show (y, NameKind.free) ∈ sc.names from PySem.mem_of_lookup hl))
  have cellK : ∀ {d : Addr} {v : Option Value}, d ∉ ch → H d = none → s.heap.IsCell d v → h1.IsCell d v := fun {d v} nc n z => by
    obtain ⟨o, ho, hv⟩ := z
    obtain ⟨sl, q⟩ := un.any ho n nc
    exact ⟨_, kp _ _ q, hv⟩
  have noA : ∀ d : Addr, d ∉ (lamCx X A outer s1 HZ E sc f c').ex := fun d z => by cases (show d ∈ ([] : List Addr) from z)
  have ok : (lamCx X A outer s1 HZ E sc f c').Ok := {
    mod := e0.mod, kind := L.kind, glob := rfl, blt := rfl, above := Nat.le_refl _
    inj := fun y z d e1 e2 => I.ok.inj y z d (cm e1) (cm e2)
    has := fun y hy => by
      rcases (show sc.names.lookup y = some .cell ∨ sc.names.lookup y = some .free from hy) with hy | hy
      · exact absurd rfl (L.own _ (PySem.mem_of_lookup hy)).1
      · exact look hy
    cab := fun y d z _ => by cases (show false = true from z)
    hd := fun _ => hd, frames := Around.frames_deeper e0.frames, stk := .inr ⟨rfl, rfl⟩
    exf := fun d z => absurd z (noA d), bs := e0.bs, bsz := e0.bsz, noex := fun d _ _ => noA d, exfs := fun d z => absurd z (noA d), funs := e0.funs, frf := e0.frf }
  refine { ok := ok, os := rfl, bare := e0.bare, base := Un.kept kp, loc := ⟨_, hns, fun i y v e1 e2 e3 => ?_⟩, cell := fun y d e => ?_, free := e0.hok.fresh (Nat.le_refl _), freeC := fun y d e => ?_, pin := fun q hq => absurd (show q ∈ ([] : List (Addr × Obj)) ++ [] from hq) (by simp), hok := e0.hok.kept kp, len := I.len }
  · rcases (show Vis sc y from e3) with k | k | k
    · exact absurd (List.mem_of_getElem? (show X.N[i]? = some y from e1)) ((L.own _ (PySem.mem_of_lookup k)).2 rfl)
    · exact absurd rfl (L.own _ (PySem.mem_of_lookup k)).1
    · obtain ⟨m0, hn0, hl0⟩ := I.loc
      have fr := L.free _ (PySem.mem_of_lookup k) rfl
      have hvis : Vis X.env.scope y := fr.elim (fun z => .inr (.inl z)) fun z => .inr (.inr z)
      obtain ⟨u, r, q⟩ := hl0 i y v e1 e2 hvis
      obtain ⟨d2, g2⟩ := look k
      refine ⟨u, r, .inr ⟨.inr k, d2, g2, ?_⟩⟩
      have d1 := cm g2
      rcases q with ⟨k', _⟩ | ⟨_, d3, e', z⟩
      · have k2 : X.env.scope.names.lookup y = some .local := k'
        rcases fr with z | z
        · cases (show some NameKind.local = some .cell from k2.symm.trans z)
        · cases (show some NameKind.local = some .free from k2.symm.trans z)
      · rw [d1] at e'
        cases e'
        exact cellK (noch g2) (I.freeC y _ d1) z
  · obtain ⟨u, z⟩ := I.cell y d (cm e)
    exact ⟨u, cellK (noch e) (I.freeC y d (cm e)) z⟩
  · obtain ⟨v, o, ho, hv⟩ := I.cell y d (cm e)
    exact un.free d o ho (I.freeC y d (cm e)) (noch e)
theorem pe_actB {CXg : CXT} {Eg : XK} {Ng : List Str} {qg : Str} {sg : Scope} {g f c' : Addr} {cdg : Value} {ps : Arguments} {b : Expr} {sc : Scope} {df : Option Int} {k i : Nat} {a : Str} {pn : List (Addr × Obj)} {xe : Value → Shared → Prop} {W : WX} {E : XK} {tb : TE} {p1 p2 : Pos} {sB : Shared} {HB : Hp} {ch : List Addr}
    (I : Inv X pins σ H s) (UB : Un (frs X.stack) ch H HB s.heap sB.heap) (off : CellsOff X ch) (L : LamS1 X.N X.env.scope sc) (hbind : LamBind ps b sc df) (tk : Takes ((cxOf CXg X.prog X.w X.K X.mg X.base Ng qg sg g cdg X.A X.stack sB HB Eg).tr pn xe) W) (hW : ∀ cls d σ' H', E cls d H' → W cls d σ' H') (hr : Room (k + 1) (X.A.deeper (envOfC qg sg sB.heap.objs.size g cdg)))
    (hbody : ∀ (A : Around) (outer : List Env) (s : Shared) (H : Hp), Room k (A.deeper (lamEnv X sc s.heap.objs.size f c')) → PE (lamCx X A outer s H E sc f c') b tb) (hN : Ng[i]? = some a) (hv : Vis sg a) (hd : (a == ("__debug__" : Str)) = false := by decide) (hcd : (a == ("__classdict__" : Str)) = false := by decide) :
    PE ((cxOf CXg X.prog X.w X.K X.mg X.base Ng qg sg g cdg X.A X.stack sB HB Eg).tr pn xe) (.Call (.Name a p1) [] [] p2) (fun σ0 H0 R => σ0[i]? = some (some (.ref f)) ∧ LamAt X ps b sc df H0 f c' ∧ tb σ H0 R) := by
  refine ⟨fun pz sZ σ0 H0 R IZ ⟨hs, hat, ht⟩ => ?_⟩
  refine wpAny_Call_Name_kw (thn ((pe_var (pos := p1) (i := i) hN hv hd hcd).run pz sZ σ0 H0 (fun v H1 => v = .ref f ∧ H1 = H0) IZ ⟨.ref f, hs, rfl, rfl⟩) fun u s1 ⟨v, H1, I1, r1, ev, eH⟩ => ?_)
  subst ev
  subst eH
  obtain rfl : u = Value.ref f := r1
  obtain ⟨hc, doc, pm, ct, hdf⟩ := hat
  obtain ⟨⟨oc, vs, t, hoc, hdc, hvc⟩, _, _⟩ := I1.hok c' _ hc
  have un1 : Un (frs X.stack) [] HB H1 sB.heap s1.heap := I1.base
  have un : Un (frs X.stack) ch H H1 s.heap s1.heap := UB.trans (un1.mono (by simp) (by simp))
  have go : ∀ (dV : Value), s1.heap.get? f = some (lamObj X ps b sc dV doc pm ct c') → (∀ (M : Model) (A : Around) (E' : Value → Shared → Prop) (Q' : List (Str × Value) → Shared → Prop), (∀ bs, (∀ y ∈ bs, sc.names.lookup y.1 = some .local) → Q' bs s1) → wpAny M A (bindArgs (PySem.W.kdv_fn "<lambda>" (X.env.qual ++ "<lambda>") ps (.expr b) sc (cloFrom X.env.cells sc.names []) dV doc pm (.ref c') ct) ⟨[], []⟩) Q' E' s1) →
      codeAny (model X.prog X.w) (X.A.deeper (envOfC qg sg sB.heap.objs.size g cdg)) (.call (.ref f) ⟨[], []⟩) (CR (L2.CX X.prog X.w) (envOfC qg sg sB.heap.objs.size g cdg :: X.stack) X.prog X.w H1 s1 R E) s1 := fun dV hf hb => by
    refine PySem.W.kla_callFunE hr.depth hf rfl L.co L.gen rfl ⟨c', oc, vs, t, rfl, hoc, hdc, hvc⟩ (hb _ _ _ _ fun bs hbs => ?_)
    refine wpAny_newFunctionEnv (fun y hy => (L.own y hy).1) hbs (fun h1 hns hsb => ⟨I1.nolimit.fresh _ hsb, ?_⟩) L.kind
    have kp : ∀ d o, s1.heap.get? d = some o → h1.get? d = some o := fun d o e => hsb.extBut d o (Nat.ne_of_lt (Heap.lt_size e)) (Heap.get?_push_of_some _ e)
    have J := lam_startB (tk := s1.toks + bs.length) (E := E) (f := f) (c' := c') I L I1.env0 hr.hd un off hns kp
    refine PySem.W.kla_codeExpr (wpAny_mono ((hbody _ _ s1 H1 (hr.deeper _)).run [] _ _ H1 R J ht) (fun v s' ⟨v', H', J', rv, q⟩ => ?_) fun e s' hq => hq)
    exact ⟨v', H', J'.os, J'.bare, J'.base, J'.hok, rv, q⟩
  have rc : PySem.W.FnAt f s1.heap ∧ codeAny (model X.prog X.w) (X.A.deeper (envOfC qg sg sB.heap.objs.size g cdg)) (.call (.ref f) ⟨[], []⟩) (CR (L2.CX X.prog X.w) (envOfC qg sg sB.heap.objs.size g cdg :: X.stack) X.prog X.w H1 s1 R E) s1 := by
    cases df with
    | none =>
      obtain ⟨hf, _, _⟩ := I1.hok f _ hdf
      refine ⟨⟨_, _, _, _, hf⟩, go _ hf fun M A E' Q' q => ?_⟩
      rw [hbind]
      exact wpAny_pure (q [] fun y hy => by cases hy)
    | some n =>
      obtain ⟨T, hT, hdf⟩ := hdf
      obtain ⟨hf, _, _⟩ := I1.hok f _ hdf
      obtain ⟨_, its, hv', hIT⟩ := I1.hok T _ hT
      refine ⟨⟨_, _, _, _, hf⟩, go _ hf fun M A E' Q' q => ?_⟩
      obtain ⟨x0, hx0, hb⟩ := hbind
      cases hv' with
      | @cons _ w0 _ _ r0 rs =>
      cases rs
      obtain ⟨r, b1, b2⟩ := hb (X.env.qual ++ "<lambda>") (cloFrom X.env.cells sc.names []) T doc pm (.ref c') ct w0
      obtain ⟨o, ho, _, nn, hdat⟩ := hIT
      refine (BindsTo.of_defaults (T := T) (items := #[w0]) (n := nn) rfl ho hdat b1 b2) M A E' Q' (q _ fun y hy => ?_)
      rw [List.mem_singleton.mp hy]
      exact hx0
  refine PySem.W.callWith_F0 rc.1 (wpAny_call (codeAny_mono rc.2 fun r s' hq => ?_))
  have hx : Passes (L2.CX X.prog X.w) ((cxOf CXg X.prog X.w X.K X.mg X.base Ng qg sg g cdg X.A X.stack sB HB Eg).tr pn xe) E := passes_call tk hW
  cases r with
  | error e => exact hx pz σ0 H1 s1 e s' I1 hq
  | ok fl => cases fl with
    | ret u => exact I1.after hq
    | next => exact False.elim hq
    | brk => exact False.elim hq
    | cont => exact False.elim hq
/-- .. the lambda's names read with the slots σo that the outer context had when the block began -/
def tGiveO (X : Cx) (σo : L2.St) (k : Nat) (te : TE) (TT : (XK → Hp → VK → Prop) → Hp → VK → Prop) : TE := fun σ H Q => te σ H fun v H1 => ∃ (l : LamK X k) (f c' : Addr), v = .ref f ∧ LamAt X l.ps l.b l.sc l.df H1 f c' ∧ TT (fun E H' Q' => l.t E σo H' Q') H1 Q
theorem pe_giveB {X : Cx} {TT : (XK → Hp → VK → Prop) → Hp → VK → Prop} {x a : Str} {g : Addr} {k : Nat} {pg : Arguments} {bg : List Stmt} {sg : Scope} {dV kV doc pm cdv ct oc : Value} {an od : Option Addr} {osl : Array (Option Value)} {Ng : List Str} {e : Expr} {te : TE} {p pos : Pos}
    {s0 : Shared} {H0 : Hp} {bs : Scope} {cl : List (Str × Addr)} {C0 : Addr} {fp : List Addr} {pins0 : List (Addr × Obj)} {σo : L2.St} (I0 : Inv X pins0 σo H0 s0) (off : CellsOff X fp)
    (hg : Gl (cX X s0 H0 bs cl C0 fp) x) (hm : X.mg x = some (.ref g)) (hk : PySem.W.keepIn X.K (.ref g) = true) (lk : X.K.lookup g = some ⟨oc, od, .func (PySem.W.fnOf x x pg bg sg dV kV doc pm an cdv ct), osl⟩) (hcg : PySem.W.codeIn X.K cdv x = true) (hb : L2.Binds X.K (PySem.W.fnOf x x pg bg sg dV kV doc pm an cdv ct) [a] []) (Sg : FnScope Ng [a] sg) (hNg : Ng[0]? = some a) (hva : Vis sg a)
    (hG : GivesQ X Ng x sg g cdv bg a TT) (hr : Room (k + 2) X.A) (he : PE (cX X s0 H0 bs cl C0 fp) e te) (hst : starEach [e] (cX X s0 H0 bs cl C0 fp).env = (false, eval e (cX X s0 H0 bs cl C0 fp).env) :: starEach [] (cX X s0 H0 bs cl C0 fp).env := by rfl) (hpl : (backTo pos (starEach [] (cX X s0 H0 bs cl C0 fp).env)).any (·.1) = false := by rfl)
    (hdb : (x == ("__debug__" : Str)) = false := by decide) (hd : (a == ("__debug__" : Str)) = false := by decide) (hcd : (a == ("__classdict__" : Str)) = false := by decide) : PE (cX X s0 H0 bs cl C0 fp) (.Call (.Name x p) [e] [] pos) (tGiveO X σo k te TT) := by
  refine ⟨fun pins s σ H Q I h => ?_⟩
  refine wpAny_Call_Name_kw (ld_glob I hg hm (PySem.W.callWith_K (h₀ := X.base) I.ok.mod.kin hk ?_ hst hpl) hdb)
  rw [hst]
  show wpAny _ _ (spliced ((false, eval e (cX X s0 H0 bs cl C0 fp).env) :: backTo pos (starEach [] (cX X s0 H0 bs cl C0 fp).env))) _ _ s
  refine Calls.spliced_cons (thn (he.run pins s σ H _ I h) fun u s1 ⟨v, H1, I1, r1, l, f, c', ev, hat, hq⟩ => Calls.spliced_nil ⟨I1.kIn, ?_⟩)
  subst ev
  obtain rfl : u = Value.ref f := r1
  have UB : Un (frs X.stack) fp H0 H1 s0.heap s1.heap := I1.base
  have rc : codeAny (model X.prog X.w) X.A (.call (.ref g) ⟨[.ref f], []⟩) (CR C8.CX0 X.stack X.prog X.w H1 s1 Q C8.E0) s1 := by
    refine run_ofS (N := Ng) (ps := [a]) (us := [.ref f]) (vs := [.ref f]) lk hcg Sg hr I1.env0 (hb s1 [.ref f] I1.kIn rfl) (.cons rfl .nil) rfl fun hr' => ?_
    obtain ⟨t', ht', hq'⟩ := hG f (fun H0 => LamAt X l.ps l.b l.sc l.df H0 f c') s1 H1 Q (fun E H' Q' => l.t E σo H' Q') (fun W pn xe E p1 p2 tk hW => pe_actB (i := 0) I0 UB off l.L l.bind tk hW hr' (fun A outer s H hr2 => l.body A outer s H E f c' hr2) hNg hva hd hcd) hat hq
    exact ⟨t', ht'.nox, hq'⟩
  refine wpAny_call (codeAny_mono rc fun r s2 hq => ?_)
  cases r with
  | error e => exact (show False from hq).elim
  | ok fl => cases fl with
    | ret u => exact I1.after hq
    | next => exact False.elim hq
    | brk => exact False.elim hq
    | cont => exact False.elim hq
end
end FS
set_option maxHeartbeats 400000
namespace FS
open PySem PySem.Spec PyProof.Rows L2
/-- one step of a reading -/
local macro_rules | `(tactic| walk_at "rd") => `(tactic| first
  | ((with_reducible refine r_var (v := ?v) ?h ?_); (case h => rfl))
  | (with_reducible refine r_c ?_)
  | (with_reducible refine r_op ?_)
  | (with_reducible refine r_cons ?_)
  | (with_reducible refine r_nil ?_)
  | (with_reducible refine r_I0 ?_)
  | (with_reducible refine r_test ?_)
  | (with_reducible refine r_bl ?_)
  | (with_reducible refine r_tB ?_)
  | (with_reducible refine r_chain ?_)
  | (with_reducible refine iteT ?_)
  | (with_reducible refine iteF ?_)
  | (with_reducible refine r_nf ?_)
  | (with_reducible refine r_nt ?_)
  | (with_reducible refine r_not ?_)
  | (with_reducible refine r_and ?_)
  | (with_reducible refine r_or ?_)
  | (with_reducible refine r_notV ?_)
  | (with_reducible refine r_andV ?_)
  | (with_reducible refine r_orV ?_)
  | (with_reducible refine r_ifE ?_)
  | (with_reducible refine r_seq ?_)
  | (with_reducible refine r_asg ?_)
  | (with_reducible refine r_gN ?_)
  | (with_reducible refine r_ifS ?_)
  | (with_reducible refine r_ret ?_)
  | (with_reducible refine r_drop ?_)
  | (with_reducible refine r_retN ?_)
  | (with_reducible refine r_next ?_)
  | (with_reducible refine r_cb ?_)
  | (with_reducible refine r_call ?_)
  | (with_reducible refine r_lst ?_)
  | (with_reducible refine r_tup ?_)
  | (with_reducible refine r_fld ?_)
  | (with_reducible refine r_gsub ?_)
  | (with_reducible refine r_make ?_)
  | (with_reducible refine r_sl ?_)
  | (with_reducible refine r_part ?_)
  | (with_reducible refine r_nopart ?_)
  | (with_reducible refine r_isInt ?_)
  | (with_reducible refine r_tm ?_)
  | (with_reducible refine r_bm ?_)
  | (with_reducible refine r_int1 ?_)
  | (with_reducible refine r_intB ?_)
  | (dsimp only))
section
variable {P : Program} {w : World} {K : PySem.W.Frag} {mg : Str → Option Value} {base : Heap}
theorem Fd.mk' {x : Str} {CX : CXT} {st : Stmt} {f : Addr} {fd : FuncData} {k : Nat} {ps : List Str} {sp : Sp} (F : Fun K x x st f fd) (hm : mg x = some (.ref f)) (b : Binds K fd ps []) (ok : FnOk P w K mg base CX k f fd ps sp) : Fd CX P w K mg base x k sp := ⟨f, fd, ps, hm, F.kp, ok, b⟩

/-- the kinds of values, by the names of their types -/
def Kd (K : PySem.W.Frag) (H : Hp) (v : V) (n : String) : Prop := n ∈ ["NoneType", "bool", "int", "str", "tuple", "list"] ∧ TyX K H v (.type n)
theorem kit_in {n m : String} (h : n ∈ ["NoneType", "bool", "int", "str", "tuple", "list"]) (hm : m ∈ ["bool", "int", "str", "tuple", "list"]) : kitB n m = some (n == m || (n == "bool" && m == "int")) := by
  have key : ∀ n ∈ ["NoneType", "bool", "int", "str", "tuple", "list"], ∀ m ∈ ["bool", "int", "str", "tuple", "list"], kitB n m = some (n == m || (n == "bool" && m == "int")) := by decide +kernel
  exact key n h m hm
theorem r_isi {K : PySem.W.Frag} {H : Hp} {Q : VK} {v : V} {n m : String} (h : Kd K H v n) (hm : m ∈ ["bool", "int", "str", "tuple", "list"]) (q : Q (.bl (n == m || (n == "bool" && m == "int"))) H) : rIsi K [v, .ty m] H Q :=
  ⟨v, .ty m, .type n, .type m, _, rfl, .ty m, h.2, kit_ty (kit_in h.1 hm), q⟩
/-- the script at a, whatever stands at r -/
def Scr (K : PySem.W.Frag) (H : Hp) (r a : Addr) (ns : List Int) : Prop := ∀ H', Ev r H H' → SqL K H' a (ns.map V.int)
/-- where the row of draws stands, where its script, which -/
structure Rid where
  r : Addr
  a : Addr
  ns : List Int
def Row (K : PySem.W.Frag) (H : Hp) (ρ : Rid) : Prop := ∃ (i s l : Int), Scr K H ρ.r ρ.a ρ.ns ∧ ρ.ns.length ≤ 63 ∧ H ρ.r = some (.lst [.ref ρ.a, .int i, .int s, .int l]) ∧ 0 ≤ i
def spTaken (K : PySem.W.Frag) (G : List Addr) (L : List (Addr × Str)) : Sp := fun vs H Q _ => ∃ (ρ : Rid) (m : Int), vs = [.ref ρ.r, .int m] ∧ Row K H ρ ∧ 0 < m ∧ m < 1000000 ∧
  ∀ (v : Int) (H' : Hp), 0 ≤ v → v < m → GoR G L ρ.r H H' → Row K H' ρ → Q (.int v) H'
theorem Row.mk' {K : PySem.W.Frag} {H H' : Hp} {r a : Addr} {ns : List Int} {i s l : Int} (sc : Scr K H r a ns) (hn : ns.length ≤ 63) (e : Ev r H H') (h : H' r = some (.lst [.ref a, .int i, .int s, .int l])) (hi : 0 ≤ i) : Row K H' ⟨r, a, ns⟩ :=
  ⟨i, s, l, fun H2 e2 => sc H2 (e.trans e2), hn, h, hi⟩
theorem at_ints {ns : List Int} {i : Int} (h0 : 0 ≤ i) (h1 : i < ns.length) : ∃ z, atI (ns.map V.int) i = some (.int z) := by
  obtain ⟨j, rfl⟩ := Int.eq_ofNat_of_zero_le h0
  have hj : j < ns.length := by omega
  exact ⟨ns[j], atI_nat (by rw [List.getElem?_map, List.getElem?_eq_getElem hj]; rfl)⟩
end
def tyOf : PyData → String
  | .none => "NoneType" | .bool _ => "bool" | .int _ => "int" | .str _ => "str" | .list _ => "list" | .tuple _ => "tuple" | .dict _ => "dict"
theorem Dp.kd {K : PySem.W.Frag} {H : Hp} {v : V} {d : PyData} (h : Dp K H v d) : Kd K H v (tyOf d) := by
  cases h with
  | non => exact ⟨by simp [tyOf], .base .non⟩
  | bl b => exact ⟨by simp [tyOf], .base (.bl b)⟩
  | int i => exact ⟨by simp [tyOf], .base (.int i)⟩
  | str x => exact ⟨by simp [tyOf], .base (.str x)⟩
  | lst h _ =>
    refine ⟨by simp [tyOf], ?_⟩
    rcases h with (h | ⟨o, h⟩) | ⟨o, its, n, h, hc, _⟩
    · exact .base (.lst h)
    · exact .base (.frz h)
    · exact .kList h hc
  | tup h _ =>
    refine ⟨by simp [tyOf], ?_⟩
    rcases h with (h | ⟨o, h⟩) | ⟨o, its, n, h, hc, _⟩
    · exact .base (.tup h)
    · exact .fTuple h
    · exact .kTuple h hc
def letters : Str := "abcdefghijklmnopqrstuvwxyz"
def nameOk : PyData → Bool
  | .str z => decide (1 ≤ (z.length : Int)) && decide ((z.length : Int) ≤ 8) && z.cps.toList.all fun c => decide (c ∈ letters.cps.toList)
  | _ => false
def smallS : PyData → Prop
  | .str z => z.length ≤ sizeLine
  | _ => True
theorem c_lenS {X : Cx} : CallR X (.builtin "len") cLenS := call_len_str
theorem r_lenS {H : Hp} {Q : VK} {z : Str} (h : z.length ≤ sizeLine) (q : Q (.int z.length) H) : cLenS [.str z] H Q := ⟨z, rfl, h, q⟩
section
variable {P : Program} {w : World} {K : PySem.W.Frag} {mg : Str → Option Value} {base : Heap} {G : List Addr} {L : List (Addr × Str)}
def spIsName (K : PySem.W.Frag) (G : List Addr) (L : List (Addr × Str)) : Sp := fun vs H Q _ => ∃ v d, vs = [v] ∧ Dp K H v d ∧ smallS d ∧ TBS G L H ∧ ∀ H', Go G L H H' → Q (.bl (nameOk d)) H'
theorem scIsName : FnScope ["value"] ["value"] (defScope sIsName) := C8.fnScope_by (by decide +kernel)
theorem ok_isName {f c Pn : Addr} {fd : FuncData} {tz t8 : Tok} (F : Fun K "is_name" "is_name" sIsName f fd) (hc : fd.code = .ref c) (TB : GxR.TabB base mg c Pn) (hP : Pn ∈ G) (AP : Apart G L) (zI : mg "isinstance" = none) (z1 : mg "str" = none) (zL : mg "len" = none) (zA : mg "all" = none)
    (gL : mg "LETTERS" = some (.str letters tz)) (g8 : mg "MOST_LETTERS" = some (.int 8 t8)) : FnOk P w K mg base CX0 1 f fd ["value"] (spIsName K G L) := by
  obtain ⟨oc, od, kV, doc, pm, an, cdv, ct, osl, efd, lk, hcd⟩ := F.ex
  subst efd
  have ec : cdv = .ref c := hc
  subst ec
  refine fn_of lk hcd scIsName (fun vs H Q E h => ?_) (fun A outer s H vs Q E hr h => ?_)
  · obtain ⟨v, d, e, _⟩ := h
    rw [e]
    rfl
  · obtain ⟨v, d, e, hd, hs, ht, q⟩ := h
    subst e
    refine ⟨_, PSs.nox (pss_cons (ps_if (PW.pt (pw_or (pt_not (pt_val (pe_callB call_isi rfl zI boot_isinstance (pa_cons (pv 0) (pa_cons (pe_bltn (v := .ty "str") rfl z1 boot_str rfl) pa_nil)))))
        (pw_or1 (pt_not (pt_chain op_le op_le pe_int (pe_callB c_lenS rfl zL boot_len (pa_cons (pv 0) pa_nil)) (pe_glob (v := .int 8) rfl g8 ⟨_, rfl⟩))))))
        (pss_one (ps_ret pe_bl)) pss_nil)
      (pss_one (ps_ret (pe_allG (c := c) (P := Pn) (pb := fun c => decide (c ∈ letters.cps.toList)) hr rfl zA (by decide +kernel) TB rfl ⟨rfl, rfl, by decide +kernel, rfl, rfl, fun y hy e => absurd e (by revert y; decide +kernel)⟩ (pv 0) (eltG_in rfl rfl rfl gL) (fun _ => rfl))))), ?_⟩
    repeat walk_at "rd"
    refine r_isi (m := "str") (Dp.kd hd) (by decide) ?_
    repeat walk_at "rd"
    by_cases hz : ∃ z, d = .str z
    · obtain ⟨z, rfl⟩ := hz
      cases hd
      refine r_if (fun cc => absurd cc (by simp [tyOf])) (fun _ => ?_)
      repeat walk_at "rd"
      refine r_lenS hs ?_
      repeat walk_at "rd"
      refine r_if (fun c1 => ?_) (fun c1 => ?_)
      · repeat walk_at "rd"
        refine r_if (fun c2 => ?_) (fun c2 => ?_)
        · repeat walk_at "rd"
          have e : nameOk (.str z) = false := by
            have c3 : decide ((z.length : Int) ≤ 8) = false := by simpa using c2
            show (decide (1 ≤ (z.length : Int)) && decide ((z.length : Int) ≤ 8) && _) = false
            rw [c3]
            simp
          have q0 := q H (Go.refl H)
          rw [e] at q0
          exact q0
        · repeat walk_at "rd"
          refine r_var (v := .str z) rfl ⟨z, rfl, ht.1 Pn hP, fun H2 hT => ?_⟩
          have e : nameOk (.str z) = z.cps.toList.all fun c => decide (c ∈ letters.cps.toList) := by
            have c3 : decide ((z.length : Int) ≤ 8) = true := by simpa using c2
            show (decide (1 ≤ (z.length : Int)) && decide ((z.length : Int) ≤ 8) && _) = _
            rw [c3, c1]
            rfl
          have q0 := q H2 (Go.tabbed AP hP ht hT)
          rw [e] at q0
          exact q0
      · repeat walk_at "rd"
        have e : nameOk (.str z) = false := by
          show (decide (1 ≤ (z.length : Int)) && decide ((z.length : Int) ≤ 8) && _) = false
          rw [c1]
          rfl
        have q0 := q H (Go.refl H)
        rw [e] at q0
        exact q0
    · have e1 : (!(tyOf d == "str" || tyOf d == "bool" && "str" == "int")) = true := by
        cases d <;> first | rfl | exact absurd ⟨_, rfl⟩ hz
      have e2 : nameOk d = false := by
        cases d <;> first | rfl | exact absurd ⟨_, rfl⟩ hz
      rw [if_pos e1]
      repeat walk_at "rd"
      have q0 := q H (Go.refl H)
      rw [e2] at q0
      exact q0
end
def inD (d : PyData) (ds : List PyData) : Bool := ds.any fun z => PyData.eqv z d
def wordsD : List PyData := [.str "needs", .str "excludes", .str "either"]
def clauseOk (nd : List PyData) : PyData → Bool
  | .tuple [x, y, z] => inD x wordsD && inD y nd && inD z nd
  | _ => false
theorem r_inT {K : PySem.W.Frag} {H : Hp} {Q : VK} {x y : V} {d : PyData} {ds : List PyData} (h1 : Dp K H x d) (h2 : Dp K H y (.tuple ds)) (s1 : lv 8 d = true) (s2 : lv 8 (.tuple ds) = true) (q : Q (.bl (inD d ds)) H) : rInT K id x y H Q :=
  ⟨d, ds, h1, h2, shaped_of s1, shaped_of s2, q⟩
theorem r_ninT {K : PySem.W.Frag} {H : Hp} {Q : VK} {x y : V} {d : PyData} {ds : List PyData} (h1 : Dp K H x d) (h2 : Dp K H y (.tuple ds)) (s1 : lv 8 d = true) (s2 : lv 8 (.tuple ds) = true) (q : Q (.bl (!inD d ds)) H) : rInT K not x y H Q :=
  ⟨d, ds, h1, h2, shaped_of s1, shaped_of s2, q⟩
theorem lv_mem {n : Nat} {ds : List PyData} (h : lv (n + 1) (.tuple ds) = true) : ∀ d ∈ ds, lv n d = true := by
  have h' : ds.all (lv n) = true := by simpa only [lv] using h
  exact List.all_eq_true.mp h'
theorem lv_tup {n : Nat} {ds : List PyData} (h : ∀ d ∈ ds, lv n d = true) : lv (n + 1) (.tuple ds) = true := by
  have h' : ds.all (lv n) = true := List.all_eq_true.mpr h
  simpa only [lv] using h'
theorem lv_succ : ∀ {n : Nat} {d : PyData}, lv n d = true → lv (n + 1) d = true
  | _, .none, _ => by simp [lv]
  | _, .bool _, _ => by simp [lv]
  | _, .int _, _ => by simp [lv]
  | n, .str z, h => by cases n <;> simpa [lv] using h
  | n + 1, .tuple ds, h => lv_tup fun d hd => lv_succ (lv_mem h d hd)
  | n + 1, .list ds, h => by
    have h' : ds.all (lv n) = true := by simpa only [lv] using h
    have g : ds.all (lv (n + 1)) = true := List.all_eq_true.mpr fun d hd => lv_succ (List.all_eq_true.mp h' d hd)
    simpa only [lv] using g
  | 0, .tuple ds, h => by simp [lv] at h
  | 0, .list ds, h => by simp [lv] at h
  | 0, .dict ds, h => by simp [lv] at h
  | n + 1, .dict ds, h => by simp [lv] at h
section
variable {P : Program} {w : World} {K : PySem.W.Frag} {mg : Str → Option Value} {base : Heap} {G : List Addr} {L : List (Addr × Str)}
theorem three_of {K : PySem.W.Frag} {H : Hp} : ∀ {xs : List V} {ds : List PyData}, DpAll K H xs ds → xs.length = 3 → ∃ x y z dx dy dz, xs = [x, y, z] ∧ ds = [dx, dy, dz] ∧ Dp K H x dx ∧ Dp K H y dy ∧ Dp K H z dz
  | [x, y, z], _, .cons hx (.cons hy (.cons hz .nil)), _ => ⟨x, y, z, _, _, _, rfl, rfl, hx, hy, hz⟩
theorem u65 {k : Nat} {A : Around} (r : Room k A) : A.units + 65 < cLine := by
  have z := r.un
  omega
def spIsClause (K : PySem.W.Frag) : Sp := fun vs H Q _ => ∃ nv v nd d, vs = [nv, v] ∧ Dp K H nv (.tuple nd) ∧ Dp K H v d ∧ lv 8 (.tuple nd) = true ∧ lv 7 d = true ∧ Q (.bl (clauseOk nd d)) H
theorem scIsClause : FnScope ["names", "value"] ["names", "value"] (defScope sIsClause) := C8.fnScope_by (by decide +kernel)
theorem ok_isClause {f aW : Addr} {fd : FuncData} (F : Fun K "is_clause" "is_clause" sIsClause f fd) (zI : mg "isinstance" = none) (z1 : mg "tuple" = none) (zL : mg "len" = none)
    (gW : mg "WORDS" = some (.ref aW)) (hW : ∀ H, SqT K H aW [.str "needs", .str "excludes", .str "either"]) : FnOk P w K mg base CX0 1 f fd ["names", "value"] (spIsClause K) := by
  refine F.ok scIsClause (fun vs H Q E h => ?_) (fun cdv A outer s H vs Q E hr h => ?_)
  · obtain ⟨nv, v, nd, d, e, _⟩ := h
    rw [e]
    rfl
  · obtain ⟨nv, v, nd, d, e, hn, hd, l1, l2, q⟩ := h
    subst e
    have hu := u65 hr
    refine ⟨_, pss_cons (ps_if (PW.pt (pw_or (pt_not (pt_val (pe_callB call_isi rfl zI boot_isinstance (pa_cons (pv 1) (pa_cons (pe_bltn (v := .ty "tuple") rfl z1 boot_tuple rfl) pa_nil)))))
        (pw_or1 (pt_cmpR op_ne (pe_callB c_len rfl zL boot_len (pa_cons (pv 1) pa_nil)) pe_int (nomark _)))))
        (pss_one (ps_ret pe_bl)) pss_nil)
      (pss_one (ps_ret (pe_and (pe_cmpR (op_inT hu) (pe_ix ix_tup (pv 1) pe_int (fun _ _ => rfl)) (pe_glob (v := .ref aW) rfl gW rfl) rfl)
        (pe_and (pe_cmpR (op_inT hu) (pe_ix ix_tup (pv 1) pe_int (fun _ _ => rfl)) (pv 0) rfl)
        (pe_one (pe_cmpR (op_inT hu) (pe_ix ix_tup (pv 1) pe_int (fun _ _ => rfl)) (pv 0) rfl)))))), ?_⟩
    repeat walk_at "rd"
    refine r_isi (m := "tuple") (Dp.kd hd) (by decide) ?_
    repeat walk_at "rd"
    by_cases hz : ∃ ds, d = .tuple ds
    · obtain ⟨ds, rfl⟩ := hz
      cases hd with
      | @tup a xs _ ha hxs =>
        refine r_if (fun cc => absurd cc (by simp [tyOf])) (fun _ => ?_)
        repeat walk_at "rd"
        refine r_lenT ha ?_
        repeat walk_at "rd"
        refine r_ne rfl ?_
        repeat walk_at "rd"
        have hlen := Dps.length hxs
        refine r_if (fun c1 => ?_) (fun c1 => ?_)
        · repeat walk_at "rd"
          have e : clauseOk nd (.tuple ds) = false := by
            have n3 : ds.length ≠ 3 := fun z => by
              rw [← hlen] at z
              rw [z] at c1
              exact absurd c1 (by decide)
            match ds, n3 with
            | [], _ => rfl
            | [_], _ => rfl
            | [_, _], _ => rfl
            | [_, _, _], h => exact absurd rfl h
            | _ :: _ :: _ :: _ :: _, _ => rfl
          rw [e] at q
          exact q
        · have n3 : xs.length = 3 := by
            have z : decide (V.int (xs.length : Int) = V.int 3) = true := by simpa using c1
            have z2 := V.int.inj (of_decide_eq_true z)
            omega
          obtain ⟨x, y, z, dx, dy, dz, e1, e2, hx, hy, hzz⟩ := three_of hxs n3
          subst e1 e2
          · have m := lv_mem l2
            repeat walk_at "rd"
            refine r_ixT ha (v := x) rfl ?_
            repeat walk_at "rd"
            refine r_inT (ds := wordsD) hx (.tup (hW _) (.cons (.str _) (.cons (.str _) (.cons (.str _) .nil)))) (lv_succ (lv_succ (m dx (by simp)))) (by decide +kernel) ?_
            repeat walk_at "rd"
            have e : clauseOk nd (.tuple [dx, dy, dz]) = (inD dx wordsD && inD dy nd && inD dz nd) := rfl
            rw [e] at q
            refine r_if (fun c2 => ?_) (fun c2 => ?_)
            · repeat walk_at "rd"
              refine r_ixT ha (v := y) rfl ?_
              repeat walk_at "rd"
              refine r_inT hy hn (lv_succ (lv_succ (m dy (by simp)))) l1 ?_
              repeat walk_at "rd"
              refine r_if (fun c3 => ?_) (fun c3 => ?_)
              · repeat walk_at "rd"
                refine r_ixT ha (v := z) rfl ?_
                repeat walk_at "rd"
                refine r_inT hzz hn (lv_succ (lv_succ (m dz (by simp)))) l1 ?_
                rw [c2, c3] at q
                exact q
              · rw [c2, c3] at q
                exact q
            · rw [c2] at q
              exact q
    · have e1 : (!(tyOf d == "tuple" || tyOf d == "bool" && "tuple" == "int")) = true := by
        cases d <;> first | rfl | exact absurd ⟨_, rfl⟩ hz
      have e2 : clauseOk nd d = false := by
        cases d <;> first | rfl | exact absurd ⟨_, rfl⟩ hz
      rw [if_pos e1]
      repeat walk_at "rd"
      rw [e2] at q
      exact q
end
theorem num_small : ∀ i : Nat, i ≤ 99 → (Str.ofString (toString ((i : Nat) : Int))).length ≤ 20 ∧ ((i : Nat) : Int).natAbs.log2 < 1920 := by
  intro i hi
  have key : ∀ i : Fin 100, (Str.ofString (toString ((i.val : Nat) : Int))).length ≤ 20 ∧ ((i.val : Nat) : Int).natAbs.log2 < 1920 := by decide +kernel
  exact key ⟨i, by omega⟩
theorem len_app (a b : Str) : (a ++ b).length = a.length + b.length := by
  show (a.cps ++ b.cps).size = _
  exact Array.size_append
theorem j_nil {σ : L2.St} {H : Hp} {acc : Str} {Q : Str → Hp → Prop} (q : Q acc H) : tJs [] acc σ H Q := q
theorem j_str {σ : L2.St} {H : Hp} {acc x : Str} {ts : List TE} {Q : Str → Hp → Prop} (h : (acc ++ x).length ≤ sizeLine) (q : tJs ts (acc ++ x) σ H Q) : tJs (tC (.str x) :: ts) acc σ H Q := ⟨x, rfl, h, q⟩
theorem j_fmtS {σ : L2.St} {H : Hp} {i : Nat} {acc x : Str} {ts : List TE} {Q : Str → Hp → Prop} (hv : σ[i]? = some (some (.str x))) (h1 : x.length ≤ sizeLine) (h : (acc ++ x).length ≤ sizeLine) (q : tJs ts (acc ++ x) σ H Q) : tJs (tFmt (tVar i) :: ts) acc σ H Q :=
  ⟨.str x, hv, .inl ⟨x, rfl, h1, x, rfl, h, q⟩⟩
theorem j_fmtI {σ : L2.St} {H : Hp} {i k : Nat} {acc : Str} {ts : List TE} {Q : Str → Hp → Prop} (hv : σ[i]? = some (some (.int (k : Nat)))) (hk : k ≤ 99) (ha : acc.length ≤ 1000) (q : ∀ out : Str, out.length ≤ 2000 → tJs ts out σ H Q) : tJs (tFmt (tVar i) :: ts) acc σ H Q := by
  obtain ⟨h1, h2⟩ := num_small k hk
  have h3 : (acc ++ Str.ofString (toString ((k : Nat) : Int))).length ≤ 2000 := by rw [len_app]; omega
  exact ⟨.int (k : Nat), hv, .inr ⟨_, rfl, h2, _, rfl, Nat.le_trans h3 (by decide), q _ h3⟩⟩
theorem r_ostV {K : PySem.W.Frag} {f : Str} {D : Ends} {σ : L2.St} {H : Hp} {i j : Nat} {y : V} {a C : Addr} (hy : σ[j]? = some (some y)) (hx : σ[i]? = some (some (.ref a))) (T : OexC K C) (n : PySem.W.findIn K (.ref C) f = some none)
    (q : (H a = some (exo a C none) ∧ ∀ dx, H dx = none → dx ≠ a → D.nx σ (upd (upd H dx (exd dx [(f, y)])) a (exo a C (some dx)))) ∨
      ∃ (dx : Addr) (fs : List (Str × V)), H a = some (exo a C (some dx)) ∧ H dx = some (exd dx fs) ∧ fs.length ≤ 900 ∧ D.nx σ (upd H dx (exd dx ((f, y) :: fs)))) : tOst K f (tVar i) (tVar j) D σ H :=
  ⟨y, hy, .ref a, hx, a, C, rfl, T, n, q⟩
section
variable {P : Program} {w : World} {K : PySem.W.Frag} {mg : Str → Option Value} {base : Heap} {G : List Addr} {L : List (Addr × Str)}
abbrev sErr (i : Nat) : Stmt := inClass (top i) 0
theorem scIR : FnScope ["self", "part", "index"] ["self", "part", "index"] (defScope (sErr iIR)) := C8.fnScope_by (by decide +kernel)
theorem scIS : FnScope ["self", "index"] ["self", "index"] (defScope (sErr iIS)) := C8.fnScope_by (by decide +kernel)
/-- StepError: its __init__ is ValueError's -/
structure BaseC (K : PySem.W.Frag) (mg : Str → Option Value) (S : Addr) : Prop where
  g : mg "StepError" = some (.ref S)
  rd : ClX.CRead K S (.type "type")
  fv : PySem.W.findCls K (.ref S) (.type "type") "__init__" = some (.val (.builtin "ValueError.__init__"))
def spIR (K : PySem.W.Frag) (C : Addr) : Sp := fun vs H Q _ => ∃ a p, ∃ i : Nat, vs = [.ref a, .str p, .int (i : Nat)] ∧ H a = some (exo a C none) ∧ p.length ≤ 100 ∧ i ≤ 99 ∧
  ∀ d, H d = none → d ≠ a → Q .non (upd (upd (upd H d (exd d [("part", .str p)])) a (exo a C (some d))) d (exd d [("index", .int (i : Nat)), ("part", .str p)]))
theorem ok_IR {f C S : Addr} {fd : FuncData} (F : Fun K "__init__" "InvalidRules.__init__" (sErr iIR) f fd) (B : BaseC K mg S) (T : OexC K C) (n1 : PySem.W.findIn K (.ref C) "part" = some none) (n2 : PySem.W.findIn K (.ref C) "index" = some none) : FnOk P w K mg base CX0 1 f fd ["self", "part", "index"] (spIR K C) := by
  refine F.ok scIR (fun vs H Q E h => ?_) (fun cdv A outer s H vs Q E hr h => ?_)
  · obtain ⟨a, p, i, e, _⟩ := h
    rw [e]
    rfl
  · obtain ⟨a, p, i, e, ha, hp, hi, q⟩ := h
    subst e
    refine ⟨_, pss_cons (ps_expr (pe_baseinit rfl B.g B.rd B.fv (pa_cons (pv 0) (pa_cons (pe_joined (.cons pe_str (.cons (pe_fmt (pv 1)) (.cons pe_str (.cons (pe_fmt (pv 2)) .nil))))) pa_nil))))
      (pss_cons (ps_ost (pv 0) (pv 1)) (pss_one (ps_ost (pv 0) (pv 2)))), ?_⟩
    refine r_seq (r_drop (r_cons (r_var (v := .ref a) rfl (r_cons ?_))))
    refine j_str (by decide) (j_fmtS (x := p) rfl (Nat.le_trans hp (by decide)) ?_ (j_str ?_ (j_fmtI (k := i) rfl hi ?_ fun out ho => ?_)))
    · rw [len_app]
      exact Nat.le_trans (Nat.add_le_add (Nat.le_of_eq rfl) hp) (by decide)
    · rw [len_app, len_app]
      exact Nat.le_trans (Nat.add_le_add (Nat.add_le_add (Nat.le_of_eq rfl) hp) (Nat.le_of_eq rfl)) (by decide)
    · rw [len_app, len_app]
      exact Nat.le_trans (Nat.add_le_add (Nat.add_le_add (Nat.le_of_eq rfl) hp) (Nat.le_of_eq rfl)) (by decide)
    · refine j_nil (r_nil ?_)
      refine ⟨a, C, [.str out], rfl, (by show 1 ≤ 1000; decide), T, ha, ?_⟩
      repeat walk_at "rd"
      refine r_ostV (y := .str p) (a := a) rfl rfl T n1 (.inl ⟨ha, fun d hd hne => ?_⟩)
      exact r_ostV (y := .int (i : Nat)) (a := a) rfl rfl T n2 (.inr ⟨d, _, upd_same, by rw [upd_ne hne, upd_same], (by show 1 ≤ 900; decide), q d hd hne⟩)
def spIS (K : PySem.W.Frag) (C : Addr) : Sp := fun vs H Q _ => ∃ a, ∃ i : Nat, vs = [.ref a, .int (i : Nat)] ∧ H a = some (exo a C none) ∧ i ≤ 99 ∧
  ∀ d, H d = none → d ≠ a → Q .non (upd (upd H d (exd d [("index", .int (i : Nat))])) a (exo a C (some d)))
theorem ok_IS {f C S : Addr} {fd : FuncData} (F : Fun K "__init__" "InvalidState.__init__" (sErr iIS) f fd) (B : BaseC K mg S) (T : OexC K C) (n2 : PySem.W.findIn K (.ref C) "index" = some none) : FnOk P w K mg base CX0 1 f fd ["self", "index"] (spIS K C) := by
  refine F.ok scIS (fun vs H Q E h => ?_) (fun cdv A outer s H vs Q E hr h => ?_)
  · obtain ⟨a, i, e, _⟩ := h
    rw [e]
    rfl
  · obtain ⟨a, i, e, ha, hi, q⟩ := h
    subst e
    refine ⟨_, pss_cons (ps_expr (pe_baseinit rfl B.g B.rd B.fv (pa_cons (pv 0) (pa_cons (pe_joined (.cons pe_str (.cons (pe_fmt (pv 1)) .nil))) pa_nil))))
      (pss_one (ps_ost (pv 0) (pv 1))), ?_⟩
    refine r_seq (r_drop (r_cons (r_var (v := .ref a) rfl (r_cons ?_))))
    refine j_str (by decide) (j_fmtI (k := i) rfl hi (by decide) fun out ho => ?_)
    refine j_nil (r_nil ?_)
    refine ⟨a, C, [.str out], rfl, (by show 1 ≤ 1000; decide), T, ha, ?_⟩
    repeat walk_at "rd"
    exact r_ostV (y := .int (i : Nat)) (a := a) rfl rfl T n2 (.inl ⟨ha, fun d hd hne => q d hd hne⟩)
end
def Told (K : PySem.W.Frag) (cls : Value) (d : Option Addr) (H : Hp) (D : PyData) : Prop :=
  (∃ a p i, cls = .ref (He.ga K "InvalidRules") ∧ d = some a ∧ H a = some (.xd [("index", .int i), ("part", .str p)]) ∧ D = .tuple [.str "rules", .str p, .int i]) ∨
  (∃ a i, cls = .ref (He.ga K "InvalidState") ∧ d = some a ∧ H a = some (.xd [("index", .int i)]) ∧ D = .tuple [.str "invalid", .int i]) ∨
  (cls = .ref (He.ga K "InvalidClause") ∧ d = none ∧ D = .tuple [.str "clause"]) ∨ (cls = .ref (He.ga K "UnknownClause") ∧ d = none ∧ D = .tuple [.str "noclause"]) ∨
  (cls = .ref (He.ga K "Impossible") ∧ d = none ∧ D = .tuple [.str "impossible"]) ∨
  (∃ a i, cls = .ref (He.ga K "IllegalState") ∧ d = some a ∧ H a = some (.xd [("index", .int i)]) ∧ D = .tuple [.str "illegal", .int i]) ∨
  (∃ a i j, cls = .ref (He.ga K "IllegalStep") ∧ d = some a ∧ H a = some (.xd [("clause", .int j), ("index", .int i)]) ∧ D = .tuple [.str "step", .int i, .int j]) ∨
  (∃ a v e, cls = .ref (He.ga K "UnknownSwitch") ∧ d = some a ∧ H a = some (.xd [("name", v)]) ∧ Im H v e ∧ D = .tuple [.str "switch", e]) ∨
  (∃ a v e, cls = .ref (He.ga K "NoWay") ∧ d = some a ∧ H a = some (.xd [("circle", v)]) ∧ Im H v e ∧ D = .tuple [.str "noway", e])
theorem Told.ill {K : PySem.W.Frag} {H : Hp} {a : Addr} {i : Int} (h : H a = some (.xd [("index", .int i)])) : Told K (.ref (He.ga K "IllegalState")) (some a) H (.tuple [.str "illegal", .int i]) := .inr (.inr (.inr (.inr (.inr (.inl ⟨a, i, rfl, rfl, h, rfl⟩)))))
theorem Told.step {K : PySem.W.Frag} {H : Hp} {a : Addr} {i j : Int} (h : H a = some (.xd [("clause", .int j), ("index", .int i)])) : Told K (.ref (He.ga K "IllegalStep")) (some a) H (.tuple [.str "step", .int i, .int j]) := .inr (.inr (.inr (.inr (.inr (.inr (.inl ⟨a, i, j, rfl, rfl, h, rfl⟩))))))
theorem Told.switch {K : PySem.W.Frag} {H : Hp} {a : Addr} {v : V} {e : PyData} (h : H a = some (.xd [("name", v)])) (i : Im H v e) : Told K (.ref (He.ga K "UnknownSwitch")) (some a) H (.tuple [.str "switch", e]) := .inr (.inr (.inr (.inr (.inr (.inr (.inr (.inl ⟨a, v, e, rfl, rfl, h, i, rfl⟩)))))))
theorem Told.noway {K : PySem.W.Frag} {H : Hp} {a : Addr} {v : V} {e : PyData} (h : H a = some (.xd [("circle", v)])) (i : Im H v e) : Told K (.ref (He.ga K "NoWay")) (some a) H (.tuple [.str "noway", e]) := .inr (.inr (.inr (.inr (.inr (.inr (.inr (.inr ⟨a, v, e, rfl, rfl, h, i, rfl⟩)))))))
section
variable {P : Program} {w : World} {K : PySem.W.Frag} {mg : Str → Option Value} {base : Heap} {G : List Addr} {L : List (Addr × Str)}
/-- an error class with its __init__, which keeps sp -/
structure Err (P : Program) (w : World) (K : PySem.W.Frag) (mg : Str → Option Value) (base : Heap) (x : Str) (sp : Sp) : Prop where
  oex : OexC K (He.ga K x)
  g : mg x = some (.ref (He.ga K x))
  ini : ∃ f fd ps, PySem.W.findIn K (.ref (He.ga K x)) "__init__" = some (some (.ref f)) ∧ PySem.W.typeIn K (.ref f) = some (.type "function") ∧ FnOk P w K mg base CX0 1 f fd ps sp ∧ Binds K fd ps []
theorem pmk_err {X : Cx} {x : Str} {k : Nat} {sp : Sp} {ta : TA} {p pos : Pos} {e : Expr} {es : List Expr} (T : Err X.prog X.w X.K X.mg X.base x sp) (hr : Room k X.A) (ha : PA X (e :: es) ta) (hk : 2 ≤ k := by decide) (hg : Gl X x := by rfl)
    (hdb : (x == ("__debug__" : Str)) = false := by decide) (he : starEach (e :: es) X.env = (false, eval e X.env) :: starEach es X.env := by rfl) (hpl : (backTo pos (starEach es X.env)).any (·.1) = false := by rfl) :
    PMk X (.Call (.Name x p) (e :: es) [] pos) (tMkO (He.ga X.K x) sp [] ta) := by
  obtain ⟨f, fd, ps, h1, h2, F, b⟩ := T.ini
  exact pmk_oex T.oex h1 h2 F (hr.mono hk) b .nil pass0 hg T.g ha hdb he hpl
theorem r_mkIR {σ : L2.St} {H : Hp} {ta : TA} {x : Str} {Q : XK} (h : ta σ H fun vs H1 => ∃ (p : Str) (i : Nat), vs = [.str p, .int (i : Nat)] ∧ p.length ≤ 100 ∧ i ≤ 99 ∧ ∀ d Hx, (∀ b o, H1 b = some o → Hx b = some o) → Hx d = some (.xd [("index", .int (i : Nat)), ("part", .str p)]) → Q (.ref (He.ga K x)) (some d) Hx)
    (hm : ∀ Q1 Q2 : List V → Hp → Prop, (∀ vs H1, Q1 vs H1 → Q2 vs H1) → ta σ H Q1 → ta σ H Q2) : tMkO (He.ga K x) (spIR K (He.ga K x)) [] ta σ H Q := by
  refine hm _ _ ?_ h
  rintro vs H1 ⟨p, i, ev, hp, hi, q⟩
  subst ev
  refine ⟨(by show 2 ≤ 1000; decide), fun a ha => ⟨a, p, i, rfl, upd_same, hp, hi, fun d hd hne => ⟨rfl, d, _, ?_, upd_same, ?_, q d _ ?_ upd_same⟩⟩⟩
  · rw [upd_ne hne.symm, upd_same]
  · rw [upd_ne hne] at hd
    exact hd
  · intro b o e
    have hd' : H1 d = none := by
      rw [upd_ne hne] at hd
      exact hd
    have nd := ne_of_none e hd'
    have na := ne_of_none e ha
    rw [upd_ne nd, del_ne na, upd_ne nd, upd_ne na, upd_ne nd, upd_ne na]
    exact e
theorem r_mkIS {σ : L2.St} {H : Hp} {ta : TA} {x : Str} {Q : XK} (h : ta σ H fun vs H1 => ∃ (i : Nat), vs = [.int (i : Nat)] ∧ i ≤ 99 ∧ ∀ d Hx, (∀ b o, H1 b = some o → Hx b = some o) → Hx d = some (.xd [("index", .int (i : Nat))]) → Q (.ref (He.ga K x)) (some d) Hx)
    (hm : ∀ Q1 Q2 : List V → Hp → Prop, (∀ vs H1, Q1 vs H1 → Q2 vs H1) → ta σ H Q1 → ta σ H Q2) : tMkO (He.ga K x) (spIS K (He.ga K x)) [] ta σ H Q := by
  refine hm _ _ ?_ h
  rintro vs H1 ⟨i, ev, hi, q⟩
  subst ev
  refine ⟨(by show 1 ≤ 1000; decide), fun a ha => ⟨a, i, rfl, upd_same, hi, fun d hd hne => ?_⟩⟩
  have hd' : H1 d = none := by
    rw [upd_ne hne] at hd
    exact hd
  refine ⟨rfl, d, _, upd_same, by rw [upd_ne hne, upd_same], hd', q d _ ?_ upd_same⟩
  intro b o e
  have nd := ne_of_none e hd'
  have na := ne_of_none e ha
  rw [upd_ne nd, del_ne na, upd_ne na, upd_ne nd, upd_ne na]
  exact e
theorem m_cons {te : TE} {ta : TA} {σ : L2.St} (h1 : ∀ (H : Hp) (Q1 Q2 : VK), (∀ v H1, Q1 v H1 → Q2 v H1) → te σ H Q1 → te σ H Q2) (h2 : ∀ (H : Hp) (Q1 Q2 : List V → Hp → Prop), (∀ v H1, Q1 v H1 → Q2 v H1) → ta σ H Q1 → ta σ H Q2) :
    ∀ (H : Hp) (Q1 Q2 : List V → Hp → Prop), (∀ v H1, Q1 v H1 → Q2 v H1) → tCons te ta σ H Q1 → tCons te ta σ H Q2 := fun H _ _ k q => h1 H _ _ (fun _ H1 z => h2 H1 _ _ (fun xs H2 y => k _ _ y) z) q
theorem m_nil {σ : L2.St} : ∀ (H : Hp) (Q1 Q2 : List V → Hp → Prop), (∀ v H1, Q1 v H1 → Q2 v H1) → tNil σ H Q1 → tNil σ H Q2 := fun _ _ _ k q => k _ _ q
theorem m_var {i : Nat} {σ : L2.St} : ∀ (H : Hp) (Q1 Q2 : VK), (∀ v H1, Q1 v H1 → Q2 v H1) → tVar i σ H Q1 → tVar i σ H Q2 := fun _ _ _ k ⟨v, h, q⟩ => ⟨v, h, k _ _ q⟩
theorem m_c {c : V} {σ : L2.St} : ∀ (H : Hp) (Q1 Q2 : VK), (∀ v H1, Q1 v H1 → Q2 v H1) → tC c σ H Q1 → tC c σ H Q2 := fun _ _ _ k q => k _ _ q
end
section
variable {σ : L2.St} {H : Hp} {D : Ends} {K : PySem.W.Frag}
theorem forET {te : TE} {g : TG} {tb : TS} {a : Addr} {xs : List V} (he : ∀ R : VK, R (.ref a) H → te σ H R) (hq : SqT K H a xs) (Pv : Nat → L2.St → Hp → Prop) (h0 : Pv 0 σ H) (hG : ∀ i σ H, i ≤ xs.length → Pv i σ H → SqT K H a xs)
    (hs : ∀ i x T σ H H', xs[i]? = some x → H T = none → H' = upd H T (.tup [.int (i : Nat), x]) → Pv i σ H → g (.ref T) σ H' fun σ2 H2 => tb { D with nx := Pv (i + 1), ct := Pv (i + 1), bk := D.nx } σ2 H2) (hd : ∀ σ H, Pv xs.length σ H → D.nx σ H) :
    tFor (iEnumT K (tCons te tNil)) g tb D σ H := by
  refine he _ ⟨a, xs, rfl, hq, for_it walk_enumT Pv h0 hG ?_ hd⟩
  rintro i x σ H1 H2 hi p ⟨T, x1, y, ev, hT, eH, e1, e2⟩
  cases e1
  rw [ev]
  exact hs i y T σ H1 H2 e2 hT eH p
theorem forT {te : TE} {g : TG} {tb : TS} {a : Addr} {xs : List V} (he : ∀ R : VK, R (.ref a) H → te σ H R) (hq : SqT K H a xs) (Pv : Nat → L2.St → Hp → Prop) (h0 : Pv 0 σ H) (hG : ∀ i σ H, i ≤ xs.length → Pv i σ H → SqT K H a xs)
    (hs : ∀ i x σ H, xs[i]? = some x → Pv i σ H → g x σ H fun σ2 H2 => tb { D with nx := Pv (i + 1), ct := Pv (i + 1), bk := D.nx } σ2 H2) (hd : ∀ σ H, Pv xs.length σ H → D.nx σ H) :
    tFor (iTup K te) g tb D σ H := by
  refine he _ ⟨a, rfl, ⟨xs, hq⟩, for_it walk_tup Pv h0 hG ?_ hd⟩
  rintro i x σ H1 H2 hi p ⟨eH, e2⟩
  rw [eH]
  exact hs i x σ H1 e2 p
theorem forL {te : TE} {g : TG} {tb : TS} {a : Addr} {xs : List V} (he : ∀ R : VK, R (.ref a) H → te σ H R) (hq : SqL K H a xs) (Pv : Nat → L2.St → Hp → Prop) (h0 : Pv 0 σ H) (hG : ∀ i σ H, i ≤ xs.length → Pv i σ H → SqL K H a xs)
    (hs : ∀ i x σ H, xs[i]? = some x → Pv i σ H → g x σ H fun σ2 H2 => tb { D with nx := Pv (i + 1), ct := Pv (i + 1), bk := D.nx } σ2 H2) (hd : ∀ σ H, Pv xs.length σ H → D.nx σ H) :
    tFor (iList K te) g tb D σ H := by
  refine he _ ⟨a, rfl, ⟨xs, hq⟩, for_it walk_list Pv h0 hG ?_ hd⟩
  rintro i x σ H1 H2 hi p ⟨eH, e2⟩
  rw [eH]
  exact hs i x σ H1 e2 p
theorem r_pair {T : Addr} {x y : V} {i j : Nat} {Q : L2.St → Hp → Prop} (h : SqT K H T [x, y]) (q : Q ((σ.set i (some x)).set j (some y)) H) : gTup K 2 (gCons (gName i) (gCons (gName j) gNil)) (.ref T) σ H Q :=
  ⟨T, _, rfl, h, rfl, _, _, rfl, _, _, rfl, rfl, q⟩
end
def scanS : List Str → Nat → List PyData → Option Nat
  | _, _, [] => none
  | later, i, .str z :: ds => if z ∈ later then scanS (later.drop (later.idxOf z + 1)) (i + 1) ds else some i
  | _, i, _ :: _ => some i
def stateBad (ns : List Str) : PyData → Option Nat
  | .tuple ds => scanS ns 0 ds
  | _ => some 0
theorem inD_strs (z : Str) (ns : List Str) : inD (.str z) (ns.map PyData.str) = decide (z ∈ ns) := by
  induction ns with
  | nil => rfl
  | cons y ns ih =>
    show ((y == z) || inD (.str z) (ns.map PyData.str)) = _
    rw [ih]
    by_cases h : y = z
    · subst h
      simp
    · have h' : (y == z) = false := by simpa using h
      have h2 : ¬ z = y := fun q => h q.symm
      rw [h', Bool.false_or]
      simp [h2]
theorem inD_no {d : PyData} (h : ∀ z, d ≠ .str z) (ns : List Str) : inD d (ns.map PyData.str) = false := by
  induction ns with
  | nil => rfl
  | cons y ns ih =>
    show (PyData.eqv (.str y) d || inD d (ns.map PyData.str)) = false
    rw [ih]
    cases d with
    | str z => exact absurd rfl (h z)
    | _ => simp [PyData.eqv]
section
variable {P : Program} {w : World} {K : PySem.W.Frag} {mg : Str → Option Value} {base : Heap} {G : List Addr} {L : List (Addr × Str)}
theorem sqT_go {K : PySem.W.Frag} {H H' : Hp} {a : Addr} {xs : List V} (h : SqT K H a xs) (e : LamX.ExtN H H') : SqT K H' a xs := by
  rcases h with (h | ⟨o, h⟩) | h
  · exact .inl (.inl (e _ _ h fun _ z => by cases z))
  · exact .inl (.inr ⟨o, e _ _ h fun _ z => by cases z⟩)
  · exact .inr h
theorem dps_strs {K : PySem.W.Frag} {H : Hp} (xs : List Str) : DpAll K H (xs.map V.str) (xs.map PyData.str) := Ims.dp (ims_strs xs)
theorem idxOf_get {z : Str} : ∀ {l : List Str}, z ∈ l → l[l.idxOf z]? = some z := fun {l} h => by
  have hl := List.idxOf_lt_length_of_mem h
  rw [List.getElem?_eq_getElem hl, List.getElem_idxOf hl]
theorem idxOf_least {z : Str} : ∀ {l : List Str} {m : Nat}, m < l.idxOf z → l[m]? = some z → False
  | [], m, h, e => by simp at e
  | y :: l, m, h, e => by
    by_cases hy : y = z
    · subst hy
      simp at h
    · have e1 : (y :: l).idxOf z = l.idxOf z + 1 := by
        rw [List.idxOf_cons]
        have hb : (y == z) = false := by simpa using hy
        rw [hb]
        rfl
      rw [e1] at h
      cases m with
      | zero => exact hy (by simpa using e)
      | succ m => exact idxOf_least (z := z) (l := l) (m := m) (by omega) (by simpa using e)
theorem cut_from {xs : List V} {k : Nat} (h : k ≤ xs.length) : cutV xs (some (k : Int)) none = xs.drop k := by
  unfold cutV
  rw [HT.sIx_nat, HT.sIx_none, Nat.min_eq_left h, List.take_of_length_le]
  rw [List.length_drop]
  exact Nat.le_refl _
theorem cut_to {xs : List V} {k : Nat} (h : k ≤ xs.length) : cutV xs none (some (k : Int)) = xs.take k := by
  unfold cutV
  rw [HT.sIx_nat, HT.sIx_none, Nat.min_eq_left h, List.drop_zero, Nat.sub_zero]
def goodS (ns : List Str) : Prop := (∀ z ∈ ns, PyData.strOk z = true) ∧ ns.length ≤ 60
def spChkState (K : PySem.W.Frag) (G : List Addr) (L : List (Addr × Str)) : Sp := fun vs H Q E => ∃ (an : Addr) (v : V) (ns : List Str) (d : PyData), vs = [.ref an, v] ∧ NT H an (ns.map V.str) ∧ Dp K H v d ∧ goodS ns ∧ lv 7 d = true ∧ (∀ ds, d = .tuple ds → ds.length ≤ 60) ∧
  (∀ i, stateBad ns d = some i → ∀ cls dd H', Go G L H H' → Told K cls dd H' (.tuple [.str "invalid", .int (i : Nat)]) → E cls dd H') ∧ (stateBad ns d = none → ∀ H', Go G L H H' → Q .non H')
theorem scChkState : FnScope ["names", "state", "later", "index", "name"] ["names", "state"] (defScope sChkState) := C8.fnScope_by (by decide +kernel)
theorem ok_chkState {f : Addr} {fd : FuncData} (F : Fun K "check_state" "check_state" sChkState f fd) (zI : mg "isinstance" = none) (z1 : mg "tuple" = none) (zE : mg "enumerate" = none) (T : Err P w K mg base "InvalidState" (spIS K (He.ga K "InvalidState"))) :
    FnOk P w K mg base (L2.CX P w) 3 f fd ["names", "state"] (spChkState K G L) := by
  refine F.okX scChkState (fun vs H Q E h => ?_) (fun cdv A outer s H vs Q E hr h => ?_)
  · obtain ⟨an, v, ns, d, e, _⟩ := h
    rw [e]
    rfl
  · obtain ⟨an, v, ns, d, e, hn, hd, gs, l1, hl, qE, q⟩ := h
    subst e
    refine ⟨_, pss_cons (ps_if (pt_not (pt_val (pe_callB call_isi rfl zI boot_isinstance (pa_cons (pv 1) (pa_cons (pe_bltn (v := .ty "tuple") rfl z1 boot_tuple rfl) pa_nil)))))
        (pss_one (ps_raise rfl (takes_of rfl rfl rfl rfl) (pmk_err T hr (pa_cons pe_int pa_nil)))) pss_nil)
      (pss_cons (ps_set (i := 2) scChkState.nd rfl (Or.inl rfl) (pv 0))
      (pss_one (ps_for (passes_of rfl) rfl (pi_enumT rfl zE (pa_cons (pv 1) pa_nil)) (pg_tup rfl (pgs_cons (pg_name (i := 3) scChkState.nd rfl (.inl rfl)) (pgs_cons (pg_name (i := 4) scChkState.nd rfl (.inl rfl)) pgs_nil)))
        (pss_cons (ps_if (pt_cmpR (op_notInT (u65 hr)) (pv 4) (pv 2) rfl) (pss_one (ps_raise rfl (takes_of rfl rfl rfl rfl) (pmk_err T hr (pa_cons (pv 3) pa_nil)))) pss_nil)
        (pss_one (ps_set (i := 2) scChkState.nd rfl (Or.inl rfl) (pe_slice sl_tupD (pv 2) (po_some (pe_op op_add (pe_tm PySem.F.plainAttrs_tuple PySem.F.slot_tuple_index PySem.F.type_tuple_index mt_tup_index (pv 2) (pa_cons (pv 4) pa_nil)) pe_int)) po_none))))))), ?_⟩
    repeat walk_at "rd"
    refine r_isi (m := "tuple") (Dp.kd hd) (by decide) ?_
    repeat walk_at "rd"
    by_cases hz : ∃ ds, d = .tuple ds
    · obtain ⟨ds, rfl⟩ := hz
      cases hd with
      | @tup a xs _ ha hxs =>
        refine r_if (fun cc => absurd cc (by simp [tyOf])) (fun _ => ?_)
        repeat walk_at "rd"
        have hlen := Dps.length hxs
        have hs60 := hl ds rfl
        have m := lv_mem l1
        refine forET (a := a) (xs := xs) (fun R z => ⟨_, rfl, z⟩) ha (fun i σ H' => ∃ (lt : List Str) (al : Addr) (x3 x4 : Option V), σ = [some (.ref an), some (.ref a), some (.ref al), x3, x4] ∧ Go G L H H' ∧ NT H' al (lt.map V.str) ∧ goodS lt ∧ scanS ns 0 ds = scanS lt i (ds.drop i)) ?_ ?_ ?_ ?_
        · exact ⟨ns, an, none, none, rfl, Go.refl H, hn, gs, rfl⟩
        · rintro i σ H' _ ⟨_, _, _, _, _, g, _⟩
          exact sqT_go ha g.1
        · rintro i y T2 σ H1 H2 ey hT rfl ⟨lt, al, x3, x4, rfl, g, hal, gl, hsc⟩
          have g2 : Go G L H (upd H1 T2 (.tup [.int (i : Nat), y])) := g.trans (Go.new hT)
          refine r_pair (.of upd_same) ?_
          obtain ⟨dy, hdy, hy⟩ := Dps.get hxs ey
          have hy2 := Dp.go g2.1 hy
          have hal2 : NT (upd H1 T2 (.tup [.int (i : Nat), y])) al (lt.map V.str) := hal.kt (Go.kt (G := G) (L := L) (Go.new hT))
          generalize upd H1 T2 (.tup [.int (i : Nat), y]) = H3 at g2 hy2 hal2
          have hil := (List.getElem?_eq_some_iff.mp hdy).1
          have hdrop : ds.drop i = dy :: ds.drop (i + 1) := by
            obtain ⟨hl1, e1⟩ := List.getElem?_eq_some_iff.mp hdy
            rw [← e1]
            exact List.drop_eq_getElem_cons hl1
          rw [hdrop] at hsc
          repeat walk_at "rd"
          refine r_ninT (ds := lt.map PyData.str) hy2 (.tup hal2.seq (dps_strs lt)) (lv_succ (lv_succ (m dy (List.mem_of_getElem? hdy)))) (lv_tup fun d hd => ?_) ?_
          · obtain ⟨z, hz, e⟩ := List.mem_map.mp hd
            rw [← e]
            exact gl.1 z hz
          repeat walk_at "rd"
          refine r_if (fun c1 => ?_) (fun c1 => ?_)
          · repeat walk_at "rd"
            refine r_mkIS ?_ (m_cons (m_var) m_nil _)
            repeat walk_at "rd"
            have e3 : stateBad ns (.tuple ds) = some i := by
              show scanS ns 0 ds = some i
              rw [hsc]
              cases dy with
              | str z =>
                rw [inD_strs] at c1
                have nz : ¬ z ∈ lt := by simpa using c1
                exact if_neg nz
              | _ => rfl
            exact ⟨i, rfl, by omega, fun dd Hx k hx => qE i e3 _ _ Hx (g2.trans (Go.same k)) (.inr (.inl ⟨dd, _, rfl, rfl, hx, rfl⟩))⟩
          · have hin : ∃ z, dy = .str z ∧ z ∈ lt := by
              cases dy with
              | str z =>
                rw [inD_strs] at c1
                exact ⟨z, rfl, by simpa using c1⟩
              | _ =>
                rw [inD_no (fun z => by intro q; cases q)] at c1
                exact absurd c1 (by decide)
            obtain ⟨z, rfl, hzl⟩ := hin
            cases hy2
            have hj : lt[lt.idxOf z]? = some z := idxOf_get hzl
            have hlt : lt.idxOf z < lt.length := (List.getElem?_eq_some_iff.mp hj).1
            repeat walk_at "rd"
            refine ⟨⟨al, _, rfl, hal2⟩, ?_⟩
            repeat walk_at "rd"
            refine ⟨al, lt, z, lt.idxOf z, rfl, rfl, hal2.seq, hj, fun m hm e => idxOf_least hm e, ?_⟩
            repeat walk_at "rd"
            have ecut : cutV (lt.map V.str) (some ((lt.idxOf z : Nat) + 1 : Int)) none = (lt.drop (lt.idxOf z + 1)).map V.str := by
              have e0 : (((lt.idxOf z : Nat) : Int) + 1) = ((lt.idxOf z + 1 : Nat) : Int) := by omega
              rw [e0, cut_from, List.map_drop]
              rw [List.length_map]
              omega
            have gl' : goodS (lt.drop (lt.idxOf z + 1)) := ⟨fun y hy => gl.1 y (List.mem_of_mem_drop hy), Nat.le_trans (by rw [List.length_drop]; omega) gl.2⟩
            have hsc' : scanS ns 0 ds = scanS (lt.drop (lt.idxOf z + 1)) (i + 1) (ds.drop (i + 1)) := by
              rw [hsc]
              exact if_pos hzl
            refine ⟨al, _, rfl, hal2, fun e => ?_, fun p o hp h1 h2 => ?_⟩
            · rw [ecut] at e
              have e2 := congrArg List.length e
              rw [List.length_map, List.length_map, List.length_drop] at e2
              omega
            · repeat walk_at "rd"
              rw [ecut]
              exact ⟨_, p, _, _, rfl, g2.trans (Go.new hp), .of h1 h2, gl', hsc'⟩
        · rintro σ H' ⟨lt, al, x3, x4, rfl, g, hal, gl, hsc⟩
          refine q ?_ H' g
          show scanS ns 0 ds = none
          rw [hsc, hlen, List.drop_length]
          rfl
    · have e1 : (!(tyOf d == "tuple" || tyOf d == "bool" && "tuple" == "int")) = true := by
        cases d <;> first | rfl | exact absurd ⟨_, rfl⟩ hz
      have e2 : stateBad ns d = some 0 := by
        cases d <;> first | rfl | exact absurd ⟨_, rfl⟩ hz
      rw [if_pos e1]
      repeat walk_at "rd"
      refine r_mkIS ?_ (m_cons (m_c) m_nil _)
      repeat walk_at "rd"
      exact ⟨0, rfl, by decide, fun dd Hx k hx => qE 0 e2 _ _ Hx (Go.same k) (.inr (.inl ⟨dd, _, rfl, rfl, hx, rfl⟩))⟩
end
def scanN : List PyData → List PyData → Option Nat
  | _, [] => none
  | pre, d :: ds => if decide ((10 : Int) ≤ (pre.length : Nat)) || (!nameOk d || inD d pre) then some pre.length else scanN (pre ++ [d]) ds
def namesBad : PyData → Option Nat
  | .tuple [] => some 0
  | .tuple ds => scanN [] ds
  | _ => some 0
section
variable {P : Program} {w : World} {K : PySem.W.Frag} {mg : Str → Option Value} {base : Heap} {G : List Addr} {L : List (Addr × Str)}
def rulesE (p : Str) (i : Nat) : PyData := .tuple [.str "rules", .str p, .int (i : Nat)]
theorem told_rules {dd : Addr} {H : Hp} {p : Str} {i : Nat} (h : H dd = some (.xd [("index", .int (i : Nat)), ("part", .str p)])) : Told K (.ref (He.ga K "InvalidRules")) (some dd) H (rulesE p i) := .inl ⟨dd, p, _, rfl, rfl, h, rfl⟩
def spChkNames (K : PySem.W.Frag) (G : List Addr) (L : List (Addr × Str)) : Sp := fun vs H Q E => ∃ (v : V) (d : PyData), vs = [v] ∧ Dp K H v d ∧ lv 7 d = true ∧ TBS G L H ∧ (∀ ds, d = .tuple ds → ds.length ≤ 60 ∧ ∀ x ∈ ds, smallS x) ∧
  (∀ i, namesBad d = some i → ∀ cls dd H', Go G L H H' → Told K cls dd H' (rulesE "names" i) → E cls dd H') ∧ (namesBad d = none → ∀ H', Go G L H H' → Q .non H')
theorem scChkNames : FnScope ["names", "index", "name"] ["names"] (defScope sChkNames) := C8.fnScope_by (by decide +kernel)
theorem dps_at {K : PySem.W.Frag} {H : Hp} {xs : List V} {ds : List PyData} {i : Nat} {v : V} (h : DpAll K H xs ds) (e : xs[i]? = some v) : ∃ d, ds[i]? = some d ∧ Dp K H v d ∧ ds.drop i = d :: ds.drop (i + 1) ∧ i < ds.length ∧ ds.take (i + 1) = ds.take i ++ [d] := by
  obtain ⟨d, h1, h2⟩ := Dps.get h e
  obtain ⟨hl, e1⟩ := List.getElem?_eq_some_iff.mp h1
  refine ⟨d, h1, h2, ?_, hl, ?_⟩
  · rw [← e1]
    exact List.drop_eq_getElem_cons hl
  · rw [← e1]
    exact (List.take_append_getElem hl).symm
theorem ok_chkNames {f : Addr} {fd : FuncData} {t10 : Tok} (F : Fun K "check_names" "check_names" sChkNames f fd) (zI : mg "isinstance" = none) (z1 : mg "tuple" = none) (zL : mg "len" = none) (zE : mg "enumerate" = none) (g10 : mg "MOST_NAMES" = some (.int 10 t10))
    (T : Err P w K mg base "InvalidRules" (spIR K (He.ga K "InvalidRules"))) (N : Fd CX0 P w K mg base "is_name" 1 (spIsName K G L)) : FnOk P w K mg base (L2.CX P w) 3 f fd ["names"] (spChkNames K G L) := by
  refine F.okX scChkNames (fun vs H Q E h => ?_) (fun cdv A outer s H vs Q E hr h => ?_)
  · obtain ⟨v, d, e, _⟩ := h
    rw [e]
    rfl
  · obtain ⟨v, d, e, hd, l1, ht, hl, qE, q⟩ := h
    subst e
    refine ⟨_, pss_cons (ps_if (PW.pt (pw_or (pt_not (pt_val (pe_callB call_isi rfl zI boot_isinstance (pa_cons (pv 0) (pa_cons (pe_bltn (v := .ty "tuple") rfl z1 boot_tuple rfl) pa_nil)))))
          (pw_or1 (pt_cmpR op_eq (pe_callB c_len rfl zL boot_len (pa_cons (pv 0) pa_nil)) pe_int (nomark _)))))
        (pss_one (ps_raise rfl (takes_of rfl rfl rfl rfl) (pmk_err T hr (pa_cons pe_str (pa_cons pe_int pa_nil))))) pss_nil)
      (pss_one (ps_for (passes_of rfl) rfl (pi_enumT rfl zE (pa_cons (pv 0) pa_nil)) (pg_tup rfl (pgs_cons (pg_name (i := 1) scChkNames.nd rfl (.inl rfl)) (pgs_cons (pg_name (i := 2) scChkNames.nd rfl (.inl rfl)) pgs_nil)))
        (pss_one (ps_if (PW.pt (pw_or (pt_cmpR op_ge (pv 1) (pe_glob (v := .int 10) rfl g10 ⟨_, rfl⟩) (nomark _)) (pw_or (pt_not (pt_val (pe_fd (E := E0) N hr pass0 (pa_cons (pv 2) pa_nil))))
            (pw_or1 (pt_cmpR (op_inT (u65 hr)) (pv 2) (pe_slice sl_tupA (pv 0) po_none (po_some (pv 1))) rfl)))))
          (pss_one (ps_raise rfl (takes_of rfl rfl rfl rfl) (pmk_err T hr (pa_cons pe_str (pa_cons (pv 1) pa_nil))))) pss_nil)))), ?_⟩
    repeat walk_at "rd"
    refine r_isi (m := "tuple") (Dp.kd hd) (by decide) ?_
    repeat walk_at "rd"
    by_cases hz : ∃ ds, d = .tuple ds
    · obtain ⟨ds, rfl⟩ := hz
      cases hd with
      | @tup a xs _ ha hxs =>
        refine r_if (fun cc => absurd cc (by simp [tyOf])) (fun _ => ?_)
        repeat walk_at "rd"
        refine r_lenT ha ?_
        repeat walk_at "rd"
        refine r_eq rfl ?_
        repeat walk_at "rd"
        have hlen := Dps.length hxs
        obtain ⟨hs60, hsm⟩ := hl ds rfl
        have m := lv_mem l1
        refine r_if (fun c1 => ?_) (fun c1 => ?_)
        · have z0 := V.int.inj (of_decide_eq_true c1)
          have e0 : ds = [] := List.length_eq_zero_iff.mp (by omega)
          repeat walk_at "rd"
          refine r_mkIR ?_ (m_cons m_c (m_cons m_c m_nil) _)
          repeat walk_at "rd"
          refine ⟨"names", 0, rfl, by decide, by decide, fun dd Hx k hx => qE 0 (by rw [e0]; rfl) _ _ Hx (Go.same k) (told_rules hx)⟩
        · have ne : ds ≠ [] := fun z => by
            rw [z] at hlen
            rw [hlen] at c1
            exact absurd c1 (by decide)
          have enb : namesBad (.tuple ds) = scanN [] ds := by
            cases ds with
            | nil => exact absurd rfl ne
            | cons _ _ => rfl
          repeat walk_at "rd"
          refine forET (a := a) (xs := xs) (fun R z => ⟨_, rfl, z⟩) ha (fun i σ H' => ∃ (x3 x4 : Option V), σ = [some (.ref a), x3, x4] ∧ Go G L H H' ∧ scanN [] ds = scanN (ds.take i) (ds.drop i)) ?_ ?_ ?_ ?_
          · exact ⟨none, none, rfl, Go.refl H, rfl⟩
          · rintro i σ H' _ ⟨_, _, _, g, _⟩
            exact sqT_go ha g.1
          · rintro i y T2 σ H1 H2 ey hT rfl ⟨x3, x4, rfl, g, hsc⟩
            have g2 : Go G L H (upd H1 T2 (.tup [.int (i : Nat), y])) := g.trans (Go.new hT)
            refine r_pair (.of upd_same) ?_
            obtain ⟨dy, hdy, hy, hdrop, hil, htk⟩ := dps_at hxs ey
            generalize upd H1 T2 (.tup [.int (i : Nat), y]) = H3 at g2
            have hy2 := Dp.go g2.1 hy
            rw [hdrop] at hsc
            have htl : (ds.take i).length = i := by
              rw [List.length_take]
              omega
            have hmem := List.mem_of_getElem? hdy
            have bad : (decide ((10 : Int) ≤ (i : Nat)) || (!nameOk dy || inD dy (ds.take i))) = true → namesBad (.tuple ds) = some i := fun c => by
              rw [enb, hsc]
              show (if decide ((10 : Int) ≤ ((ds.take i).length : Nat)) || (!nameOk dy || inD dy (ds.take i)) then some (ds.take i).length else _) = some i
              rw [htl]
              exact if_pos c
            repeat walk_at "rd"
            refine r_if (fun c2 => ?_) (fun c2 => ?_)
            · repeat walk_at "rd"
              refine r_mkIR ?_ (m_cons m_c (m_cons m_var m_nil) _)
              repeat walk_at "rd"
              exact ⟨"names", i, rfl, by decide, by omega, fun dd Hx k hx => qE i (bad (by rw [c2]; rfl)) _ _ Hx (g2.trans (Go.same k)) (told_rules hx)⟩
            · repeat walk_at "rd"
              refine ⟨y, dy, rfl, hy2, hsm dy hmem, g2.2 ht, fun H4 g4 => ?_⟩
              have g4' := g2.trans g4
              have hy4 := Dp.go g4'.1 hy
              repeat walk_at "rd"
              refine r_if (fun c3 => ?_) (fun c3 => ?_)
              · repeat walk_at "rd"
                refine r_mkIR ?_ (m_cons m_c (m_cons m_var m_nil) _)
                repeat walk_at "rd"
                exact ⟨"names", i, rfl, by decide, by omega, fun dd Hx k hx => qE i (bad (by rw [c2, c3]; rfl)) _ _ Hx (g4'.trans (Go.same k)) (told_rules hx)⟩
              · repeat walk_at "rd"
                refine ⟨a, xs, rfl, sqT_go ha g4'.1, fun hw => ?_, fun _ p hp => ?_⟩
                · exfalso
                  have z := hw.2
                  rw [HT.sIx_nat] at z
                  omega
                · have g5 := g4'.trans (Go.new (o := .tup (cutV xs none (some (i : Nat)))) hp)
                  have hsq : SqT K (upd H4 p (.tup (cutV xs none (some (i : Nat))))) p (cutV xs none (some (i : Nat))) := .of upd_same
                  generalize upd H4 p (.tup (cutV xs none (some (i : Nat)))) = H5 at g5 hsq ⊢
                  rw [cut_to (by omega)] at hsq
                  repeat walk_at "rd"
                  have hy5 := Dp.go g5.1 hy
                  refine r_inT (ds := ds.take i) hy5 (.tup hsq (Dps.go g5.1 (Dps.take i hxs))) (lv_succ (lv_succ (m dy hmem))) (lv_tup fun d hd => lv_succ (m d (List.mem_of_mem_take hd))) ?_
                  repeat walk_at "rd"
                  refine r_if (fun c4 => ?_) (fun c4 => ?_)
                  · repeat walk_at "rd"
                    refine r_mkIR ?_ (m_cons m_c (m_cons m_var m_nil) _)
                    repeat walk_at "rd"
                    exact ⟨"names", i, rfl, by decide, by omega, fun dd Hx k hx => qE i (bad (by rw [c2, c3, c4]; rfl)) _ _ Hx (g5.trans (Go.same k)) (told_rules hx)⟩
                  · repeat walk_at "rd"
                    refine ⟨_, _, rfl, g5, ?_⟩
                    rw [hsc, htk]
                    show (if decide ((10 : Int) ≤ ((ds.take i).length : Nat)) || (!nameOk dy || inD dy (ds.take i)) then some (ds.take i).length else _) = _
                    rw [htl, c2, c3, c4]
                    rfl
          · rintro σ H' ⟨x3, x4, rfl, g, hsc⟩
            refine q ?_ H' g
            rw [enb, hsc, hlen, List.drop_length]
            rfl
    · have e1 : (!(tyOf d == "tuple" || tyOf d == "bool" && "tuple" == "int")) = true := by
        cases d <;> first | rfl | exact absurd ⟨_, rfl⟩ hz
      have e2 : namesBad d = some 0 := by
        cases d <;> first | rfl | exact absurd ⟨_, rfl⟩ hz
      rw [if_pos e1]
      repeat walk_at "rd"
      refine r_mkIR ?_ (m_cons m_c (m_cons m_c m_nil) _)
      repeat walk_at "rd"
      exact ⟨"names", 0, rfl, by decide, by decide, fun dd Hx k hx => qE 0 e2 _ _ Hx (Go.same k) (told_rules hx)⟩
end
section
variable {G : List Addr} {L : List (Addr × Str)} {H H' : Hp} {r D : Addr} {xs ys : List V}
theorem Go.updNew (g : Go G L H H') (n : H D = none) (h : H' D = some (.lst xs)) : Go G L H (upd H' D (.lst ys)) :=
  ⟨fun b o e nt => by rw [upd_ne (ne_of_none e n)]; exact g.1 b o e nt, fun t => (GoR.upd (G := G) (L := L) h).2 (g.2 t)⟩
theorem GoR.updNew (g : GoR G L r H H') (n : H D = none) (h : H' D = some (.lst xs)) : GoR G L r H (L2.upd H' D (.lst ys)) :=
  ⟨fun b o nr nt e => by rw [upd_ne (ne_of_none e n)]; exact g.1 b o nr nt e, fun t => (GoR.upd (G := G) (L := L) h).2 (g.2 t)⟩
theorem GoR.new {o : HO} (g : GoR G L r H H') (n : H' D = none) : GoR G L r H (L2.upd H' D o) := g.trans (Go.new n).toR
end
section
variable {σ : L2.St} {H : Hp} {Q : VK} {D : Ends} {K : PySem.W.Frag}
theorem r_lcI {wi : TI} {g : TG} {tt : TT} {te : TE} {vs : List Nat} {J : It} {n : Nat} {G : Hp → Prop} {Y : Nat → Hp → V → Hp → Prop} (hw : ∀ R : It → Hp → Prop, R J H → wi σ H R) (w : Walk J n G Y) (Pv : Addr → Nat → Hp → Prop)
    (h0 : ∀ D, H D = none → Pv D 0 (upd H D (.lst []))) (hG : ∀ D i H', H D = none → i ≤ n → Pv D i H' → G H')
    (hs : ∀ D i x H1 H2, H D = none → i < n → Pv D i H1 → Y i H1 x H2 → g x (wipe σ vs) H2 fun σ2 H2 => wipe σ2 vs = wipe σ vs ∧ tt σ2 H2 fun b H3 =>
      if b = true then te σ2 H3 fun y H4 => ∃ acc, H4 D = some (.lst acc) ∧ acc.length < sizeLine ∧ Pv D (i + 1) (upd H4 D (.lst (acc ++ [y]))) else Pv D (i + 1) H3) (hd : ∀ D H', H D = none → Pv D n H' → Q (.ref D) H') : tLc wi g tt te vs σ H Q :=
  hw _ fun D hD => lc_it w (Pv D) (h0 D hD) (fun i H' hi p => hG D i H' hD hi p) (fun i x H1 H2 hi p y => hs D i x H1 H2 hD hi p y) fun H' p => hd D H' hD p
theorem lcET {te : TE} {g : TG} {tt : TT} {el : TE} {vs : List Nat} {a : Addr} {xs : List V} (he : ∀ R : VK, R (.ref a) H → te σ H R) (hq : SqT K H a xs) (Pv : Addr → Nat → Hp → Prop)
    (h0 : ∀ D, H D = none → Pv D 0 (upd H D (.lst []))) (hG : ∀ D i H', H D = none → i ≤ xs.length → Pv D i H' → SqT K H' a xs)
    (hs : ∀ D i x T H1, H D = none → xs[i]? = some x → H1 T = none → Pv D i H1 → g (.ref T) (wipe σ vs) (upd H1 T (.tup [.int (i : Nat), x])) fun σ2 H2 => wipe σ2 vs = wipe σ vs ∧ tt σ2 H2 fun b H3 =>
      if b = true then el σ2 H3 fun y H4 => ∃ acc, H4 D = some (.lst acc) ∧ acc.length < sizeLine ∧ Pv D (i + 1) (upd H4 D (.lst (acc ++ [y]))) else Pv D (i + 1) H3) (hd : ∀ D H', H D = none → Pv D xs.length H' → Q (.ref D) H') : tLc (iEnumT K (tCons te tNil)) g tt el vs σ H Q := by
  refine r_lcI (fun R z => he _ ⟨a, xs, rfl, hq, z⟩) walk_enumT Pv h0 hG ?_ hd
  rintro D i x H1 H2 hD hi p ⟨T, x1, y, ev, hT, eH, e1, e2⟩
  cases e1
  rw [ev, eH]
  exact hs D i y T H1 hD e2 hT p
theorem lcL {te : TE} {g : TG} {tt : TT} {el : TE} {vs : List Nat} {a : Addr} {xs : List V} (he : ∀ R : VK, R (.ref a) H → te σ H R) (hq : SqL K H a xs) (Pv : Addr → Nat → Hp → Prop)
    (h0 : ∀ D, H D = none → Pv D 0 (upd H D (.lst []))) (hG : ∀ D i H', H D = none → i ≤ xs.length → Pv D i H' → SqL K H' a xs)
    (hs : ∀ D i x H1, H D = none → xs[i]? = some x → Pv D i H1 → g x (wipe σ vs) H1 fun σ2 H2 => wipe σ2 vs = wipe σ vs ∧ tt σ2 H2 fun b H3 =>
      if b = true then el σ2 H3 fun y H4 => ∃ acc, H4 D = some (.lst acc) ∧ acc.length < sizeLine ∧ Pv D (i + 1) (upd H4 D (.lst (acc ++ [y]))) else Pv D (i + 1) H3) (hd : ∀ D H', H D = none → Pv D xs.length H' → Q (.ref D) H') : tLc (iList K te) g tt el vs σ H Q := by
  refine r_lcI (fun R z => he _ ⟨a, rfl, ⟨xs, hq⟩, z⟩) walk_list Pv h0 hG ?_ hd
  rintro D i x H1 H2 hD hi p ⟨eH, e2⟩
  rw [eH]
  exact hs D i x H1 hD e2 p
/-- range(n) -/
theorem lcR {te : TE} {g : TG} {tt : TT} {el : TE} {vs : List Nat} {n : Nat} {H0 : Hp} (he : ∀ R : VK, R (.int (n : Nat)) H0 → te σ H R) (hn : n < 1000000) (Pv : Addr → Nat → Hp → Prop)
    (h0 : ∀ D, H0 D = none → Pv D 0 (upd H0 D (.lst [])))
    (hs : ∀ D i H1, H0 D = none → i < n → Pv D i H1 → g (.int (i : Nat)) (wipe σ vs) H1 fun σ2 H2 => wipe σ2 vs = wipe σ vs ∧ tt σ2 H2 fun b H3 =>
      if b = true then el σ2 H3 fun y H4 => ∃ acc, H4 D = some (.lst acc) ∧ acc.length < sizeLine ∧ Pv D (i + 1) (upd H4 D (.lst (acc ++ [y]))) else Pv D (i + 1) H3) (hd : ∀ D H', H0 D = none → Pv D n H' → Q (.ref D) H') : tLc (iRng1 (tCons te tNil)) g tt el vs σ H Q := by
  refine he _ ⟨_, rfl, by omega, by omega, fun D hD => lc_it walk_range (Pv D) (h0 D hD) (fun _ _ _ _ => True.intro) ?_ fun H' p => hd D H' hD (by simpa using p)⟩
  rintro i x H1 H2 hi p ⟨eH, ex⟩
  have hi' : i < n := by simpa using hi
  have e : x = .int (i : Nat) := ex.trans (congrArg V.int (Int.zero_add _))
  rw [eH, e]
  exact hs D i H1 hD hi' p
theorem forR {te : TE} {g : TG} {tb : TS} {n : Nat} {H0 : Hp} (he : ∀ R : VK, R (.int (n : Nat)) H0 → te σ H R) (hn : n < 1000000) (Pv : Nat → L2.St → Hp → Prop) (h0 : Pv 0 σ H0)
    (hs : ∀ i σ H, i < n → Pv i σ H → g (.int (i : Nat)) σ H fun σ2 H2 => tb { D with nx := Pv (i + 1), ct := Pv (i + 1), bk := D.nx } σ2 H2) (hd : ∀ σ H, Pv n σ H → D.nx σ H) :
    tFor (iRng1 (tCons te tNil)) g tb D σ H := by
  refine he _ ⟨_, rfl, by omega, by omega, for_it walk_range Pv h0 (fun _ _ _ _ _ => True.intro) ?_ (fun σ' H' p => hd σ' H' (by simpa using p))⟩
  rintro i x σ H1 H2 hi p ⟨eH, ex⟩
  have hi' : i < n := by simpa using hi
  have e : x = .int (i : Nat) := ex.trans (congrArg V.int (Int.zero_add _))
  rw [eH, e]
  exact hs i σ H1 hi' p
end
def scanC (nd : List PyData) : Nat → List PyData → Option Nat
  | _, [] => none
  | i, d :: ds => if decide ((40 : Int) ≤ (i : Nat)) || !clauseOk nd d then some i else scanC nd (i + 1) ds
def clausesBad (nd : List PyData) : PyData → Option Nat
  | .tuple ds => scanC nd 0 ds
  | _ => some 0
section
variable {P : Program} {w : World} {K : PySem.W.Frag} {mg : Str → Option Value} {base : Heap} {G : List Addr} {L : List (Addr × Str)}
def spChkClauses (K : PySem.W.Frag) (G : List Addr) (L : List (Addr × Str)) : Sp := fun vs H Q E => ∃ (nv v : V) (nd : List PyData) (d : PyData), vs = [nv, v] ∧ Dp K H nv (.tuple nd) ∧ Dp K H v d ∧ lv 8 (.tuple nd) = true ∧ lv 8 d = true ∧ (∀ ds, d = .tuple ds → ds.length ≤ 60) ∧
  (∀ i, clausesBad nd d = some i → ∀ cls dd H', Go G L H H' → Told K cls dd H' (rulesE "clauses" i) → E cls dd H') ∧ (clausesBad nd d = none → ∀ H', Go G L H H' → Q .non H')
theorem scChkClauses : FnScope ["names", "clauses", "index", "clause"] ["names", "clauses"] (defScope sChkClauses) := C8.fnScope_by (by decide +kernel)
theorem ok_chkClauses {f : Addr} {fd : FuncData} {t40 : Tok} (F : Fun K "check_clauses" "check_clauses" sChkClauses f fd) (zI : mg "isinstance" = none) (z1 : mg "tuple" = none) (zE : mg "enumerate" = none) (g40 : mg "MOST_CLAUSES" = some (.int 40 t40))
    (T : Err P w K mg base "InvalidRules" (spIR K (He.ga K "InvalidRules"))) (N : Fd CX0 P w K mg base "is_clause" 1 (spIsClause K)) : FnOk P w K mg base (L2.CX P w) 3 f fd ["names", "clauses"] (spChkClauses K G L) := by
  refine F.okX scChkClauses (fun vs H Q E h => ?_) (fun cdv A outer s H vs Q E hr h => ?_)
  · obtain ⟨nv, v, nd, d, e, _⟩ := h
    rw [e]
    rfl
  · obtain ⟨nv, v, nd, d, e, hn, hd, l0, l1, hl, qE, q⟩ := h
    subst e
    refine ⟨_, pss_cons (ps_if (pt_not (pt_val (pe_callB call_isi rfl zI boot_isinstance (pa_cons (pv 1) (pa_cons (pe_bltn (v := .ty "tuple") rfl z1 boot_tuple rfl) pa_nil)))))
        (pss_one (ps_raise rfl (takes_of rfl rfl rfl rfl) (pmk_err T hr (pa_cons pe_str (pa_cons pe_int pa_nil))))) pss_nil)
      (pss_one (ps_for (passes_of rfl) rfl (pi_enumT rfl zE (pa_cons (pv 1) pa_nil)) (pg_tup rfl (pgs_cons (pg_name (i := 2) scChkClauses.nd rfl (.inl rfl)) (pgs_cons (pg_name (i := 3) scChkClauses.nd rfl (.inl rfl)) pgs_nil)))
        (pss_one (ps_if (PW.pt (pw_or (pt_cmpR op_ge (pv 2) (pe_glob (v := .int 40) rfl g40 ⟨_, rfl⟩) (nomark _)) (pw_or1 (pt_not (pt_val (pe_fd (E := E0) N hr pass0 (pa_cons (pv 0) (pa_cons (pv 3) pa_nil))))))))
          (pss_one (ps_raise rfl (takes_of rfl rfl rfl rfl) (pmk_err T hr (pa_cons pe_str (pa_cons (pv 2) pa_nil))))) pss_nil)))), ?_⟩
    repeat walk_at "rd"
    refine r_isi (m := "tuple") (Dp.kd hd) (by decide) ?_
    repeat walk_at "rd"
    by_cases hz : ∃ ds, d = .tuple ds
    · obtain ⟨ds, rfl⟩ := hz
      cases hd with
      | @tup a xs _ ha hxs =>
        refine r_if (fun cc => absurd cc (by simp [tyOf])) (fun _ => ?_)
        repeat walk_at "rd"
        have hlen := Dps.length hxs
        have hs60 := hl ds rfl
        have m := lv_mem l1
        refine forET (a := a) (xs := xs) (fun R z => ⟨_, rfl, z⟩) ha (fun i σ H' => ∃ (x3 x4 : Option V), σ = [some nv, some (.ref a), x3, x4] ∧ Go G L H H' ∧ scanC nd 0 ds = scanC nd i (ds.drop i)) ?_ ?_ ?_ ?_
        · exact ⟨none, none, rfl, Go.refl H, rfl⟩
        · rintro i σ H' _ ⟨_, _, _, g, _⟩
          exact sqT_go ha g.1
        · rintro i y T2 σ H1 H2 ey hT rfl ⟨x3, x4, rfl, g, hsc⟩
          have g2 : Go G L H (upd H1 T2 (.tup [.int (i : Nat), y])) := g.trans (Go.new hT)
          refine r_pair (.of upd_same) ?_
          obtain ⟨dy, hdy, hy, hdrop, hil, htk⟩ := dps_at hxs ey
          generalize upd H1 T2 (.tup [.int (i : Nat), y]) = H3 at g2
          have hy2 := Dp.go g2.1 hy
          rw [hdrop] at hsc
          have hmem := List.mem_of_getElem? hdy
          have bad : (decide ((40 : Int) ≤ (i : Nat)) || !clauseOk nd dy) = true → clausesBad nd (.tuple ds) = some i := fun c => by
            show scanC nd 0 ds = some i
            rw [hsc]
            exact if_pos c
          repeat walk_at "rd"
          refine r_if (fun c2 => ?_) (fun c2 => ?_)
          · repeat walk_at "rd"
            refine r_mkIR ?_ (m_cons m_c (m_cons m_var m_nil) _)
            repeat walk_at "rd"
            exact ⟨"clauses", i, rfl, by decide, by omega, fun dd Hx k hx => qE i (bad (by rw [c2]; rfl)) _ _ Hx (g2.trans (Go.same k)) (told_rules hx)⟩
          · repeat walk_at "rd"
            refine ⟨nv, y, nd, dy, rfl, Dp.go g2.1 hn, hy2, l0, m dy hmem, ?_⟩
            repeat walk_at "rd"
            refine r_if (fun c3 => ?_) (fun c3 => ?_)
            · repeat walk_at "rd"
              refine r_mkIR ?_ (m_cons m_c (m_cons m_var m_nil) _)
              repeat walk_at "rd"
              exact ⟨"clauses", i, rfl, by decide, by omega, fun dd Hx k hx => qE i (bad (by rw [c2, c3]; rfl)) _ _ Hx (g2.trans (Go.same k)) (told_rules hx)⟩
            · repeat walk_at "rd"
              refine ⟨_, _, rfl, g2, ?_⟩
              rw [hsc]
              show (if decide ((40 : Int) ≤ (i : Nat)) || !clauseOk nd dy then some i else _) = _
              rw [c2, c3]
              rfl
        · rintro σ H' ⟨x3, x4, rfl, g, hsc⟩
          refine q ?_ H' g
          show scanC nd 0 ds = none
          rw [hsc, hlen, List.drop_length]
          rfl
    · have e1 : (!(tyOf d == "tuple" || tyOf d == "bool" && "tuple" == "int")) = true := by
        cases d <;> first | rfl | exact absurd ⟨_, rfl⟩ hz
      have e2 : clausesBad nd d = some 0 := by
        cases d <;> first | rfl | exact absurd ⟨_, rfl⟩ hz
      rw [if_pos e1]
      repeat walk_at "rd"
      refine r_mkIR ?_ (m_cons m_c (m_cons m_c m_nil) _)
      repeat walk_at "rd"
      exact ⟨"clauses", 0, rfl, by decide, by decide, fun dd Hx k hx => qE 0 e2 _ _ Hx (Go.same k) (told_rules hx)⟩
end
def holdsD (sd : List PyData) (w : Str) (a b : PyData) : Bool :=
  if w = "needs" then (!inD a sd || inD b sd) else if w = "excludes" then (!inD a sd || !inD b sd) else (inD a sd || inD b sd)
section
variable {P : Program} {w : World} {K : PySem.W.Frag} {mg : Str → Option Value} {base : Heap} {G : List Addr} {L : List (Addr × Str)}
theorem r_asgE {te : TE} {g : TG} {D : Ends} {σ : L2.St} {H : Hp} {x : V} (he : ∀ R : VK, R x H → te σ H R) (q : g x σ H D.nx) : tAsg te g D σ H := he _ q
theorem g_three {σ : L2.St} {H : Hp} {T : Addr} {x y z : V} {i j k : Nat} {Q : L2.St → Hp → Prop} (h : SqT K H T [x, y, z]) (q : Q (((σ.set i (some x)).set j (some y)).set k (some z)) H) : gTup K 3 (gCons (gName i) (gCons (gName j) (gCons (gName k) gNil))) (.ref T) σ H Q :=
  ⟨T, _, rfl, h, rfl, _, _, rfl, _, _, rfl, _, _, rfl, rfl, q⟩
def spFul (K : PySem.W.Frag) : Sp := fun vs H Q _ => ∃ sv cv sd w a b, vs = [sv, cv] ∧ Dp K H sv (.tuple sd) ∧ Dp K H cv (.tuple [.str w, a, b]) ∧ lv 8 (.tuple sd) = true ∧ lv 8 a = true ∧ lv 8 b = true ∧ Q (.bl (holdsD sd w a b)) H
theorem scFul : FnScope ["state", "clause", "word", "first", "second"] ["state", "clause"] (defScope sFulfils) := C8.fnScope_by (by decide +kernel)
theorem ok_fulfils {f : Addr} {fd : FuncData} (F : Fun K "fulfils" "fulfils" sFulfils f fd) : FnOk P w K mg base CX0 1 f fd ["state", "clause"] (spFul K) := by
  refine F.ok scFul (fun vs H Q E h => ?_) (fun cdv A outer s H vs Q E hr h => ?_)
  · obtain ⟨sv, cv, sd, w, a, b, e, _⟩ := h
    rw [e]
    rfl
  · obtain ⟨sv, cv, sd, w, a, b, e, hs, hc, l0, l1, l2, q⟩ := h
    subst e
    refine ⟨_, pss_cons (ps_asg (pv 1) (pg_tup rfl (pgs_cons (pg_name (i := 2) scFul.nd rfl (.inl rfl)) (pgs_cons (pg_name (i := 3) scFul.nd rfl (.inl rfl)) (pgs_cons (pg_name (i := 4) scFul.nd rfl (.inl rfl)) pgs_nil)))))
      (pss_cons (ps_if (pt_cmpR op_eq (pv 2) pe_str (nomark _)) (pss_one (ps_ret (pe_or (pe_cmpR (op_notInT (u65 hr)) (pv 3) (pv 0) rfl) (pe_one (pe_cmpR (op_inT (u65 hr)) (pv 4) (pv 0) rfl))))) pss_nil)
      (pss_cons (ps_if (pt_cmpR op_eq (pv 2) pe_str (nomark _)) (pss_one (ps_ret (pe_or (pe_cmpR (op_notInT (u65 hr)) (pv 3) (pv 0) rfl) (pe_one (pe_cmpR (op_notInT (u65 hr)) (pv 4) (pv 0) rfl))))) pss_nil)
      (pss_one (ps_ret (pe_or (pe_cmpR (op_inT (u65 hr)) (pv 3) (pv 0) rfl) (pe_one (pe_cmpR (op_inT (u65 hr)) (pv 4) (pv 0) rfl))))))), ?_⟩
    cases hc with
    | @tup T xs _ hT hxs =>
      have h3 : xs.length = 3 := Dps.length hxs
      obtain ⟨x, y, z, dx, dy, dz, e1, e2, hx, hy, hz⟩ := three_of hxs h3
      cases e2
      subst e1
      cases hx
      refine r_seq (r_asgE (x := .ref T) (fun R z => ⟨_, rfl, z⟩) (g_three hT ?_))
      repeat walk_at "rd"
      refine r_eq rfl ?_
      repeat walk_at "rd"
      refine r_if (fun c1 => ?_) (fun c1 => ?_)
      · have ew : w = "needs" := V.str.inj (of_decide_eq_true c1)
        subst ew
        repeat walk_at "rd"
        refine r_ninT hy hs l1 l0 ?_
        repeat walk_at "rd"
        refine r_if (fun c2 => ?_) (fun c2 => ?_)
        · have e : holdsD sd "needs" a b = true := by
            show (!inD a sd || inD b sd) = true
            rw [c2]
            rfl
          rw [e] at q
          exact q
        · repeat walk_at "rd"
          refine r_inT hz hs l2 l0 ?_
          have e : holdsD sd "needs" a b = inD b sd := by
            show (!inD a sd || inD b sd) = _
            rw [c2]
            rfl
          rw [e] at q
          exact q
      · have ew : w ≠ "needs" := fun z => of_decide_eq_false c1 (congrArg V.str z)
        repeat walk_at "rd"
        refine r_eq rfl ?_
        repeat walk_at "rd"
        refine r_if (fun c3 => ?_) (fun c3 => ?_)
        · have ew2 : w = "excludes" := V.str.inj (of_decide_eq_true c3)
          have e0 : holdsD sd w a b = (!inD a sd || !inD b sd) := by
            unfold holdsD
            rw [if_neg ew, if_pos ew2]
          rw [e0] at q
          repeat walk_at "rd"
          refine r_ninT hy hs l1 l0 ?_
          repeat walk_at "rd"
          refine r_if (fun c2 => ?_) (fun c2 => ?_)
          · rw [c2] at q
            exact q
          · repeat walk_at "rd"
            refine r_ninT hz hs l2 l0 ?_
            rw [c2] at q
            exact q
        · have ew2 : w ≠ "excludes" := fun z => of_decide_eq_false c3 (congrArg V.str z)
          have e0 : holdsD sd w a b = (inD a sd || inD b sd) := by
            unfold holdsD
            rw [if_neg ew, if_neg ew2]
          rw [e0] at q
          repeat walk_at "rd"
          refine r_inT hy hs l1 l0 ?_
          repeat walk_at "rd"
          refine r_if (fun c2 => ?_) (fun c2 => ?_)
          · rw [c2] at q
            exact q
          · repeat walk_at "rd"
            refine r_inT hz hs l2 l0 ?_
            rw [c2] at q
            exact q
abbrev cR (K : PySem.W.Frag) : Addr := He.ga K "Rules"
abbrev sM (j : Nat) : Stmt := inClass (top iRules) j
structure RulC (K : PySem.W.Frag) (mg : Str → Option Value) : Prop where
  cl : Cls K (cR K)
  n1 : NoAttr K (cR K) "_names"
  n2 : NoAttr K (cR K) "_clauses"
  g : mg "Rules" = some (.ref (cR K))
def rulesBad (dn dc : PyData) : Option PyData := match namesBad dn with
  | some i => some (rulesE "names" i)
  | none => match dn with
    | .tuple nd => (clausesBad nd dc).map (rulesE "clauses")
    | _ => none
def rfs (nv cv : V) : List (Str × V) := [("_names", nv), ("_clauses", cv)]
def okN (d : PyData) : Prop := lv 7 d = true ∧ ∀ ds, d = .tuple ds → ds.length ≤ 60 ∧ ∀ x ∈ ds, smallS x
def okC (d : PyData) : Prop := lv 8 d = true ∧ ∀ ds, d = .tuple ds → ds.length ≤ 60
def spInit (K : PySem.W.Frag) (G : List Addr) (L : List (Addr × Str)) : Sp := fun vs H Q E => ∃ (x dx : Addr) (nv cv : V) (dn dc : PyData), vs = [.ref x, nv, cv] ∧ H x = some (.ins (cR K) dx []) ∧ Dp K H nv dn ∧ Dp K H cv dc ∧ okN dn ∧ okC dc ∧ TBS G L H ∧
  (∀ D, rulesBad dn dc = some D → ∀ cls dd H', Go G L H H' → Told K cls dd H' D → E cls dd H') ∧ (rulesBad dn dc = none → ∀ Hm, Go G L H Hm → Q .non (upd Hm x (.ins (cR K) dx (rfs nv cv))))
theorem scInit : FnScope ["self", "names", "clauses"] ["self", "names", "clauses"] (defScope (sM 0)) := C8.fnScope_by (by decide +kernel)
theorem ok_init {f : Addr} {fd : FuncData} (F : Fun K "__init__" "Rules.__init__" (sM 0) f fd) (R : RulC K mg) (N : Fd (L2.CX P w) P w K mg base "check_names" 3 (spChkNames K G L)) (C : Fd (L2.CX P w) P w K mg base "check_clauses" 3 (spChkClauses K G L)) :
    FnOk P w K mg base (L2.CX P w) 4 f fd ["self", "names", "clauses"] (spInit K G L) := by
  refine F.okX scInit (fun vs H Q E h => ?_) (fun cdv A outer s H vs Q E hr h => ?_)
  · obtain ⟨x, dx, nv, cv, dn, dc, e, _⟩ := h
    rw [e]
    rfl
  · obtain ⟨x, dx, nv, cv, dn, dc, e, hx, hn, hc, on, oc, ht, qE, q⟩ := h
    subst e
    refine ⟨_, pss_cons (ps_expr (pe_fd N hr (passes_call (takes_of rfl rfl rfl rfl) fun _ _ _ _ z => z) (pa_cons (pv 1) pa_nil)))
      (pss_cons (ps_expr (pe_fd C hr (passes_call (takes_of rfl rfl rfl rfl) fun _ _ _ _ z => z) (pa_cons (pv 1) (pa_cons (pv 2) pa_nil))))
      (pss_cons (ps_fld (pv 0) (pv 1) rfl) (pss_one (ps_fld (pv 0) (pv 2) rfl)))), ?_⟩
    repeat walk_at "rd"
    refine ⟨nv, dn, rfl, hn, on.1, ht, on.2, fun i hi cls dd H' g t => qE _ (by unfold rulesBad; rw [hi]) cls dd H' g t, fun hi H1 g1 => ?_⟩
    have hz : ∃ nd, dn = .tuple nd := by
      cases dn with
      | tuple nd => exact ⟨nd, rfl⟩
      | _ => cases hi
    obtain ⟨nd, rfl⟩ := hz
    have er : rulesBad (.tuple nd) dc = (clausesBad nd dc).map (rulesE "clauses") := by
      unfold rulesBad
      rw [hi]
    repeat walk_at "rd"
    refine ⟨nv, cv, nd, dc, rfl, Dp.go g1.1 hn, Dp.go g1.1 hc, lv_succ on.1, oc.1, oc.2, fun i hc' cls dd H' g t => qE _ (by rw [er, hc']; rfl) cls dd H' (g1.trans g) t, fun hc' H2 g2 => ?_⟩
    have g3 := g1.trans g2
    have hx2 : H2 x = some (.ins (cR K) dx []) := g3.1 x _ hx fun _ z => by cases z
    repeat walk_at "rd"
    refine ⟨_, rfl, .ref x, rfl, x, _, dx, [], rfl, hx2, R.cl, R.n1, (by show 0 < 1000; decide), ?_⟩
    refine ⟨_, rfl, .ref x, rfl, x, _, dx, _, rfl, upd_same, R.cl, R.n2, (by show 1 < 1000; decide), ?_⟩
    have z := q (by rw [er, hc']; rfl) H2 g3
    rw [upd_upd]
    exact z
end
section
variable {P : Program} {w : World} {K : PySem.W.Frag} {mg : Str → Option Value} {base : Heap} {G : List Addr} {L : List (Addr × Str)}
/-- Rules(..) may be called -/
structure Mkr (P : Program) (w : World) (K : PySem.W.Frag) (mg : Str → Option Value) (base : Heap) (G : List Addr) (L : List (Addr × Str)) : Prop where
  rc : RulC K mg
  ex : ∃ (f : Addr) (fd : FuncData) (ps : List Str), Mk K (cR K) f ∧ FnOk P w K mg base (L2.CX P w) 4 f fd ps (spInit K G L) ∧ Binds K fd ps []
theorem pe_rules {X : Cx} {j : Nat} {E : XK} {p pos : Pos} {e : Expr} {es : List Expr} {t : TA} (M : Mkr X.prog X.w X.K X.mg X.base G L) (hr : Room j X.A) (hx : Passes (L2.CX X.prog X.w) X E) (ha : PA X (e :: es) t) (hk : 5 ≤ j := by decide) (hg : Gl X "Rules" := by rfl)
    (he : starEach (e :: es) X.env = (false, eval e X.env) :: starEach es X.env := by rfl) (hpl : (backTo pos (starEach es X.env)).any (·.1) = false := by rfl) :
    PE X (.Call (.Name "Rules" p) (e :: es) [] pos) (tMake (cR X.K) (spInit X.K G L) [] E t) := by
  obtain ⟨f, fd, ps, h1, F, b⟩ := M.ex
  exact pe_make h1 F (hr.mono hk) hg M.rc.g b .nil hx ha (by decide) he hpl
/-- tuples: slices and sums -/
theorem cut_whole {xs : List V} {lo hi : Option Int} (h : HT.sIx xs.length 0 lo = 0 ∧ HT.sIx xs.length xs.length hi = xs.length) : cutV xs lo hi = xs := by
  unfold cutV
  rw [h.1, h.2]
  simp
theorem r_slT {H : Hp} {Q : VK} {a : Addr} {xs : List V} {lo hi : Option Int} (h : Tp H a xs) (q : ∀ p H', (∀ b o, H b = some o → H' b = some o) → Tp H' p (cutV xs lo hi) → Q (.ref p) H') : rSlA K (.ref a) lo hi H Q :=
  ⟨a, xs, rfl, h.seq, fun hw => q a H (fun _ _ e => e) (by rw [cut_whole hw]; exact h), fun _ p hp => q p _ (fun b o e => by rw [upd_ne (ne_of_none e hp)]; exact e) (.inl upd_same)⟩
theorem r_catT {H : Hp} {Q : VK} {a b : Addr} {xs ys : List V} (h1 : Tp H a xs) (h2 : Tp H b ys) (hl : xs.length + ys.length ≤ sizeLine) (q : ∀ p H', (∀ b o, H b = some o → H' b = some o) → Tp H' p (xs ++ ys) → Q (.ref p) H') : rCatA K (.ref a) (.ref b) H Q := by
  refine ⟨a, b, xs, ys, rfl, rfl, h1.seq, h2.seq, hl, fun e => q b H (fun _ _ e => e) (by rw [e]; exact h2), fun _ e => q a H (fun _ _ e => e) (by rw [e, List.append_nil]; exact h1), fun _ _ p hp => q p _ (fun b o e => by rw [upd_ne (ne_of_none e hp)]; exact e) (.inl upd_same)⟩
def RulesAt (K : PySem.W.Frag) (H : Hp) (x : Addr) (ns : List Str) (cd : List PyData) : Prop := ∃ dx an ac xs, H x = some (.ins (cR K) dx (rfs (.ref an) (.ref ac))) ∧ NT H an (ns.map V.str) ∧ Tp H ac xs ∧ Ims H xs cd
theorem RulesAt.kt {H H' : Hp} {x : Addr} {ns : List Str} {cd : List PyData} (h : RulesAt K H x ns cd) (k : KT H H') : RulesAt K H' x ns cd := by
  obtain ⟨dx, an, ac, xs, h1, h2, h3, h4⟩ := h
  exact ⟨dx, an, ac, xs, k x _ (fun _ z => by cases z) (fun _ z => by cases z) h1, h2.kt k, h3.kt k, h4.kt k⟩
structure OkR (ns : List Str) (cd : List PyData) : Prop where
  gs : goodS ns
  nb : namesBad (.tuple (ns.map PyData.str)) = none
  sm : ∀ z ∈ ns, z.length ≤ sizeLine
  cs : ∀ d ∈ cd, clauseOk (ns.map PyData.str) d = true
  cl : cd.length ≤ 40
theorem lv_strs {n : Nat} {ns : List Str} (h : ∀ z ∈ ns, PyData.strOk z = true) : lv (n + 1) (.tuple (ns.map PyData.str)) = true := lv_tup fun d hd => by
  obtain ⟨z, hz, e⟩ := List.mem_map.mp hd
  rw [← e]
  cases n <;> exact h z hz
theorem inD_str {d : PyData} {ns : List Str} (h : inD d (ns.map PyData.str) = true) : ∃ z, d = .str z ∧ z ∈ ns := by
  cases d with
  | str z =>
    rw [inD_strs] at h
    exact ⟨z, rfl, of_decide_eq_true h⟩
  | _ =>
    rw [inD_no (fun z q => by cases q)] at h
    cases h
theorem clause_shape {ns : List Str} {d : PyData} (h : clauseOk (ns.map PyData.str) d = true) : ∃ w a b, d = .tuple [.str w, .str a, .str b] ∧ (w = "needs" ∨ w = "excludes" ∨ w = "either") ∧ a ∈ ns ∧ b ∈ ns := by
  match d, h with
  | .tuple [x, y, z], h =>
    have h' : (inD x ((["needs", "excludes", "either"] : List Str).map PyData.str) && inD y (ns.map PyData.str) && inD z (ns.map PyData.str)) = true := h
    rw [Bool.and_eq_true, Bool.and_eq_true] at h'
    obtain ⟨⟨h1, h2⟩, h3⟩ := h'
    obtain ⟨w, rfl, hw⟩ := inD_str h1
    obtain ⟨a, rfl, ha⟩ := inD_str h2
    obtain ⟨b, rfl, hb⟩ := inD_str h3
    exact ⟨w, a, b, rfl, by simpa using hw, ha, hb⟩
theorem word_ok {w : Str} (h : w = "needs" ∨ w = "excludes" ∨ w = "either") : PyData.strOk w = true := by
  rcases h with rfl | rfl | rfl <;> decide +kernel
theorem lv_up {n m : Nat} {d : PyData} (h : lv n d = true) (hm : n ≤ m) : lv m d = true := by
  induction hm with
  | refl => exact h
  | step _ ih => exact lv_succ ih
theorem OkR.on {ns : List Str} {cd : List PyData} (h : OkR ns cd) : okN (.tuple (ns.map PyData.str)) := ⟨lv_strs h.gs.1, fun ds e => by
  cases e
  refine ⟨by rw [List.length_map]; exact h.gs.2, fun x hx => ?_⟩
  obtain ⟨z, hz, e⟩ := List.mem_map.mp hx
  rw [← e]
  exact h.sm z hz⟩
end
section
variable {P : Program} {w : World} {K : PySem.W.Frag} {mg : Str → Option Value} {base : Heap} {G : List Addr} {L : List (Addr × Str)}
/-- an own error without __init__ -/
structure Er0 (K : PySem.W.Frag) (mg : Str → Option Value) (x : Str) : Prop where
  q : PySem.W.excIn K (He.ga K x) He.veBase "ValueError.__new__" = true
  g : mg x = some (.ref (He.ga K x))
  k : PySem.W.keepIn K (.ref (He.ga K x)) = true
  b : PySem.W.subIn K (.ref (He.ga K x)) (.type "BaseException") = some true
  t : PySem.W.typeIn K (.ref (He.ga K x)) = some (.type "type")
theorem pmk_er0 {X : Cx} {x m : Str} {j : Nat} {p p2 pos : Pos} (T : Er0 X.K X.mg x) (hg : Gl X x := by rfl) (hdb : (x == ("__debug__" : Str)) = false := by decide) : PMk X (.Call (.Name x p) [.Constant (.str m) j p2] [] pos) (fun _ H Q => Q (.ref (He.ga X.K x)) none H) :=
  pmk_own PySem.F.excBase_ValueError T.q T.g T.k (raises_own T.b T.t) hg hdb
end
section
variable {P : Program} {w : World} {K : PySem.W.Frag} {mg : Str → Option Value} {base : Heap} {G : List Addr} {L : List (Addr × Str)}
def brk (sd : List PyData) : PyData → Bool
  | .tuple [.str w, a, b] => !holdsD sd w a b
  | _ => false
def brokenFrom (sd : List PyData) : Nat → List PyData → List Nat
  | _, [] => []
  | i, d :: ds => if brk sd d then i :: brokenFrom sd (i + 1) ds else brokenFrom sd (i + 1) ds
theorem broken_len (sd : List PyData) : ∀ (ds : List PyData) (i : Nat), (brokenFrom sd i ds).length ≤ ds.length
  | [], _ => Nat.le_refl _
  | d :: ds, i => by
    have ih := broken_len sd ds (i + 1)
    show (if brk sd d then i :: brokenFrom sd (i + 1) ds else brokenFrom sd (i + 1) ds).length ≤ ds.length + 1
    split
    · rw [List.length_cons]
      omega
    · omega
theorem lv_str {n : Nat} {z : Str} (h : PyData.strOk z = true) : lv n (.str z) = true := by
  cases n <;> exact h
def iOr (u v : TI) : TI := fun σ H R => u σ H R ∨ v σ H R
theorem pi_or {X : Cx} {tg iter : Expr} {u v : TI} (a : PI X tg iter u) (b : PI X tg iter v) : PI X tg iter (iOr u v) := ⟨fun pins s σ H R I h => by
  rcases h with h | h
  · exact a.run pins s σ H R I h
  · exact b.run pins s σ H R I h⟩
/-- what stands there: a list | a tuple -/
def Sq2 (H : Hp) (b : Bool) (a : Addr) (xs : List V) : Prop := if b = true then H a = some (.lst xs) else Tp H a xs
theorem Sq2.go {H H' : Hp} {b : Bool} {a : Addr} {xs : List V} (g : Go G L H H') (h : Sq2 H b a xs) : Sq2 H' b a xs := by
  cases b
  · exact Tp.kt h g.kt
  · exact g.lst h
/-- enumerate of a list | of a tuple, in a comprehension -/
theorem lcEL {σ : L2.St} {H : Hp} {Q : VK} {te : TE} {g : TG} {tt : TT} {el : TE} {vs : List Nat} {a : Addr} {xs : List V} (he : ∀ R : VK, R (.ref a) H → te σ H R) (hq : SqL K H a xs) (Pv : Addr → Nat → Hp → Prop)
    (h0 : ∀ D, H D = none → Pv D 0 (upd H D (.lst []))) (hG : ∀ D i H', H D = none → i ≤ xs.length → Pv D i H' → SqL K H' a xs)
    (hs : ∀ D i x T H1, H D = none → xs[i]? = some x → H1 T = none → Pv D i H1 → g (.ref T) (wipe σ vs) (upd H1 T (.tup [.int (i : Nat), x])) fun σ2 H2 => wipe σ2 vs = wipe σ vs ∧ tt σ2 H2 fun b H3 =>
      if b = true then el σ2 H3 fun y H4 => ∃ acc, H4 D = some (.lst acc) ∧ acc.length < sizeLine ∧ Pv D (i + 1) (upd H4 D (.lst (acc ++ [y]))) else Pv D (i + 1) H3) (hd : ∀ D H', H D = none → Pv D xs.length H' → Q (.ref D) H') : tLc (iEnum K (tCons te tNil)) g tt el vs σ H Q := by
  refine r_lcI (fun R z => he _ ⟨a, xs, rfl, hq, z⟩) walk_enum Pv h0 hG ?_ hd
  rintro D i x H1 H2 hD hi p ⟨T, x1, y, ev, hT, eH, e1, e2⟩
  cases e1
  rw [ev, eH]
  exact hs D i y T H1 hD e2 hT p
theorem lcEB {σ : L2.St} {H : Hp} {a : Addr} {xs : List V} {Q : VK} {te : TE} {g : TG} {tt : TT} {el : TE} {vs : List Nat} (b : Bool) (he : ∀ R : VK, R (.ref a) H → te σ H R) (hq : Sq2 H b a xs) (Pv : Addr → Nat → Hp → Prop)
    (h0 : ∀ D, H D = none → Pv D 0 (upd H D (.lst []))) (hG : ∀ D i H', H D = none → i ≤ xs.length → Pv D i H' → Sq2 H' b a xs)
    (hs : ∀ D i x T H1, H D = none → xs[i]? = some x → H1 T = none → Pv D i H1 → g (.ref T) (wipe σ vs) (upd H1 T (.tup [.int (i : Nat), x])) fun σ2 H2 => wipe σ2 vs = wipe σ vs ∧ tt σ2 H2 fun b H3 =>
      if b = true then el σ2 H3 fun y H4 => ∃ acc, H4 D = some (.lst acc) ∧ acc.length < sizeLine ∧ Pv D (i + 1) (upd H4 D (.lst (acc ++ [y]))) else Pv D (i + 1) H3) (hd : ∀ D H', H D = none → Pv D xs.length H' → Q (.ref D) H') : tLc (iOr (iEnumT K (tCons te tNil)) (iEnum K (tCons te tNil))) g tt el vs σ H Q := by
  cases b
  · exact .inl (lcET (K := K) he (Tp.seq hq) Pv h0 (fun D i H' hD hi p => Tp.seq (hG D i H' hD hi p)) hs hd)
  · exact .inr (lcEL (K := K) he (.of hq) Pv h0 (fun D i H' hD hi p => .of (hG D i H' hD hi p)) hs hd)
def ClS (d : PyData) : Prop := ∃ w a b, d = .tuple [.str w, .str a, .str b] ∧ PyData.strOk w = true ∧ PyData.strOk a = true ∧ PyData.strOk b = true
theorem OkR.cls {ns : List Str} {cd : List PyData} (ok : OkR ns cd) : ∀ d ∈ cd, ClS d := fun d hd => by
  obtain ⟨w, a, b, rfl, hw, ha, hb⟩ := clause_shape (ok.cs d hd)
  exact ⟨w, a, b, rfl, word_ok hw, ok.gs.1 a ha, ok.gs.1 b hb⟩
def spAmong (K : PySem.W.Frag) (G : List Addr) (L : List (Addr × Str)) : Sp := fun vs H Q _ => ∃ (b : Bool) (ac : Addr) (xs : List V) (cd ds : List PyData) (v : V), vs = [.ref ac, v] ∧ Sq2 H b ac xs ∧ Ims H xs cd ∧ Dp K H v (.tuple ds) ∧ lv 7 (.tuple ds) = true ∧ cd.length ≤ 1000 ∧ (∀ d ∈ cd, ClS d) ∧
  ∀ H' l, Go G L H H' → H l = none → H' l = some (.lst ((brokenFrom ds 0 cd).map fun i => V.int (i : Nat))) → Q (.ref l) H'
abbrev nAmong : List Str := ["clauses", "state", "index", "clause"]
theorem scAmong : FnScope nAmong ["clauses", "state"] (defScope sAmong) := C8.fnScope_by (by decide +kernel)
theorem ok_among {f : Addr} {fd : FuncData} (F : Fun K "broken_among" "broken_among" sAmong f fd) (zE : mg "enumerate" = none) (FF : Fd CX0 P w K mg base "fulfils" 1 (spFul K)) :
    FnOk P w K mg base CX0 2 f fd ["clauses", "state"] (spAmong K G L) := by
  refine F.ok scAmong (fun vs H Q E h => ?_) (fun cdv A outer s H vs Q E hr h => ?_)
  · obtain ⟨b, ac, xs, cd, ds, v, e, _⟩ := h
    rw [e]
    rfl
  · obtain ⟨b, ac, xs, cd, ds, v, e, hac, hxs, hd, l7, hcl, hcs, q⟩ := h
    subst e
    refine ⟨_, pss_one (ps_ret (pe_lc (own := [("index", 2), ("clause", 3)]) (g := gTup K 2 (gCons (gName 2) (gCons (gName 3) gNil))) (wi := iOr (iEnumT K (tCons (tVar 0) tNil)) (iEnum K (tCons (tVar 0) tNil))) rfl scAmong.nd (pi_or (pi_enumT rfl zE (pa_cons (pv 0) pa_nil)) (pi_enum rfl zE (pa_cons (pv 0) pa_nil)))
        (blkOk_by (own := [("index", 2), ("clause", 3)]) (N := nAmong) (sc := defScope sAmong) (by decide +kernel))
        (fun _ _ _ _ _ => pg_tup rfl (pgs_cons (pg_name (i := 2) scAmong.nd rfl (.inl rfl)) (pgs_cons (pg_name (i := 3) scAmong.nd rfl (.inl rfl)) pgs_nil)))
        (fun _ _ _ _ _ => pts_one (pt_not (pt_val (pe_fd (E := E0) FF hr pass0 (pa_cons (pv 1) (pa_cons (pv 3) pa_nil)))))) (fun _ _ _ _ _ => pv 2))), ?_⟩
    have hlx := hxs.length
    repeat walk_at "rd"
    refine lcEB (a := ac) (xs := xs) b (fun R' z => ⟨_, rfl, z⟩) hac
      (fun D i H' => ∃ acc : List Nat, Go G L H H' ∧ H' D = some (.lst (acc.map fun i => V.int (i : Nat))) ∧ acc.length ≤ i ∧ brokenFrom ds 0 cd = acc ++ brokenFrom ds i (cd.drop i)) ?_ ?_ ?_ ?_
    · intro D hD
      exact ⟨[], Go.new hD, upd_same, Nat.le_refl _, rfl⟩
    · rintro D i H' hD _ ⟨acc, g, _⟩
      exact hac.go g
    · rintro D i y T2 H2 hD ey hT ⟨acc, g, hDl, hal, hb2⟩
      have g3 : Go G L H (upd H2 T2 (.tup [.int (i : Nat), y])) := g.trans (Go.new hT)
      have hDl3 : (upd H2 T2 (.tup [.int (i : Nat), y])) D = some (.lst (acc.map fun i => V.int (i : Nat))) := by rw [upd_ne (ne_of_none hDl hT)]; exact hDl
      refine r_pair (.of upd_same) ⟨rfl, ?_⟩
      generalize upd H2 T2 (.tup [.int (i : Nat), y]) = H3 at g3 hDl3
      obtain ⟨dy, hdy, hy⟩ := hxs.get ey
      obtain ⟨hil, e1⟩ := List.getElem?_eq_some_iff.mp hdy
      have hdrop : cd.drop i = dy :: cd.drop (i + 1) := by
        rw [← e1]
        exact List.drop_eq_getElem_cons hil
      have hmem := List.mem_of_getElem? hdy
      obtain ⟨w', a', b', rfl, hw', ha', hb'⟩ := hcs dy hmem
      repeat walk_at "rd"
      refine ⟨v, y, ds, w', _, _, rfl, Dp.go g3.1 hd, (hy.kt g3.kt).dp, lv_succ l7, lv_str ha', lv_str hb', ?_⟩
      repeat walk_at "rd"
      rw [hdrop] at hb2
      refine r_if (fun c => ?_) (fun c => ?_)
      · repeat walk_at "rd"
        refine ⟨_, hDl3, ?_, acc ++ [i], g3.updNew hD hDl3, ?_, ?_, ?_⟩
        · rw [List.length_map, sizeLine_eq]
          omega
        · rw [upd_same, List.map_append]
          rfl
        · rw [List.length_append]
          show acc.length + 1 ≤ i + 1
          omega
        · rw [hb2]
          have e : brokenFrom ds i (.tuple [.str w', .str a', .str b'] :: cd.drop (i + 1)) = i :: brokenFrom ds (i + 1) (cd.drop (i + 1)) := if_pos c
          rw [e, List.append_assoc]
          rfl
      · refine ⟨acc, g3, hDl3, by omega, ?_⟩
        rw [hb2]
        have e : brokenFrom ds i (.tuple [.str w', .str a', .str b'] :: cd.drop (i + 1)) = brokenFrom ds (i + 1) (cd.drop (i + 1)) := if_neg (by rw [show brk ds (.tuple [.str w', .str a', .str b']) = false from c]; decide)
        rw [e]
    · rintro D H' hD ⟨acc, g, hDl, _, hb2⟩
      have e : brokenFrom ds xs.length (cd.drop xs.length) = [] := by
        rw [hlx, List.drop_length]
        rfl
      rw [e, List.append_nil] at hb2
      exact q H' D g hD (by rw [hb2]; exact hDl)
end
section
variable {P : Program} {w : World} {K : PySem.W.Frag} {mg : Str → Option Value} {base : Heap} {G : List Addr} {L : List (Addr × Str)}
end
section
variable {P : Program} {w : World} {K : PySem.W.Frag} {mg : Str → Option Value} {base : Heap} {G : List Addr} {L : List (Addr × Str)}
def isWord (w : Str) : Prop := w = "needs" ∨ w = "excludes" ∨ w = "either"
end
section
variable {P : Program} {w : World} {K : PySem.W.Frag} {mg : Str → Option Value} {base : Heap} {G : List Addr} {L : List (Addr × Str)}
theorem Row.lst {H : Hp} {r : Rid} (h : Row K H r) : ∃ xs, H r.r = some (.lst xs) := by
  obtain ⟨_, _, _, _, _, h, _⟩ := h
  exact ⟨_, h⟩
theorem Row.kt {H H' : Hp} {r : Rid} (h : Row K H r) (g : GoR G L r.r H H') : KT H H' := by
  obtain ⟨_, h⟩ := h.lst
  exact g.kt h
theorem Row.ev {H H' : Hp} {r : Rid} (h : Row K H r) (g : Ev r.r H H') (hr : ∀ o, H r.r = some o → H' r.r = some o) : Row K H' r := by
  obtain ⟨i, s, l, sc, hn, h, hi⟩ := h
  exact .mk' sc hn g (hr _ h) hi
/-- the script of h0, the counts of h -/
theorem Row.re {H0 H H' : Hp} {r : Rid} (h0 : Row K H0 r) (h : Row K H r) (g : Ev r.r H0 H') (hr : H' r.r = H r.r) : Row K H' r := by
  obtain ⟨_, _, _, sc, hn, _, _⟩ := h0
  obtain ⟨i, s, l, _, _, e, hi⟩ := h
  exact .mk' sc hn g (hr.trans e) hi
theorem Row.go {H H' : Hp} {r : Rid} (h : Row K H r) (g : Go G L H H') : Row K H' r :=
  h.ev (ev_of g.1) fun o e => g.1 r.r o e (by
    obtain ⟨xs, z⟩ := h.lst
    rw [z] at e
    cases e
    intro ps q
    cases q)
/-- a call of _law_taken -/
theorem r_taken {H : Hp} {Q : VK} {r : Rid} {m : Int} {E : XK} (hR : Row K H r) (m0 : 0 < m) (m1 : m < 1000000) (q : ∀ (v : Nat) (H' : Hp), (v : Int) < m → GoR G L r.r H H' → Row K H' r → Q (.int (v : Nat)) H') : spTaken K G L ([.ref r.r, .int m] ++ []) H Q E := by
  refine ⟨r, m, rfl, hR, m0, m1, fun v H' h0 h1 g hR' => ?_⟩
  obtain ⟨n, rfl⟩ := Int.eq_ofNat_of_zero_le h0
  exact q n H' h1 g hR'
/-- a clause of the names -/
def ClD (ns : List Str) (d : PyData) : Prop := ∃ w a b, d = .tuple [.str w, .str a, .str b] ∧ isWord w ∧ a ∈ ns ∧ b ∈ ns
end
section
variable {P : Program} {w : World} {K : PySem.W.Frag} {mg : Str → Option Value} {base : Heap} {G : List Addr} {L : List (Addr × Str)}
theorem u64 {k : Nat} {A : Around} (r : Room k A) : A.units + 64 < cLine := by
  have z := r.un
  omega
theorem lv_lst {n : Nat} {ds : List PyData} (h : ∀ d ∈ ds, lv n d = true) : lv (n + 1) (.list ds) = true := by
  have h' : ds.all (lv n) = true := List.all_eq_true.mpr h
  simpa only [lv] using h'
theorem r_neD {H : Hp} {Q : VK} {x y : V} {d e : PyData} (h1 : Dp K H x d) (h2 : Dp K H y e) (s1 : lv 8 d = true) (s2 : lv 8 e = true) (q : Q (.bl (!PyData.eqv d e)) H) : rNeD K x y H Q := ⟨d, e, h1, h2, shaped_of s1, shaped_of s2, q⟩
theorem r_eqD {H : Hp} {Q : VK} {x y : V} {d e : PyData} (h1 : Dp K H x d) (h2 : Dp K H y e) (s1 : lv 8 d = true) (s2 : lv 8 e = true) (q : Q (.bl (PyData.eqv d e)) H) : rEqD K x y H Q := ⟨d, e, h1, h2, shaped_of s1, shaped_of s2, q⟩
theorem seqIx {n j : Nat} (h : j < n) : seqIndex? (j : Int) n = some j := by
  have z := (ixN_seq (n := n) (i := (j : Int)) (j := j) (by unfold ixN; rw [if_pos (by omega), if_pos (by omega)]; rfl)).1
  exact z
theorem r_append {H : Hp} {Q : VK} {p : Addr} {xs : List V} {y : V} (hp : H p = some (.lst xs)) (hl : xs.length ≤ 5000) (q : Q .non (upd H p (.lst (xs ++ [y])))) : rAppend (.ref p) [y] H Q :=
  ⟨p, xs, y, rfl, rfl, hp, Nat.lt_of_le_of_lt hl (by decide), q⟩
/-- new, or a table -/
def Nw (H : Hp) (D : Addr) : Prop := ∀ o, (∀ ps, o ≠ .tbl ps) → H D ≠ some o
theorem Nw.of {H : Hp} {D : Addr} (n : H D = none) : Nw H D := fun o _ e => by rw [n] at e; cases e
theorem Nw.lst {H : Hp} {D b : Addr} {xs : List V} (n : Nw H D) (h : H b = some (.lst xs)) : D ≠ b := fun e => by
  subst e
  exact n _ (fun ps z => by cases z) h
theorem GoR.updNw {H H' : Hp} {r D : Addr} {xs ys : List V} (g : GoR G L r H H') (n : Nw H D) (h : H' D = some (.lst xs)) : GoR G L r H (L2.upd H' D (.lst ys)) :=
  ⟨fun b o nr nt e => by rw [upd_ne (fun z => by subst z; exact n o nt e)]; exact g.1 b o nr nt e, fun t => (GoR.upd (G := G) (L := L) h).2 (g.2 t)⟩
end
section
variable {P : Program} {w : World} {K : PySem.W.Frag} {mg : Str → Option Value} {base : Heap} {G : List Addr} {L : List (Addr × Str)}
theorem r_tupL2 {H : Hp} {Q : VK} {p : Addr} {ys : List V} (h : H p = some (.lst ys)) (q : ∀ l H', (∀ b o, H b = some o → H' b = some o) → NT H' l ys → Q (.ref l) H') : cTup K [.ref p] H Q :=
  r_tupL (.of h) fun l o hl h1 h2 => q l _ (fun b ob e => by rw [upd_ne (ne_of_none e hl)]; exact e) (.of h1 h2)
end
section
variable {P : Program} {w : World} {K : PySem.W.Frag} {mg : Str → Option Value} {base : Heap} {G : List Addr} {L : List (Addr × Str)}
/-- range(e): the number comes with its own heap -/
theorem lcRg {σ : L2.St} {H : Hp} {Q : VK} {te : TE} {g : TG} {tt : TT} {el : TE} {vs : List Nat} (good : Nat → Hp → Prop) (he : ∀ R : VK, (∀ n H0, good n H0 → R (.int (n : Nat)) H0) → te σ H R)
    (body : ∀ n H0, good n H0 → n < 1000000 ∧ ∃ Pv : Addr → Nat → Hp → Prop, (∀ D, H0 D = none → Pv D 0 (upd H0 D (.lst []))) ∧
      (∀ D i H1, H0 D = none → i < n → Pv D i H1 → g (.int (i : Nat)) (wipe σ vs) H1 fun σ2 H2 => wipe σ2 vs = wipe σ vs ∧ tt σ2 H2 fun b H3 =>
        if b = true then el σ2 H3 fun y H4 => ∃ acc, H4 D = some (.lst acc) ∧ acc.length < sizeLine ∧ Pv D (i + 1) (upd H4 D (.lst (acc ++ [y]))) else Pv D (i + 1) H3) ∧ (∀ D H', H0 D = none → Pv D n H' → Q (.ref D) H')) : tLc (iRng1 (tCons te tNil)) g tt el vs σ H Q := by
  refine he _ fun n H0 hg => ?_
  obtain ⟨hn, Pv, h0, hs, hd⟩ := body n H0 hg
  have z := lcR (σ := σ) (te := fun _ _ R => R (.int (n : Nat)) H0) (H := H) (g := g) (tt := tt) (el := el) (vs := vs) (n := n) (H0 := H0) (Q := Q) (fun _ z => z) hn Pv h0 hs hd
  exact z
theorem forRg {σ : L2.St} {H : Hp} {D : Ends} {te : TE} {g : TG} {tb : TS} (good : Nat → Hp → Prop) (he : ∀ R : VK, (∀ n H0, good n H0 → R (.int (n : Nat)) H0) → te σ H R)
    (body : ∀ n H0, good n H0 → n < 1000000 ∧ ∃ Pv : Nat → L2.St → Hp → Prop, Pv 0 σ H0 ∧
      (∀ i σ H, i < n → Pv i σ H → g (.int (i : Nat)) σ H fun σ2 H2 => tb { D with nx := Pv (i + 1), ct := Pv (i + 1), bk := D.nx } σ2 H2) ∧ (∀ σ H, Pv n σ H → D.nx σ H)) : tFor (iRng1 (tCons te tNil)) g tb D σ H := by
  refine he _ fun n H0 hg => ?_
  obtain ⟨hn, Pv, h0, hs, hd⟩ := body n H0 hg
  have z := forR (σ := σ) (te := fun _ _ R => R (.int (n : Nat)) H0) (H := H) (D := D) (g := g) (tb := tb) (n := n) (H0 := H0) (fun _ z => z) hn Pv h0 hs hd
  exact z
theorem r_yes {σ : L2.St} {H : Hp} {A B : Hp → Prop} (h : A H) : tYes σ H (fun b H3 => if b = true then A H3 else B H3) := by
  show (if true = true then A H else B H)
  rw [if_pos rfl]
  exact h
theorem r_cat {H : Hp} {Q : VK} {a b : Addr} {xs ys : List V} (h1 : H a = some (.lst xs)) (h2 : H b = some (.lst ys)) (hl : xs.length + ys.length ≤ 5000) (q : ∀ p H', (∀ b o, H b = some o → H' b = some o) → H p = none → H' p = some (.lst (xs ++ ys)) → Q (.ref p) H') : rCat (.ref a) (.ref b) H Q :=
  ⟨a, b, xs, ys, rfl, rfl, h1, h2, Nat.le_trans hl (by decide), fun p hp => q p _ (fun b o e => by rw [upd_ne (ne_of_none e hp)]; exact e) hp upd_same⟩
end
section
variable {P : Program} {w : World} {K : PySem.W.Frag} {mg : Str → Option Value} {base : Heap} {G : List Addr} {L : List (Addr × Str)}
def isSeq (n : String) : Bool := n == "tuple" || n == "list"
/-- of lengths up to 100, to the depth n -/
def ln : Nat → PyData → Bool
  | n + 1, .tuple ds => decide (ds.length ≤ 2000) && ds.all (ln n)
  | n + 1, .list ds => decide (ds.length ≤ 2000) && ds.all (ln n)
  | _, .dict _ => false
  | 0, .tuple _ => false
  | 0, .list _ => false
  | _, .str z => PyData.strOk z
  | _, .none => true
  | _, .bool _ => true
  | _, .int _ => true
theorem ln_lv : ∀ (n : Nat) (d : PyData), ln n d = true → lv n d = true
  | n, .none, _ => by simp [lv]
  | n, .bool _, _ => by simp [lv]
  | n, .int _, _ => by simp [lv]
  | n, .str z, h => by cases n <;> simpa [lv, ln] using h
  | n + 1, .tuple ds, h => by
    have h' : ds.length ≤ 2000 ∧ ∀ d ∈ ds, ln n d = true := by simpa [ln] using h
    exact lv_tup fun d hd => ln_lv n d (h'.2 d hd)
  | n + 1, .list ds, h => by
    have h' : ds.length ≤ 2000 ∧ ∀ d ∈ ds, ln n d = true := by simpa [ln] using h
    exact lv_lst fun d hd => ln_lv n d (h'.2 d hd)
  | 0, .tuple ds, h => by simp [ln] at h
  | 0, .list ds, h => by simp [ln] at h
  | 0, .dict ds, h => by simp [ln] at h
  | n + 1, .dict ds, h => by simp [ln] at h
theorem ln_seq {n : Nat} {d : PyData} (h : ln n d = true) (hs : isSeq (tyOf d) = true) : ∃ m ds, n = m + 1 ∧ (d = .tuple ds ∨ d = .list ds) ∧ ds.length ≤ 2000 ∧ ∀ d ∈ ds, ln m d = true := by
  cases n with
  | zero => cases d <;> first | (simp [ln] at h; done) | (simp [isSeq, tyOf] at hs; done)
  | succ m =>
    cases d with
    | tuple ds =>
      have h' : ds.length ≤ 2000 ∧ ∀ d ∈ ds, ln m d = true := by simpa [ln] using h
      exact ⟨m, ds, rfl, .inl rfl, h'.1, h'.2⟩
    | list ds =>
      have h' : ds.length ≤ 2000 ∧ ∀ d ∈ ds, ln m d = true := by simpa [ln] using h
      exact ⟨m, ds, rfl, .inr rfl, h'.1, h'.2⟩
    | _ => simp [isSeq, tyOf] at hs
/-- two alike pieces of data, at most n - 1 deep -/
def spAlike (K : PySem.W.Frag) (G : List Addr) (L : List (Addr × Str)) (n : Nat) : Sp := fun vs H Q _ => ∃ x y d m, n = m + 1 ∧ vs = [x, y] ∧ Dp K H x d ∧ Dp K H y d ∧ ln m d = true ∧ m ≤ 7 ∧ ∀ H', Go G L H H' → Q (.bl true) H'
theorem dp_seq {H : Hp} {v : V} {d : PyData} {ds : List PyData} (h : Dp K H v d) (e : d = .tuple ds ∨ d = .list ds) : ∃ p xs, v = .ref p ∧ (SqL K H p xs ∨ SqT K H p xs) ∧ DpAll K H xs ds := by
  rcases e with rfl | rfl
  · cases h with
    | tup h1 h2 => exact ⟨_, _, rfl, .inr h1, h2⟩
  · cases h with
    | lst h1 h2 => exact ⟨_, _, rfl, .inl h1, h2⟩
theorem sq_go {H H' : Hp} {p : Addr} {xs : List V} (h : SqL K H p xs ∨ SqT K H p xs) (e : LamX.ExtN H H') : SqL K H' p xs ∨ SqT K H' p xs := by
  rcases h with h | h
  · refine .inl ?_
    rcases h with (h | ⟨o, h⟩) | h
    · exact .inl (.inl (e _ _ h fun _ z => by cases z))
    · exact .inl (.inr ⟨o, e _ _ h fun _ z => by cases z⟩)
    · exact .inr h
  · exact .inr (sqT_go h e)
end
section
variable {K : PySem.W.Frag} {G : List Addr} {L : List (Addr × Str)}
theorem Told.kt {cls : Value} {d : Option Addr} {H H' : Hp} {D : PyData} (h : Told K cls d H D) (k : KT H H') : Told K cls d H' D := by
  rcases h with ⟨a, p, i, e1, e2, e3, e4⟩ | ⟨a, i, e1, e2, e3, e4⟩ | ⟨e1, e2, e3⟩ | ⟨e1, e2, e3⟩ | ⟨e1, e2, e3⟩ | ⟨a, i, e1, e2, e3, e4⟩ | ⟨a, i, j, e1, e2, e3, e4⟩ | ⟨a, v, e, e1, e2, e3, e4, e5⟩ | ⟨a, v, e, e1, e2, e3, e4, e5⟩
  · exact .inl ⟨a, p, i, e1, e2, k a _ (fun _ z => by cases z) (fun _ z => by cases z) e3, e4⟩
  · exact .inr (.inl ⟨a, i, e1, e2, k a _ (fun _ z => by cases z) (fun _ z => by cases z) e3, e4⟩)
  · exact .inr (.inr (.inl ⟨e1, e2, e3⟩))
  · exact .inr (.inr (.inr (.inl ⟨e1, e2, e3⟩)))
  · exact .inr (.inr (.inr (.inr (.inl ⟨e1, e2, e3⟩))))
  · subst e1 e2 e4
    exact .ill (k a _ (fun _ z => by cases z) (fun _ z => by cases z) e3)
  · subst e1 e2 e4
    exact .step (k a _ (fun _ z => by cases z) (fun _ z => by cases z) e3)
  · subst e1 e2 e5
    exact .switch (k a _ (fun _ z => by cases z) (fun _ z => by cases z) e3) (e4.kt k)
  · subst e1 e2 e5
    exact .noway (k a _ (fun _ z => by cases z) (fun _ z => by cases z) e3) (e4.kt k)
/-- isinstance(e, c) -/
def rIsG (K : PySem.W.Frag) (cls : Value) (d : Option Addr) (a : Addr) : List V → Hp → VK → Prop := fun xs H Q => ∃ D, cls = .ref D ∧ ExcC K D ∧ rIsE K D a xs H Q ∧ (d = none ∨ ∃ dd fs, d = some dd ∧ H dd = some (.xd fs))
theorem call_isG {X : Cx} {a : Addr} {cls : Value} {d : Option Addr} {oe : Obj} {pn : List (Addr × Obj)} (hz : Zc cls d oe) (hf : ∃ vs, oe.data = .fields vs) : CallR (X.suite a ((a, oe) :: pn)) (.builtin "isinstance") (rIsG X.K cls d a) := by
  intro pins s σ H xs us Q I r h
  obtain ⟨D, rfl, C, h1, h2⟩ := h
  rcases h2 with rfl | ⟨dd, fs, rfl, h2⟩
  · exact call_isE C hz hf pins s σ H xs us Q I r h1
  · exact call_isD C hz hf pins s σ H xs us Q I r ⟨h1, fs, h2⟩
/-- e.f -/
def tXfG (K : PySem.W.Frag) (a : Addr) (cls : Value) (d : Option Addr) (f : Str) (te : TE) : TE := fun σ H Q => ∃ C, XfC K C ∧ PySem.W.findIn K (.ref C) f = some none ∧ tXf a cls d C f te σ H Q
theorem pe_xfG {X : Cx} {a : Addr} {oe : Obj} {cls : Value} {d : Option Addr} {pn : List (Addr × Obj)} {e : Expr} {te : TE} {pos : Pos} {n : Str}
    (hz : Zc cls d oe) (hf : ∃ vs, oe.data = .fields vs) (he : PE (X.suite a ((a, oe) :: pn)) e te) (hb : attributeBase e n X.env (eval e X.env) = eval e X.env := by rfl) :
    PE (X.suite a ((a, oe) :: pn)) (.Attribute e n pos) (tXfG X.K a cls d n te) :=
  ⟨fun pins s σ H Q I ⟨_, T, hno, h⟩ => (pe_xf T hno hz hf he hb).run pins s σ H Q I h⟩
theorem r_xf {σ : L2.St} {H : Hp} {Q : VK} {a dd C : Addr} {f : Str} {te : TE} {fs : List (Str × V)} {v : V} (T : XfC K C) (n : PySem.W.findIn K (.ref C) f = some none) (he : ∀ R : VK, R (.ref a) H → te σ H R) (hd : H dd = some (.xd fs)) (hl : fs.lookup f = some v) (q : Q v H) : tXfG K a (.ref C) (some dd) f te σ H Q :=
  ⟨C, T, n, he _ ⟨rfl, rfl, dd, fs, v, rfl, hd, hl, q⟩⟩
/-- a list's method, in a suite -/
theorem pe_bmU {X : Cx} {a : Addr} {pn : List (Addr × Obj)} {o e : Expr} {es : List Expr} {to : TE} {t : TA} {name : Str} {apos cpos : Pos} {id : String} {r : V → List V → Hp → VK → Prop} (pa : PlainAttrs "list") (slot : Slot "list" name id) (hty : typeOf (.builtin id) = pure (.type "method_descriptor")) (hm : MtR (X.suite a pn) id r) (ho : PE (X.suite a pn) o to) (ha : PA (X.suite a pn) (e :: es) t)
    (hbase : attributeBase o name (X.suite a pn).env (eval o (X.suite a pn).env) = eval o (X.suite a pn).env := by rfl)
    (hfew : ((backTo cpos (starEach (e :: es) (X.suite a pn).env)).all (fun x => !x.1) && (backToKw cpos (keywordEach [] (X.suite a pn).env)).all (fun x => x.1.isSome)
      && decide ((e :: es).length + ([] : List Keyword).length + (if ([] : List Keyword).isEmpty then 0 else 1) < 30)) = true := by rfl)
    (hline : (apos.endLine == cpos.line) = true := by rfl) (hs : starEach (e :: es) (X.suite a pn).env = (false, eval e (X.suite a pn).env) :: starEach es (X.suite a pn).env := by rfl) (hplain : (backTo cpos (starEach es (X.suite a pn).env)).any (·.1) = false := by rfl) :
    PE (X.suite a pn) (.Call (.Attribute o name apos) (e :: es) [] cpos) (tBM X.K "list" r to t) := pe_bm (X := X.suite a pn) pa slot hty hm ho ha hbase hfew hline hs hplain
/-- as many slots as names -/
def tLen (n : Nat) (t : TS) : TS := fun D σ H => σ.length = n → t D σ H
theorem pss_len {X : Cx} {b : List Stmt} {t : TS} {n : Nat} (hn : X.N.length = n) (h : PSs X b t) : PSs X b (tLen n t) := ⟨fun pins s σ H D I q => h.run pins s σ H D I (q (I.len.trans hn))⟩
end
theorem passN {X : Cx} : Passes (L2.CX X.prog X.w) X E0 := fun _ _ _ _ _ _ _ h => by
  obtain ⟨_, _, _, _, _, _, _, _, _, _, _, _, h⟩ := h
  exact h.elim
section
variable {P : Program} {w : World} {K : PySem.W.Frag} {mg : Str → Option Value} {base : Heap} {G : List Addr} {L : List (Addr × Str)}
theorem eqv_same {n : Nat} {d : PyData} (h : lv n d = true) : PyData.eqv d d = true := PySem.SeqAt.eqv_refl d (lv_ok n d h).1
end
def smS : PyData → Bool
  | .str z => decide (z.length ≤ 100)
  | _ => true
def okNb (ds : List PyData) : Bool := decide (ds.length ≤ 60) && (ds.all (lv 6) && ds.all smS)
theorem okN_of {ds : List PyData} (h : okNb ds = true) : okN (.tuple ds) := by
  unfold okNb at h
  rw [Bool.and_eq_true, Bool.and_eq_true, List.all_eq_true, List.all_eq_true] at h
  obtain ⟨h1, h2, h3⟩ := h
  refine ⟨lv_tup h2, fun es e => ?_⟩
  cases e
  refine ⟨of_decide_eq_true h1, fun x hx => ?_⟩
  have h4 := h3 x hx
  cases x with
  | str z => exact Nat.le_trans (of_decide_eq_true h4) (by decide)
  | _ => trivial
theorem ClD.ok {ns : List Str} {d : PyData} (h : ClD ns d) : clauseOk (ns.map PyData.str) d = true := by
  obtain ⟨w, a, b, rfl, hw, ha, hb⟩ := h
  show (inD (.str w) ((["needs", "excludes", "either"] : List Str).map PyData.str) && inD (.str a) (ns.map PyData.str) && inD (.str b) (ns.map PyData.str)) = true
  rw [inD_strs, inD_strs, inD_strs, decide_eq_true ha, decide_eq_true hb]
  have e : w ∈ (["needs", "excludes", "either"] : List Str) := by
    rcases hw with rfl | rfl | rfl <;> decide
  rw [decide_eq_true e]
  rfl
section
variable {P : Program} {w : World} {K : PySem.W.Frag} {mg : Str → Option Value} {base : Heap} {G : List Addr} {L : List (Addr × Str)}
def lamQ (x : Str) : Str := x ++ ".<locals>." ++ "<lambda>"
section
variable {X : Cx} {A : Around} {outer : List Env} {s : Shared} {H : Hp} {E : XK} {sc : Scope} {fL c' : Addr} {j : Nat} {e : Expr} {es : List Expr} {t : TA}
end
theorem Nw.backG {H H' : Hp} {D : Addr} (g : Go G L H H') (n : Nw H' D) : Nw H D := fun o h e => n o h (g.1 D o e h)
theorem Go.updNw {H H' : Hp} {D : Addr} {xs ys : List V} (g : Go G L H H') (n : Nw H D) (h : H' D = some (.lst xs)) : Go G L H (L2.upd H' D (.lst ys)) :=
  ⟨fun b o e nt => by rw [upd_ne (fun z => by subst z; exact n o nt e)]; exact g.1 b o e nt, fun t => (GoR.upd (G := G) (L := L) h).2 (g.2 t)⟩
def Case (K : PySem.W.Frag) (H : Hp) (p : Addr) (v : V) : Prop := ∃ (a : Addr) (s m : V) (part : Str) (i : Nat) (dn dc : PyData), v = .ref a ∧ (part = "names" ∨ part = "clauses") ∧ okN dn ∧ okC dc ∧ rulesBad dn dc = some (rulesE part i) ∧
  ∀ H', Ev p H H' → H' a = some (.tup [s, m, .str part, .int (i : Nat)]) ∧ Dp K H' s dn ∧ Dp K H' m dc
theorem Case.ev {H H1 : Hp} {p : Addr} {v : V} (h : Case K H p v) (e : Ev p H H1) : Case K H1 p v := by
  obtain ⟨a, s, m, part, i, dn, dc, h1, h2, h3, h4, h5, h6⟩ := h
  exact ⟨a, s, m, part, i, dn, dc, h1, h2, h3, h4, h5, fun H' e' => h6 H' (e.trans e')⟩
/-- made before the list -/
theorem Case.old {H H1 : Hp} {p a : Addr} {s m : V} {part : Str} {i : Nat} {dn dc : PyData} (np : H p = none) (e : ∀ b o, H b = some o → H1 b = some o) (ha : H a = some (.tup [s, m, .str part, .int (i : Nat)])) (hs : Dp K H s dn) (hm : Dp K H m dc) (hp : part = "names" ∨ part = "clauses") (on : okN dn) (oc : okC dc) (hb : rulesBad dn dc = some (rulesE part i)) : Case K H1 p (.ref a) :=
  ⟨a, s, m, part, i, dn, dc, rfl, hp, on, oc, hb, fun H' e' => by
    have x : LamX.ExtN H H' := fun b o eb nt => e' b o (ne_of_none eb np) nt (e b o eb)
    exact ⟨x a _ ha fun ps z => (by cases z), Dp.go x hs, Dp.go x hm⟩⟩
/-- made while the list stands -/
theorem Case.im {H : Hp} {p a : Addr} {xs : List V} {s m : V} {part : Str} {i : Nat} {dn dc : PyData} (hp : H p = some (.lst xs)) (ha : H a = some (.tup [s, m, .str part, .int (i : Nat)])) (hs : Im H s dn) (hm : ∀ H', Ev p H H' → Dp K H' m dc) (hpt : part = "names" ∨ part = "clauses") (on : okN dn) (oc : okC dc) (hb : rulesBad dn dc = some (rulesE part i)) : Case K H p (.ref a) :=
  ⟨a, s, m, part, i, dn, dc, rfl, hpt, on, oc, hb, fun H' e' => ⟨e' a _ (fun z => by subst z; rw [hp] at ha; cases ha) (fun ps z => by cases z) ha, (hs.kt (e'.kt hp)).dp, hm H' e'⟩⟩
theorem dps_app {H : Hp} : ∀ {vs ws : List V} {ds es : List PyData}, DpAll K H vs ds → DpAll K H ws es → DpAll K H (vs ++ ws) (ds ++ es)
  | _, _, _, _, .nil, s => s
  | _, _, _, _, .cons h t, s => .cons h (dps_app t s)
theorem keep_new {H : Hp} {p : Addr} {o : HO} (hp : H p = none) : ∀ b ob, H b = some ob → upd H p o b = some ob := fun b ob e => by rw [upd_ne (ne_of_none e hp)]; exact e
theorem new_facts {H H' : Hp} {p : Addr} {o : HO} (h : upd H p o = H') (hp : H p = none) : (∀ b ob, H b = some ob → H' b = some ob) ∧ H' p = some o := by
  subst h
  exact ⟨keep_new hp, upd_same⟩
theorem forTg {σ : L2.St} {H : Hp} {D : Ends} {te : TE} {g : TG} {tb : TS} (good : Addr → Hp → Prop) (he : ∀ R : VK, (∀ a H0, good a H0 → R (.ref a) H0) → te σ H R)
    (body : ∀ a H0, good a H0 → ∃ xs, SqT K H0 a xs ∧ ∃ Pv : Nat → L2.St → Hp → Prop, Pv 0 σ H0 ∧ (∀ i σ H, i ≤ xs.length → Pv i σ H → SqT K H a xs) ∧
      (∀ i x σ H, xs[i]? = some x → Pv i σ H → g x σ H fun σ2 H2 => tb { D with nx := Pv (i + 1), ct := Pv (i + 1), bk := D.nx } σ2 H2) ∧ (∀ σ H, Pv xs.length σ H → D.nx σ H)) : tFor (iTup K te) g tb D σ H := by
  refine he _ fun a H0 hg => ?_
  obtain ⟨xs, hq, Pv, h0, hG, hs, hd⟩ := body a H0 hg
  have z := forT (σ := σ) (te := fun _ _ R => R (.ref a) H0) (H := H0) (D := D) (g := g) (tb := tb) (fun _ z => z) hq Pv h0 hG hs hd
  exact z
theorem forLg {σ : L2.St} {H : Hp} {D : Ends} {te : TE} {g : TG} {tb : TS} (good : Addr → Hp → Prop) (he : ∀ R : VK, (∀ a H0, good a H0 → R (.ref a) H0) → te σ H R)
    (body : ∀ a H0, good a H0 → ∃ xs, SqL K H0 a xs ∧ ∃ Pv : Nat → L2.St → Hp → Prop, Pv 0 σ H0 ∧ (∀ i σ H, i ≤ xs.length → Pv i σ H → SqL K H a xs) ∧
      (∀ i x σ H, xs[i]? = some x → Pv i σ H → g x σ H fun σ2 H2 => tb { D with nx := Pv (i + 1), ct := Pv (i + 1), bk := D.nx } σ2 H2) ∧ (∀ σ H, Pv xs.length σ H → D.nx σ H)) : tFor (iList K te) g tb D σ H := by
  refine he _ fun a H0 hg => ?_
  obtain ⟨xs, hq, Pv, h0, hG, hs, hd⟩ := body a H0 hg
  have z := forL (σ := σ) (te := fun _ _ R => R (.ref a) H0) (H := H0) (D := D) (g := g) (tb := tb) (fun _ z => z) hq Pv h0 hG hs hd
  exact z
abbrev Kp (H H' : Hp) : Prop := ∀ b ob, H b = some ob → H' b = some ob
theorem kp_t {H H1 H2 : Hp} (a : Kp H H1) (b : Kp H1 H2) : Kp H H2 := fun c o e => b c o (a c o e)
theorem kp_kt {H H' : Hp} (a : Kp H H') : KT H H' := fun b o _ _ e => a b o e
theorem kp_ev {H H' : Hp} {r : Addr} (a : Kp H H') : Ev r H H' := fun b o _ _ e => a b o e
theorem r_un {r : V → Hp → VK → Prop} {ta : TE} {σ : L2.St} {H : Hp} {Q : VK} (h : ta σ H fun x H1 => r x H1 Q) : tUn r ta σ H Q := h
end
theorem sub_find {z : Str} {xs : List Str} : ∀ {l : List Str}, (z :: xs).Sublist l → z ∈ l ∧ xs.Sublist (l.drop (l.idxOf z + 1)) := by
  intro l
  induction l with
  | nil => intro h; cases h
  | cons y l ih =>
    intro h
    by_cases e : y = z
    · subst e
      refine ⟨List.mem_cons_self, ?_⟩
      have e0 : (y :: l).idxOf y = 0 := by simp
      rw [e0]
      show xs.Sublist l
      cases h with
      | cons _ h => exact (List.sublist_cons_self y xs).trans h
      | cons_cons _ h => exact h
    · have h' : (z :: xs).Sublist l := by
        cases h with
        | cons _ h => exact h
        | cons_cons _ h => exact absurd rfl e
      obtain ⟨a, b⟩ := ih h'
      refine ⟨List.mem_cons_of_mem _ a, ?_⟩
      have e0 : (y :: l).idxOf z = l.idxOf z + 1 := by
        rw [List.idxOf_cons]
        have hb : (y == z) = false := by simpa using e
        rw [hb]
        rfl
      rw [e0]
      exact b
theorem idx_gone {z : Str} : ∀ {l : List Str}, l.Nodup → z ∉ l.drop (l.idxOf z + 1) := by
  intro l
  induction l with
  | nil => intro _ h; cases h
  | cons y l ih =>
    intro hn
    rw [List.nodup_cons] at hn
    by_cases e : y = z
    · subst e
      have e0 : (y :: l).idxOf y = 0 := by simp
      rw [e0]
      exact hn.1
    · have e0 : (y :: l).idxOf z = l.idxOf z + 1 := by
        rw [List.idxOf_cons]
        have hb : (y == z) = false := by simpa using e
        rw [hb]
        rfl
      rw [e0]
      exact ih hn.2
theorem scan_sub : ∀ (xs later : List Str) (i : Nat), xs.Sublist later → ∃ later', (∀ z ∈ later', z ∈ later) ∧ (later.Nodup → ∀ z ∈ xs, z ∉ later') ∧ ∀ ds, scanS later i (xs.map PyData.str ++ ds) = scanS later' (i + xs.length) ds
  | [], later, i, _ => ⟨later, fun z h => h, fun _ z h => (by cases h), fun ds => rfl⟩
  | z :: xs, later, i, h => by
    obtain ⟨h1, h2⟩ := sub_find h
    obtain ⟨l', a, b, c⟩ := scan_sub xs _ (i + 1) h2
    refine ⟨l', fun y hy => List.mem_of_mem_drop (a y hy), fun hn y hy => ?_, fun ds => ?_⟩
    · rcases List.mem_cons.mp hy with e | e
      · subst e
        exact fun z => idx_gone hn (a _ z)
      · exact b (hn.sublist (List.drop_sublist _ _)) y e
    · show (if z ∈ later then scanS (later.drop (later.idxOf z + 1)) (i + 1) (xs.map PyData.str ++ ds) else some i) = _
      rw [if_pos h1, c ds, List.length_cons]
      congr 1
      omega
section
variable {ns ss : List Str}
theorem st_none (h : ss.Sublist ns) : stateBad ns (.tuple (ss.map PyData.str)) = none := by
  obtain ⟨l', _, _, c⟩ := scan_sub ss ns 0 h
  show scanS ns 0 (ss.map PyData.str) = none
  have z := c []
  rw [List.append_nil] at z
  rw [z]
  rfl
end
section
variable {P : Program} {w : World} {K : PySem.W.Frag} {mg : Str → Option Value} {base : Heap} {G : List Addr} {L : List (Addr × Str)}
theorem cut_to1 {xs : List V} : cutV xs none (some 1) = xs.take 1 := by
  cases xs with
  | nil => rfl
  | cons x xs => exact cut_to (k := 1) (by simp)
def invD (i : Nat) : PyData := .tuple [.str "invalid", .int (i : Nat)]
/-- told != ("invalid", i) -/
theorem r_neI {H : Hp} {Q : VK} {v w : V} {D : PyData} (h1 : Dp K H v D) (h2 : Dp K H w D) (l : lv 8 D = true) (q : Q (.bl false) H) : rNeD K v w H Q := r_neD h1 h2 l l (by rw [eqv_same l]; exact q)
end
section
variable {P : Program} {w : World} {K : PySem.W.Frag} {mg : Str → Option Value} {base : Heap} {G : List Addr} {L : List (Addr × Str)}
theorem scr_of {H : Hp} {r a : Addr} {ns : List Int} (hr : H r = none) (h : SqL K H a (ns.map V.int)) : Scr K H r a ns := fun H' e => by
  rcases h with (h | ⟨ob, h⟩) | h
  · exact .inl (.inl (e a _ (ne_of_none h hr) (fun ps z => by cases z) h))
  · exact .inl (.inr ⟨ob, e a _ (ne_of_none h hr) (fun ps z => by cases z) h⟩)
  · exact .inr h
section
variable {X : Cx} {s0 : Shared} {H0 : Hp} {bs : Scope} {cl : List (Str × Addr)} {C0 : Addr} {fp : List Addr}
end
end
section
variable {P : Program} {w : World} {K : PySem.W.Frag} {mg : Str → Option Value} {base : Heap} {G : List Addr} {L : List (Addr × Str)}
/-- tuples of names -/
def StsAt (H : Hp) (xs : List V) (ss : List (List Str)) : Prop := Ims H xs (ss.map fun s => .tuple (s.map PyData.str))
theorem filter_take {α : Type} {p : α → Bool} {l : List α} {i : Nat} {x : α} (h : l[i]? = some x) : (l.take (i + 1)).filter p = if p x then (l.take i).filter p ++ [x] else (l.take i).filter p := by
  rw [List.take_succ, h]
  show List.filter p (l.take i ++ [x]) = _
  rw [List.filter_append, List.filter_cons, List.filter_nil]
  by_cases c : p x = true
  · rw [if_pos c, if_pos c]
  · rw [if_neg c, if_neg c, List.append_nil]
end
section
variable {P : Program} {w : World} {K : PySem.W.Frag} {mg : Str → Option Value} {base : Heap} {G : List Addr} {L : List (Addr × Str)}
end
section
variable {P : Program} {w : World} {K : PySem.W.Frag} {mg : Str → Option Value} {base : Heap} {G : List Addr} {L : List (Addr × Str)}
/-- turns of any kind: Pv by the turn and the heap -/
theorem it_gen {J : It} {n : Nat} {Gp : Hp → Prop} {Y : Nat → Hp → V → Hp → Prop} (w : Walk J n Gp Y) {H0 : Hp} (Pv : Nat → Hp → Prop) (B : (Hp → Prop) → V → Hp → Prop) {Qd : Hp → Prop} (h0 : Pv 0 H0) (hG : ∀ i H, i ≤ n → Pv i H → Gp H)
    (hs : ∀ i x H H', i < n → Pv i H → Y i H x H' → B (Pv (i + 1)) x H') (hd : ∀ H, Pv n H → Qd H) :
    ∃ W : Nat → Nat → Hp → Prop, (∃ m, W 0 m H0) ∧ ∀ i m H, W i m H →
      (J.stop i H ∧ Qd H) ∨ (J.go i H ∧ ∃ Nx : Hp → Prop, (∀ H', Nx H' → ∃ m', m' < m ∧ W (i + 1) m' H') ∧ ∀ x H', J.yld i H x H' → B Nx x H') := by
  refine ⟨fun i m H => m = n - i ∧ i ≤ n ∧ Pv i H, ⟨n, by simp, Nat.zero_le _, h0⟩, ?_⟩
  rintro i m H ⟨rfl, hi, p⟩
  have q := hG i H hi p
  by_cases hlt : i < n
  · exact .inr ⟨w.goes i H hlt q, Pv (i + 1), fun H' p' => ⟨n - (i + 1), by omega, rfl, hlt, p'⟩, fun x H' y => hs i x H H' hlt p (w.yields i H x H' hlt q y)⟩
  · have e : i = n := by omega
    subst e
    exact .inl ⟨w.stops H q, hd H p⟩
def lc2I (g1 : TG) (tt1 : TT) (te : TE) (vs1 : List Nat) (σ2 : L2.St) (D : Addr) (Nx1 : Hp → Prop) (x : V) (H' : Hp) : Prop := g1 x (wipe σ2 vs1) H' fun σ3 H5 => wipe σ3 vs1 = wipe σ2 vs1 ∧ tt1 σ3 H5 fun b H6 =>
  if b = true then te σ3 H6 fun y H7 => ∃ acc, H7 D = some (.lst acc) ∧ acc.length < sizeLine ∧ Nx1 (upd H7 D (.lst (acc ++ [y]))) else Nx1 H6
def lc2B (g : TG) (tt : TT) (wi1 : TI) (g1 : TG) (tt1 : TT) (te : TE) (vs vs1 : List Nat) (σ : L2.St) (D : Addr) (Nx : Hp → Prop) (x : V) (H' : Hp) : Prop := g x (wipe σ vs) H' fun σ2 H2 => wipe σ2 vs = wipe σ vs ∧ tt σ2 H2 fun b H3 =>
  if b = true then wi1 σ2 H3 fun J1 H4 => ∃ W1 : Nat → Nat → Hp → Prop, (∃ m, W1 0 m H4) ∧ ∀ j k H, W1 j k H →
    (J1.stop j H ∧ Nx H) ∨ (J1.go j H ∧ ∃ Nx1 : Hp → Prop, (∀ H', Nx1 H' → ∃ k', k' < k ∧ W1 (j + 1) k' H') ∧ ∀ x H', J1.yld j H x H' → lc2I g1 tt1 te vs1 σ2 D Nx1 x H')
  else Nx H3
theorem r_lc2 {wi wi1 : TI} {g g1 : TG} {tt tt1 : TT} {te : TE} {vs vs1 : List Nat} {σ : L2.St} {H : Hp} {Q : VK} (h : wi σ H fun J H1 => ∀ D, H1 D = none → ∃ W : Nat → Nat → Hp → Prop, (∃ m, W 0 m (upd H1 D (.lst []))) ∧ ∀ i m H, W i m H →
    (J.stop i H ∧ Q (.ref D) H) ∨ (J.go i H ∧ ∃ Nx : Hp → Prop, (∀ H', Nx H' → ∃ m', m' < m ∧ W (i + 1) m' H') ∧ ∀ x H', J.yld i H x H' → lc2B g tt wi1 g1 tt1 te vs vs1 σ D Nx x H')) : tLc2 wi g tt wi1 g1 tt1 te vs vs1 σ H Q := h
theorem r_rng1 {ta : TA} {σ : L2.St} {H : Hp} {R : It → Hp → Prop} (h : ta σ H fun vs H1 => ∃ j : Int, vs = [.int j] ∧ -(2 ^ 62) ≤ j ∧ j < 2 ^ 62 ∧ R (Itr 0 j.toNat) H1) : iRng1 ta σ H R := h
theorem r_icmb {ta : TA} {σ : L2.St} {H : Hp} {R : It → Hp → Prop} (h : ta σ H fun vs H1 => ∃ a xs r L, vs = [.ref a, .int (r : Nat)] ∧ SqL K H1 a xs ∧ r ≤ xs.length ∧ r ≤ 1000 ∧ CmbSeq xs.length r L ∧ R (ItCmb xs L) H1) : iCmb K ta σ H R := h
/-- the states of some places -/
def nmsOf (ns : List Str) (ix : List Nat) : List Str := ix.map fun i => ns.getD i ""
def allD (ns : List Str) : List (List Str) := (ordI ns.length).map (nmsOf ns)
theorem cmb_strs {ns : List Str} {ix : List Nat} (h : ∀ j ∈ ix, j < ns.length) : cmbTup (ns.map V.str) ix = (nmsOf ns ix).map V.str := by
  unfold cmbTup nmsOf
  rw [List.map_map]
  refine List.map_congr_left fun i hi => ?_
  have hl := h i hi
  simp [List.getD_eq_getElem?_getD, hl]
theorem nmsOf_sub {ns : List Str} {ix : List Nat} (h : ix.Sublist (List.range ns.length)) : (nmsOf ns ix).Sublist ns := by
  have z := h.map (fun i => ns.getD i "")
  have e : (List.range ns.length).map (fun i => ns.getD i "") = ns := by
    refine List.ext_getElem (by simp) fun i h1 h2 => ?_
    simp at h1
    simp [List.getD_eq_getElem?_getD, h1]
  rw [e] at z
  exact z
theorem allD_sub {ns : List Str} (hn : ns.length ≤ 10) {s : List Str} (hs : s ∈ allD ns) : s.Sublist ns := by
  obtain ⟨ix, hix, rfl⟩ := List.mem_map.mp hs
  exact nmsOf_sub (ordI_sub hn hix)
def spAllStates (K : PySem.W.Frag) (G : List Addr) (L : List (Addr × Str)) : Sp := fun vs H Q _ => ∃ (an : Addr) (ns : List Str), vs = [.ref an] ∧ Tp H an (ns.map V.str) ∧ ns.length ≤ 10 ∧ ∀ l H' xs, Go G L H H' → H' l = some (.lst xs) → StsAt H' xs (allD ns) → Q (.ref l) H'
theorem scAllStates : FnScope ["names", "switches", "size", "state"] ["names"] (defScope sAllStates) := C8.fnScope_by (by decide +kernel)
theorem StsAt.kt {H H' : Hp} {xs : List V} {ss : List (List Str)} (h : StsAt H xs ss) (k : KT H H') : StsAt H' xs ss := Ims.kt k h
theorem StsAt.snoc {H : Hp} {xs : List V} {ss : List (List Str)} {T : Addr} {s : List Str} (h : StsAt H xs ss) (ht : Tp H T (s.map V.str)) : StsAt H (xs ++ [.ref T]) (ss ++ [s]) := by
  unfold StsAt
  rw [List.map_append]
  exact h.app (.cons (.tup ht (ims_strs s)) .nil)
theorem ord_len : ∀ n < 11, (ordI n).length ≤ 2000 ∧ ∀ r < 11, r ≤ n → (((List.range r).flatMap (seqC n)).length + (seqC n r).length ≤ 2000) := by decide +kernel
theorem flat_succ {α : Type} (f : Nat → List α) (r : Nat) : (List.range (r + 1)).flatMap f = (List.range r).flatMap f ++ f r := by
  rw [List.range_succ, List.flatMap_append]
  simp
theorem ok_allStates {f : Addr} {fd : FuncData} (F : Fun K "all_states" "all_states" sAllStates f fd) (zl : mg "list" = none) (zR : mg "range" = none) (zL : mg "len" = none) (mC : mg "combinations" = some (.type "itertools.combinations")) : FnOk P w K mg base CX0 1 f fd ["names"] (spAllStates K G L) := by
  refine F.ok scAllStates (fun vs H Q E h => ?_) (fun cdv A outer s H vs Q E hr h => ?_)
  · obtain ⟨an, ns, e, _⟩ := h
    rw [e]
    rfl
  · obtain ⟨an, ns, e, hn, hlen, q⟩ := h
    subst e
    refine ⟨_, pss_cons (ps_set (i := 1) scAllStates.nd rfl (Or.inr rfl) (pe_callTy c_list rfl zl (by decide +kernel) (pa_cons (pv 0) pa_nil)))
      (pss_one (ps_ret (pe_lc2 (own := [("size", 2), ("state", 3)]) (vs1 := [3]) (g := gName 2) (g1 := gName 3) (tt := tYes) (tt1 := tYes) (wi1 := iCmb K (tCons (tVar 1) (tCons (tVar 2) tNil))) rfl scAllStates.nd
        (pi_range1 rfl zR (pa_cons (pe_op op_add (pe_callB c_len rfl zL boot_len (pa_cons (pv 1) pa_nil)) pe_int) pa_nil))
        (blkOk_by (own := [("size", 2), ("state", 3)]) (N := ["names", "switches", "size", "state"]) (sc := defScope sAllStates) (by decide +kernel)) (by decide)
        (fun _ _ _ _ _ => pg_name (i := 2) scAllStates.nd rfl (.inl rfl)) (fun _ _ _ _ _ => pts_nil)
        (fun _ _ _ _ _ => pi_cmb rfl mC (pa_cons (pv 1) (pa_cons (pv 2) pa_nil)))
        (fun _ _ _ _ _ => pg_name (i := 3) scAllStates.nd rfl (.inl rfl)) (fun _ _ _ _ _ => pts_nil) (fun _ _ _ _ _ => pv 3)))), ?_⟩
    repeat walk_at "rd"
    refine r_listT hn.seq fun l hl => ?_
    generalize hH : upd H l _ = H1; obtain ⟨k1, e1⟩ := new_facts hH hl; clear hH
    refine r_gN ?_
    refine r_ret (r_lc2 (r_rng1 ?_))
    repeat walk_at "rd"
    refine r_lenL (.of e1) ?_
    repeat walk_at "rd"
    rw [List.length_map]
    refine ⟨_, rfl, by omega, by omega, fun D hD => ?_⟩
    have en : (((ns.length : Nat) : Int) + 1).toNat = ns.length + 1 := by omega
    rw [en]
    have hnD : l ≠ D := ne_of_none e1 hD
    refine it_gen (n := ns.length + 1) walk_range (fun r H' => ∃ xs ss, Go G L H1 H' ∧ H' D = some (.lst xs) ∧ StsAt H' xs ss ∧ ss = ((List.range r).flatMap (seqC ns.length)).map (nmsOf ns)) _ ?_ ?_ ?_ ?_
    · exact ⟨[], [], Go.new hD, upd_same, .nil, rfl⟩
    · exact fun _ _ _ _ => True.intro
    · rintro r x H2 H3 hr2 ⟨xs, ss, g, hDl, hss, ess⟩ ⟨rfl, ex⟩
      have ex' : x = .int (r : Nat) := ex.trans (congrArg V.int (Int.zero_add _))
      subst ex'
      refine r_gN ⟨rfl, r_yes (r_icmb ?_)⟩
      repeat walk_at "rd"
      have hS : CmbSeq (ns.map V.str).length r (seqC ns.length r) := by rw [List.length_map]; exact cmbSeq hlen (by omega)
      refine ⟨l, ns.map V.str, r, seqC ns.length r, rfl, .of (g.lst e1), by rw [List.length_map]; omega, by omega, hS, ?_⟩
      have hsz : ss.length + (seqC ns.length r).length ≤ 2000 := by
        rw [ess, List.length_map]
        exact (ord_len ns.length (by omega)).2 r (by omega) (by omega)
      refine it_gen walk_cmb (fun j H' => ∃ xs' ss', Go G L H1 H' ∧ H' D = some (.lst xs') ∧ StsAt H' xs' ss' ∧ ss' = ss ++ ((seqC ns.length r).take j).map (nmsOf ns)) _ ?_ ?_ ?_ ?_
      · exact ⟨xs, ss, g, hDl, hss, by simp⟩
      · exact fun _ _ _ _ => True.intro
      · rintro j x H3 H4 hj ⟨xs', ss', g', hDl', hss', ess'⟩ ⟨T, ix, rfl, hT, hix, rfl⟩
        generalize hH : upd H3 T _ = H5; obtain ⟨k5, e5⟩ := new_facts hH hT; clear hH
        have hsub := seqC_sub hlen (by omega : r ≤ ns.length) (List.mem_of_getElem? hix)
        have hlt : ∀ j ∈ ix, j < ns.length := fun j hj => List.mem_range.mp (hsub.subset hj)
        rw [cmb_strs hlt] at e5
        have g5 : Go G L H1 H5 := g'.trans (Go.same k5)
        refine r_gN ⟨rfl, r_yes ?_⟩
        repeat walk_at "rd"
        have hl' : xs'.length = ss'.length := by
          have z := hss'.length
          rw [List.length_map] at z
          exact z
        have hl2 : ss'.length ≤ 2000 := by
          rw [ess', List.length_append, List.length_map, List.length_take]
          omega
        refine ⟨xs', k5 _ _ hDl', by rw [sizeLine_eq]; omega, xs' ++ [.ref T], ss' ++ [nmsOf ns ix], g5.updNew hD (k5 _ _ hDl'), upd_same, ?_, ?_⟩
        · have nT : T ≠ D := fun e => by rw [e, hDl'] at hT; cases hT
          have z : StsAt H5 (xs' ++ [.ref T]) (ss' ++ [nmsOf ns ix]) := (hss'.kt (kp_kt k5)).snoc (.inl e5)
          refine z.kt fun b o n1 n2 hb => ?_
          rw [upd_ne (fun e => by rw [e, k5 _ _ hDl'] at hb; exact n1 _ (Option.some.inj hb).symm)]
          exact hb
        · rw [ess', List.append_assoc, List.take_succ, hix]
          simp
      · rintro H3 ⟨xs', ss', g', hDl', hss', ess'⟩
        refine ⟨xs', ss', g', hDl', hss', ?_⟩
        rw [ess', List.take_length, ess, flat_succ, List.map_append]
    · rintro H3 ⟨xs, ss, g, hDl, hss, ess⟩
      refine q D H3 xs ((Go.same k1).trans g) hDl ?_
      rw [ess] at hss
      exact hss
end
section
variable {P : Program} {w : World} {K : PySem.W.Frag} {mg : Str → Option Value} {base : Heap} {G : List Addr} {L : List (Addr × Str)}
theorem gfor_it {J : It} {n : Nat} {Gp : Hp → Prop} {Y : Nat → Hp → V → Hp → Prop} (w : Walk J n Gp Y) {g : TG} {tb : TGn} {D : GEnds} {ys : List V} {σ : L2.St} {H : Hp} (Pv : Nat → List V → L2.St → Hp → Prop) (h0 : Pv 0 ys σ H) (hG : ∀ i ys σ H, i ≤ n → Pv i ys σ H → Gp H)
    (hs : ∀ i x ys σ H H', i < n → Pv i ys σ H → Y i H x H' → g x σ H' fun σ2 H2 => tb { D with nx := Pv (i + 1), ct := Pv (i + 1), bk := D.nx } ys σ2 H2) (hd : ∀ ys σ H, Pv n ys σ H → D.nx ys σ H) :
    ∃ W : Nat → Nat → List V → L2.St → Hp → Prop, (∃ m, W 0 m ys σ H) ∧ ∀ i m ys σ H, W i m ys σ H →
      (J.stop i H ∧ D.nx ys σ H) ∨ (J.go i H ∧ ∃ N : List V → L2.St → Hp → Prop, (∀ ys' σ' H', N ys' σ' H' → ∃ m', m' < m ∧ W (i + 1) m' ys' σ' H') ∧ ∀ x H', J.yld i H x H' → g x σ H' fun σ2 H2 => tb { D with nx := N, ct := N, bk := D.nx } ys σ2 H2) := by
  refine ⟨fun i m ys σ H => m = n - i ∧ i ≤ n ∧ Pv i ys σ H, ⟨n, by simp, Nat.zero_le _, h0⟩, ?_⟩
  rintro i m ys σ H ⟨rfl, hi, p⟩
  have q := hG i ys σ H hi p
  by_cases hlt : i < n
  · exact .inr ⟨w.goes i H hlt q, Pv (i + 1), fun ys' σ' H' p' => ⟨n - (i + 1), by omega, rfl, hlt, p'⟩, fun x H' y => hs i x ys σ H H' hlt p (w.yields i H x H' hlt q y)⟩
  · have e : i = n := by omega
    subst e
    exact .inl ⟨w.stops H q, hd ys σ H p⟩
theorem gforL {K : PySem.W.Frag} {te : TE} {g : TG} {tb : TGn} {D : GEnds} {ys : List V} {σ : L2.St} {H : Hp} (good : Addr → List V → Hp → Prop) (he : ∀ R : VK, (∀ a xs H0, good a xs H0 → SqL K H0 a xs → R (.ref a) H0) → te σ H R)
    (body : ∀ a xs H0, good a xs H0 → SqL K H0 a xs ∧ ∃ Pv : Nat → List V → L2.St → Hp → Prop, Pv 0 ys σ H0 ∧ (∀ i ys σ H, i ≤ xs.length → Pv i ys σ H → SqL K H a xs) ∧
      (∀ i x ys σ H, xs[i]? = some x → Pv i ys σ H → g x σ H fun σ2 H2 => tb { D with nx := Pv (i + 1), ct := Pv (i + 1), bk := D.nx } ys σ2 H2) ∧ (∀ ys σ H, Pv xs.length ys σ H → D.nx ys σ H)) : tGFor (iList K te) g tb D ys σ H := by
  refine he _ fun a xs H0 hg hq => ?_
  obtain ⟨_, Pv, h0, hG, hs, hd⟩ := body a xs H0 hg
  refine ⟨a, rfl, ⟨xs, hq⟩, gfor_it walk_list Pv h0 hG ?_ hd⟩
  rintro i x ys σ H1 H2 hi p ⟨eH, e2⟩
  rw [eH]
  exact hs i x ys σ H1 e2 p
theorem r_gthen {t u : TGn} {D : GEnds} {ys : List V} {σ : L2.St} {H : Hp} (h : t { D with nx := fun ys' σ' H' => u D ys' σ' H' } ys σ H) : tGThen t u D ys σ H := h
theorem r_gy {te : TE} {D : GEnds} {ys : List V} {σ : L2.St} {H : Hp} (hl : ys.length < sizeLine) (h : te σ H fun x H1 => D.nx (ys ++ [x]) σ H1) : tGYield te D ys σ H := ⟨hl, h⟩
theorem r_g0 {D : GEnds} {ys : List V} {σ : L2.St} {H : Hp} (h : D.nx ys σ H) : tG0 D ys σ H := h
theorem allD_len {ns : List Str} (hn : ns.length ≤ 10) : (allD ns).length ≤ 2000 := by
  unfold allD
  rw [List.length_map]
  exact (ord_len _ (by omega)).1
theorem strs_lv {ns : List Str} {s : List Str} (gs : goodS ns) (h : s.Sublist ns) : lv 7 (.tuple (s.map PyData.str)) = true ∧ ∀ ds, PyData.tuple (s.map PyData.str) = .tuple ds → ds.length ≤ 60 := by
  refine ⟨lv_strs fun z hz => gs.1 z (h.subset hz), fun ds e => ?_⟩
  cases e
  rw [List.length_map]
  exact Nat.le_trans h.length_le gs.2
/-- a generator def of the module -/
structure Gd (P : Program) (w : World) (K : PySem.W.Frag) (mg : Str → Option Value) (base : Heap) (x : Str) (k : Nat) (sp : SpG) : Prop where
  ex : ∃ (f : Addr) (fd : FuncData) (ps : List Str), mg x = some (.ref f) ∧ PySem.W.keepIn K (.ref f) = true ∧ GFn P w K mg base k f fd ps sp ∧ Binds K fd ps []
theorem pe_lgd {X : Cx} {x : Str} {k j : Nat} {sp : SpG} {p pos p2 pos2 : Pos} {e : Expr} {es : List Expr} {t : TA} (c : Gd X.prog X.w X.K X.mg X.base x k sp) (hr : Room j X.A) (zl : X.mg "list" = none) (ha : PA X (e :: es) t) (hk : k + 3 ≤ j := by decide) (hg : Gl X x := by rfl) (hgl : Gl X "list" := by rfl)
    (hdb : (x == ("__debug__" : Str)) = false := by decide) (he : starEach (e :: es) X.env = (false, eval e X.env) :: starEach es X.env := by rfl) (hpl : (backTo pos (starEach es X.env)).any (·.1) = false := by rfl)
    (he2 : starEach [.Call (.Name x p) (e :: es) [] pos] X.env = (false, eval (.Call (.Name x p) (e :: es) [] pos) X.env) :: starEach [] X.env := by rfl) :
    PE X (.Call (.Name "list" p2) [.Call (.Name x p) (e :: es) [] pos] [] pos2) (tListG (tCallG sp [] E0 t)) := by
  obtain ⟨f, fd, ps, h1, h2, F, b⟩ := c.ex
  exact pe_listG (pgen_call F (hr.mono (by omega)) hg h1 h2 b .nil ha hdb he hpl) passN (fun _ _ _ h => h.elim) (hr.mono hk) hgl zl (by decide +kernel) (by decide) (by decide) he2
theorem r_lgd {sp : SpG} {ta : TA} {σ : L2.St} {H : Hp} {Q : VK} (h : ta σ H fun vs H1 => sp (vs ++ []) H1 (fun out H2 => ∀ p, H2 p = none → Q (.ref p) (upd H2 p (.lst out))) E0) : tListG (tCallG sp [] E0 ta) σ H Q := h
end
section
variable {P : Program} {w : World} {K : PySem.W.Frag} {mg : Str → Option Value} {base : Heap} {G : List Addr} {L : List (Addr × Str)}
theorem kt_upd {H : Hp} {D : Addr} {xs ys : List V} (h : H D = some (.lst xs)) : KT H (upd H D (.lst ys)) := fun b o n1 n2 hb => by
  rw [upd_ne (fun e => by rw [e, h] at hb; exact n1 _ (Option.some.inj hb).symm)]
  exact hb
theorem ims_strs_eq {H : Hp} : ∀ {s : List Str} {vs : List V}, Ims H vs (s.map PyData.str) → vs = s.map V.str
  | [], _, .nil => rfl
  | z :: s, _, .cons h t => by
    cases h
    rw [ims_strs_eq t]
    rfl
theorem sts_get {H : Hp} {xs : List V} {ss : List (List Str)} {i : Nat} {x : V} (h : StsAt H xs ss) (hx : xs[i]? = some x) : ∃ T s, ss[i]? = some s ∧ x = .ref T ∧ Tp H T (s.map V.str) := by
  obtain ⟨d, hd, hi⟩ := h.get hx
  rw [List.getElem?_map] at hd
  cases hs : ss[i]? with
  | none => rw [hs] at hd; cases hd
  | some s =>
    rw [hs] at hd
    obtain rfl : d = .tuple (s.map PyData.str) := (Option.some.inj hd).symm
    cases hi with
    | tup h1 h2 => exact ⟨_, s, rfl, rfl, by rw [← ims_strs_eq h2]; exact h1⟩
theorem StsAt.len {H : Hp} {xs : List V} {ss : List (List Str)} (h : StsAt H xs ss) : xs.length = ss.length := by
  have z := h.length
  rw [List.length_map] at z
  exact z
theorem genI_ok : ∀ n < 9, (genI n).length ≤ 300 ∧ (genI n).all (fun ix => ix.all (decide <| · < n)) = true := by decide +kernel
theorem nms_snoc {ns : List Str} {ix : List Nat} {i : Nat} {z : Str} (h : ns[i]? = some z) : nmsOf ns (ix ++ [i]) = nmsOf ns ix ++ [z] := by
  unfold nmsOf
  rw [List.map_append]
  simp [List.getD_eq_getElem?_getD, h]
theorem rowD_nms (ns : List Str) (ix : List Nat) : rowD (fun i => ns.getD i "") ix = .tuple [.int ((nmsOf ns ix).length : Nat), .tuple (ix.map fun i => .int (i : Nat)), .tuple ((nmsOf ns ix).map PyData.str)] := by
  unfold rowD nmsOf
  rw [List.map_map, List.length_map]
  rfl
theorem ims_zip {H : Hp} : ∀ {vs : List V} {ds : List PyData}, Ims H vs ds → ∀ p ∈ vs.zip ds, Im H p.1 p.2
  | _, _, .nil, p, h => by cases h
  | _, _, .cons a t, p, h => by
    rcases List.mem_cons.mp h with e | h
    · rw [e]; exact a
    · exact ims_zip t p h
theorem ims_of {H : Hp} : ∀ {ps : List (V × PyData)}, (∀ p ∈ ps, Im H p.1 p.2) → Ims H (ps.map Prod.fst) (ps.map Prod.snd)
  | [], _ => .nil
  | p :: ps, h => .cons (h p List.mem_cons_self) (ims_of fun q hq => h q (List.mem_cons_of_mem _ hq))
theorem depth_ints2 (l : List Nat) : PyData.depthAll (l.map fun i => PyData.int (i : Nat)) = 0 := by
  induction l with
  | nil => simp [PyData.depthAll]
  | cons x l ih => simp only [List.map_cons, PyData.depthAll, PyData.depth, ih]; rfl
theorem depth_strs2 (nm : Nat → Str) (l : List Nat) : PyData.depthAll (l.map fun i => PyData.str (nm i)) = 0 := by
  induction l with
  | nil => simp [PyData.depthAll]
  | cons x l ih => simp only [List.map_cons, PyData.depthAll, PyData.depth, ih]; rfl
theorem depth_row (nm : Nat → Str) (l : List Nat) : (rowD nm l).depth ≤ 8 := by
  unfold rowD
  simp only [PyData.depth, PyData.depthAll, depth_ints2, depth_strs2]
  decide
theorem eqv_nilL (ds : List PyData) : PyData.eqv (.list ds) (.list []) = decide (ds = []) := by
  cases ds with
  | nil => simp [PyData.eqv, PyData.eqvAll]
  | cons d ds => simp [PyData.eqv, PyData.eqvAll]
theorem qs_snd {vs : List V} {n : Nat} {nm : Nat → Str} (hn : n ≤ 8) (hl : vs.length = (genI n).length) : ((vs.zip ((genI n).map (rowD nm))).mergeSort (PySem.W.dataLe false Prod.snd)).map Prod.snd = (ordI n).map (rowD nm) := by
  rw [PySem.W.sort_maps (r := PySem.W.dataLe false Prod.snd) (s := PySem.W.dataLe false id) Prod.snd (fun _ _ _ _ => rfl), List.map_snd_zip (by rw [List.length_map]; omega), ← PySem.W.sort_maps (r := leI) (rowD nm) (fun a _ b _ => (rowD_le nm a b).symm), sort_gen hn]
theorem u12 {k : Nat} {A : Around} (r : Room k A) : A.units + 12 < cLine := by
  have z := u64 r
  omega
end
/-- the numbers of the broken clauses, as they are collected -/
theorem broken_range (sd : List PyData) : ∀ (cd : List PyData) (i : Nat), brokenFrom sd i cd = ((List.range cd.length).filter fun k => match cd[k]? with | some d => brk sd d | none => false).map (i + ·)
  | [], i => rfl
  | d :: cd, i => by
    have e : brokenFrom sd i (d :: cd) = if brk sd d then i :: brokenFrom sd (i + 1) cd else brokenFrom sd (i + 1) cd := rfl
    rw [e, broken_range sd cd (i + 1), List.length_cons, List.range_succ_eq_map, List.filter_cons, List.filter_map]
    have e2 : (fun k => match (d :: cd)[k]? with | some d => brk sd d | none => false) ∘ Nat.succ = fun k => match cd[k]? with | some d => brk sd d | none => false := by
      funext k
      rfl
    rw [e2]
    have e3 : ∀ l : List Nat, l.map (i + 1 + ·) = (l.map Nat.succ).map (i + ·) := fun l => by
      rw [List.map_map]
      refine List.map_congr_left fun x _ => ?_
      show i + 1 + x = i + (x + 1)
      omega
    rw [e3]
    by_cases c : brk sd d = true
    · rw [if_pos c]
      simp [c]
    · rw [if_neg c]
      simp [c]
def tFr (sp : Sp) (E : XK) (t : TA) : TE := fun σ H Q => t σ H fun vs H1 => sp vs H1 Q E
theorem r_fr {sp : Sp} {E : XK} {t : TA} {σ : L2.St} {H : Hp} {Q : VK} (h : t σ H fun vs H1 => sp vs H1 Q E) : tFr sp E t σ H Q := h
/-- a step, generators' lists first -/
local macro_rules | `(tactic| walk_at "rl") => `(tactic| first | (with_reducible refine r_lgd ?_) | (with_reducible refine r_fr ?_) | walk_at "rd")
theorem StsAt.dps {K : PySem.W.Frag} {H : Hp} {xs : List V} {ss : List (List Str)} (h : StsAt H xs ss) : DpAll K H xs (ss.map fun s => .tuple (s.map PyData.str)) := Ims.dp h
theorem lcLg {K : PySem.W.Frag} {σ : L2.St} {H : Hp} {Q : VK} {te : TE} {g : TG} {tt : TT} {el : TE} {vs : List Nat} (good : Addr → List V → Hp → Prop) (he : ∀ R : VK, (∀ a xs H0, good a xs H0 → R (.ref a) H0) → te σ H R)
    (body : ∀ a xs H0, good a xs H0 → SqL K H0 a xs ∧ ∃ Pv : Addr → Nat → Hp → Prop, (∀ D, H0 D = none → Pv D 0 (upd H0 D (.lst []))) ∧ (∀ D i H1, H0 D = none → i ≤ xs.length → Pv D i H1 → SqL K H1 a xs) ∧
      (∀ D i y H1, H0 D = none → xs[i]? = some y → Pv D i H1 → g y (wipe σ vs) H1 fun σ2 H2 => wipe σ2 vs = wipe σ vs ∧ tt σ2 H2 fun b H3 =>
        if b = true then el σ2 H3 fun y H4 => ∃ acc, H4 D = some (.lst acc) ∧ acc.length < sizeLine ∧ Pv D (i + 1) (upd H4 D (.lst (acc ++ [y]))) else Pv D (i + 1) H3) ∧ (∀ D H', H0 D = none → Pv D xs.length H' → Q (.ref D) H')) : tLc (iList K te) g tt el vs σ H Q := by
  refine he _ fun a xs H0 hg => ?_
  obtain ⟨hq, Pv, h0, hG, hs, hd⟩ := body a xs H0 hg
  have z := lcL (σ := σ) (te := fun _ _ R => R (.ref a) H0) (H := H0) (g := g) (tt := tt) (el := el) (vs := vs) (Q := Q) (fun _ z => z) hq Pv h0 hG hs hd
  exact z
theorem cl_ln {ns : List Str} {d : PyData} (hok : ∀ z ∈ ns, PyData.strOk z = true) (h : ClD ns d) : ln 1 d = true := by
  obtain ⟨w, a, b, rfl, hw, ha, hb⟩ := h
  have z1 : PyData.strOk w = true := by rcases hw with rfl | rfl | rfl <;> decide +kernel
  simp [ln, z1, hok a ha, hok b hb]
section
variable {P : Program} {w : World} {K : PySem.W.Frag} {mg : Str → Option Value} {base : Heap} {G : List Addr} {L : List (Addr × Str)}
theorem r_slN {K : PySem.W.Frag} {H : Hp} {Q : VK} {a : Addr} {xs : List V} {lo hi : Option Int} (h : H a = some (.lst xs)) (q : ∀ p H', H p = none → (∀ b o, H b = some o → H' b = some o) → H' p = some (.lst (cutV xs lo hi)) → Q (.ref p) H') : rSlL K (.ref a) lo hi H Q :=
  ⟨a, xs, rfl, .of h, fun p hp => q p _ hp (new_facts rfl hp).1 upd_same⟩
theorem r_repL {H : Hp} {Q : VK} {a : Addr} {n : Nat} {xs : List V} (h : H a = some (.lst xs)) (hn : n ≤ 1000) (hl : xs.length * n ≤ 5000) (q : ∀ p H', H p = none → (∀ b o, H b = some o → H' b = some o) → H' p = some (.lst (List.replicate n xs).flatten) → Q (.ref p) H') : rRep (.ref a) (.int (n : Nat)) H Q :=
  ⟨a, (n : Nat), xs, rfl, rfl, h, by omega, by omega, Nat.le_trans (by simpa using hl) (by decide), fun p hp => q p _ hp (new_facts rfl hp).1 upd_same⟩
/-- what the law's def is asked, how it answers -/
def spLaw (K : PySem.W.Frag) (G : List Addr) (L : List (Addr × Str)) : Sp := fun vs H Q _ => ∃ (a : Addr) (ns : List Int), vs = [.ref a] ∧ ns.length ≤ 63 ∧ SqL K H a (ns.map V.int) ∧ TBS G L H ∧ ∀ H', Q (.bl true) H'
end
section
variable {P : Program} {w : World} {K : PySem.W.Frag} {mg : Str → Option Value} {base : Heap} {G : List Addr} {L : List (Addr × Str)}
theorem scNext : FnScope ["_law_dice_here", "_law_many", "_law_found", "_law_cell"] ["_law_dice_here", "_law_many"] (defScope sNext) := C8.fnScope_by (by decide +kernel)
theorem ok_next {f : Addr} {fd : FuncData} (F : Fun K "_law_next" "_law_next" sNext f fd) (zI : mg "int" = none) (zL : mg "len" = none) : FnOk P w K mg base CX0 1 f fd ["_law_dice_here", "_law_many"] (spTaken K G L) := by
  refine F.ok scNext (fun vs H Q E h => ?_) (fun cdv A outer s H vs Q E hr h => ?_)
  · obtain ⟨r, m, e, _⟩ := h
    rw [e]
    rfl
  · obtain ⟨ρ, m, e, hR, m0, m1, q⟩ := h
    subst e
    obtain ⟨r, a, ns⟩ := ρ
    obtain ⟨i, z, l, sc, hn, hr0, hi⟩ := hR
    dsimp only at sc hn hr0 q
    refine ⟨_, pss_cons (ps_if (pt_cmpR op_gt (pe_ix ix_list (pv 0) pe_int (fun _ _ => rfl)) pe_int (nomark _))
        (pss_cons (ps_set (i := 2) scNext.nd rfl (Or.inl rfl) (pe_op op_mod (pe_callTy c_int rfl zI boot_int (pa_cons (pe_ix ix_list (pv 0) pe_int (fun _ _ => rfl)) pa_nil)) (pv 1)))
        (pss_cons (ps_asg (pe_op op_fdiv (pe_ix ix_list (pv 0) pe_int (fun _ _ => rfl)) (pv 1)) (pg_sub (pv 0) pe_int set_list (fun _ => rfl)))
        (pss_one (ps_ret (pv 2))))) pss_nil)
      (pss_cons (ps_asg (pe_op op_add (pe_ix ix_list (pv 0) pe_int (fun _ _ => rfl)) pe_int) (pg_sub (pv 0) pe_int set_list (fun _ => rfl)))
      (pss_cons (ps_if (pt_cmpR op_le (pe_ix ix_list (pv 0) pe_int (fun _ _ => rfl)) (pe_callB c_len rfl zL boot_len (pa_cons (pe_ix ix_list (pv 0) pe_int (fun _ _ => rfl)) pa_nil)) (nomark _))
        (pss_cons (ps_set (i := 3) scNext.nd rfl (Or.inl rfl) (pe_ix ix_list (pe_ix ix_list (pv 0) pe_int (fun _ _ => rfl)) (pe_op op_sub (pe_ix ix_list (pv 0) pe_int (fun _ _ => rfl)) pe_int) (fun _ _ => rfl)))
        (pss_cons (ps_asg (pe_ifExp (pt_cmpR op_ge (pv 3) (pe_op op_pow pe_int pe_int) (nomark _)) (pe_op op_fdiv (pv 3) (pv 1)) pe_int) (pg_sub (pv 0) pe_int set_list (fun _ => rfl)))
        (pss_one (ps_ret (pe_op op_mod (pe_callTy c_int rfl zI boot_int (pa_cons (pv 3) pa_nil)) (pv 1)))))) pss_nil)
      (pss_cons (ps_asg (pe_op op_mod (pe_callTy c_int rfl zI boot_int (pa_cons (pe_op op_mul (pe_ix ix_list (pv 0) pe_int (fun _ _ => rfl)) pe_int) pa_nil)) pe_int) (pg_sub (pv 0) pe_int set_list (fun _ => rfl)))
      (pss_one (ps_ret (pe_op op_mod (pe_op op_fdiv (pe_ix ix_list (pv 0) pe_int (fun _ _ => rfl)) pe_int) (pv 1))))))), ?_⟩
    repeat walk_at "rd"
    refine r_ixL (SqL.of hr0) (v := .int l) rfl ?_
    repeat walk_at "rd"
    refine r_if (fun c => ?_) (fun c => ?_)
    · repeat walk_at "rd"
      refine r_ixL (SqL.of hr0) (v := .int l) rfl ?_
      repeat walk_at "rd"
      refine r_I m0 ?_
      repeat walk_at "rd"
      refine r_ixL (SqL.of hr0) (v := .int l) rfl ?_
      repeat walk_at "rd"
      refine r_I ⟨m0, by omega⟩ ?_
      repeat walk_at "rd"
      refine r_set2 hr0 (j := 3) rfl rfl fun H1 g1 h1 => ?_
      repeat walk_at "rd"
      exact q _ _ (Int.emod_nonneg _ (by omega)) (Int.emod_lt_of_pos _ m0) (g1 G L) (.mk' sc hn (g1 G L).1 h1 hi)
    · repeat walk_at "rd"
      refine r_ixL (SqL.of hr0) (v := .int i) rfl ?_
      repeat walk_at "rd"
      refine r_set2 hr0 (j := 1) rfl rfl fun H1 g1 h1 => ?_
      repeat walk_at "rd"
      refine r_ixL (SqL.of h1) (v := .int (i + 1)) rfl ?_
      repeat walk_at "rd"
      refine r_ixL (SqL.of h1) (v := .ref a) rfl ?_
      have sq1 := sc H1 (g1 G L).1
      repeat walk_at "rd"
      refine r_lenL sq1 ?_
      rw [List.length_map]
      repeat walk_at "rd"
      refine r_if (fun c2 => ?_) (fun c2 => ?_)
      · have hle : i + 1 ≤ ns.length := of_decide_eq_true c2
        obtain ⟨cell, hcell⟩ := at_ints (ns := ns) (i := i + 1 - 1) (by omega) (by omega)
        repeat walk_at "rd"
        refine r_ixL (SqL.of h1) (v := .ref a) rfl ?_
        repeat walk_at "rd"
        refine r_ixL (SqL.of h1) (v := .int (i + 1)) rfl ?_
        repeat walk_at "rd"
        refine r_ixL sq1 hcell ?_
        repeat walk_at "rd"
        refine r_I ⟨by decide, by decide, by decide⟩ ?_
        repeat walk_at "rd"
        refine r_if (fun c3 => ?_) (fun c3 => ?_)
        · repeat walk_at "rd"
          refine r_I ⟨m0, by omega⟩ ?_
          repeat walk_at "rd"
          refine r_set2 h1 (j := 3) rfl rfl fun H3 g3 h3 => ?_
          repeat walk_at "rd"
          refine r_I m0 ?_
          exact q _ _ (Int.emod_nonneg _ (by omega)) (Int.emod_lt_of_pos _ m0) ((g1 G L).trans (g3 G L)) (.mk' sc hn ((g1 G L).trans (g3 G L)).1 h3 (by omega))
        · repeat walk_at "rd"
          refine r_set2 h1 (j := 3) rfl rfl fun H3 g3 h3 => ?_
          repeat walk_at "rd"
          refine r_I m0 ?_
          exact q _ _ (Int.emod_nonneg _ (by omega)) (Int.emod_lt_of_pos _ m0) ((g1 G L).trans (g3 G L)) (.mk' sc hn ((g1 G L).trans (g3 G L)).1 h3 (by omega))
      · repeat walk_at "rd"
        refine r_ixL (SqL.of h1) (v := .int z) rfl ?_
        repeat walk_at "rd"
        refine r_I (.inr (by decide)) ?_
        repeat walk_at "rd"
        refine r_I (by decide) ?_
        repeat walk_at "rd"
        refine r_set2 h1 (j := 2) rfl rfl fun H2 g2 h2 => ?_
        repeat walk_at "rd"
        refine r_ixL (SqL.of h2) rfl ?_
        repeat walk_at "rd"
        refine r_I ⟨by decide, by decide⟩ ?_
        repeat walk_at "rd"
        refine r_I m0 ?_
        exact q _ _ (Int.emod_nonneg _ (by omega)) (Int.emod_lt_of_pos _ m0) ((g1 G L).trans (g2 G L)) (.mk' sc hn ((g1 G L).trans (g2 G L)).1 h2 (by omega))
end
section
variable {P : Program} {w : World} {K : PySem.W.Frag} {mg : Str → Option Value} {base : Heap} {G : List Addr} {L : List (Addr × Str)}
theorem scDice : FnScope ["_law_script", "_law_mixed", "_law_cell"] ["_law_script"] (defScope sDice) := C8.fnScope_by (by decide +kernel)
def spDice (K : PySem.W.Frag) (G : List Addr) (L : List (Addr × Str)) : Sp := fun vs H Q _ => ∃ (a : Addr) (ns : List Int), vs = [.ref a] ∧ ns.length ≤ 63 ∧ SqL K H a (ns.map V.int) ∧ ∀ r H', Go G L H H' → H r = none → Row K H' ⟨r, a, ns⟩ → Q (.ref r) H'
theorem ok_dice {f : Addr} {fd : FuncData} (F : Fun K "_law_dice" "_law_dice" sDice f fd) (zI : mg "int" = none) (zL : mg "len" = none) : FnOk P w K mg base CX0 1 f fd ["_law_script"] (spDice K G L) := by
  refine F.ok scDice (fun vs H Q E h => ?_) (fun cdv A outer s H vs Q E hr h => ?_)
  · obtain ⟨a, ns, e, _⟩ := h
    rw [e]
    rfl
  · obtain ⟨a, ns, e, hn, hS, q⟩ := h
    subst e
    refine ⟨_, pss_cons (ps_set (i := 1) scDice.nd rfl (Or.inl rfl) pe_int)
      (pss_cons (ps_for PassesOwn.never rfl (pi_list (pv 0)) (pg_name (i := 2) scDice.nd rfl (.inl rfl))
        (pss_one (ps_set (i := 1) scDice.nd rfl (Or.inl rfl) (pe_op op_mod (pe_op op_add (pe_op op_add (pe_op op_mul (pv 1) pe_int) (pe_op op_mul (pe_op op_mod (pe_callTy c_int rfl zI boot_int (pa_cons (pv 2) pa_nil)) pe_int) pe_int)) pe_int) pe_int))))
      (pss_one (ps_ret (pe_lst (pa_cons (pv 0) (pa_cons pe_int (pa_cons (pe_op op_mul (pv 1) (pe_callTy c_int rfl zI boot_int (pa_cons (pe_cmpR op_gt (pe_callB c_len rfl zL boot_len (pa_cons (pv 0) pa_nil)) pe_int (nomark _)) pa_nil))) (pa_cons pe_int pa_nil)))))))), ?_⟩
    repeat walk_at "rd"
    refine forL (a := a) (xs := ns.map V.int) (fun R z => ⟨_, rfl, z⟩) hS (fun i σ H' => ∃ (m : Int) (x2 : Option V), σ = [some (.ref a), some (.int m), x2] ∧ H' = H) ?_ ?_ ?_ ?_
    · exact ⟨0, none, rfl, rfl⟩
    · rintro i σ H' _ ⟨m, x2, rfl, rfl⟩
      exact hS
    · rintro i y σ H' hy ⟨m, x2, rfl, rfl⟩
      obtain ⟨z, rfl⟩ : ∃ z : Int, y = .int z := by
        rw [List.getElem?_map] at hy
        cases hz : ns[i]? with
        | none => rw [hz] at hy; cases hy
        | some z => rw [hz] at hy; exact ⟨z, (Option.some.inj hy).symm⟩
      refine r_gN ?_
      repeat walk_at "rd"
      refine r_I (.inr (by decide)) ?_
      repeat walk_at "rd"
      refine r_I (by decide) ?_
      repeat walk_at "rd"
      refine r_I (.inr (by decide)) ?_
      repeat walk_at "rd"
      refine r_I (by decide) ?_
      repeat walk_at "rd"
      exact ⟨_, _, rfl, rfl⟩
    · rintro σ H' ⟨m, x2, rfl, rfl⟩
      repeat walk_at "rd"
      refine r_lenL hS ?_
      repeat walk_at "rd"
      have fin : ∀ k : Int, -(2 ^ 64) < k ∧ k < 2 ^ 64 → rI CMul (fun i j => V.int (i * j)) (V.int m) (V.int k) H' fun x H1 =>
              tCons (tC (V.int 0)) tNil [some (V.ref a), some (V.int m), x2] H1 fun xs H2 =>
                (V.ref a :: V.int 0 :: x :: xs).length ≤ sizeLine ∧
                  ∀ (p : Addr), H2 p = none → Q (V.ref p) (upd H2 p (HO.lst (V.ref a :: V.int 0 :: x :: xs))) := fun k hk => by
        refine r_I (.inr hk) ?_
        repeat walk_at "rd"
        refine ⟨by show 4 ≤ sizeLine; decide, fun p hp => ?_⟩
        generalize hH : upd H' p _ = H1; obtain ⟨k1, e1⟩ := new_facts hH hp; clear hH
        exact q p H1 (Go.same k1) hp ⟨0, _, 0, fun H2 e' => scr_of hp hS H2 ((kp_ev k1).trans e'), hn, e1, Int.le_refl 0⟩
      refine fin _ ?_
      split <;> decide
end
section
variable {P : Program} {w : World} {K : PySem.W.Frag} {mg : Str → Option Value} {base : Heap} {G : List Addr} {L : List (Addr × Str)}
def spKeeps (K : PySem.W.Frag) : Sp := fun vs H Q _ => ∃ sv cv sd w a b, vs = [cv, sv] ∧ Dp K H sv (.tuple sd) ∧ Dp K H cv (.tuple [.str w, a, b]) ∧ lv 8 (.tuple sd) = true ∧ lv 8 a = true ∧ lv 8 b = true ∧ Q (.bl (holdsD sd w a b)) H
theorem scKeeps : FnScope ["_law_clause", "_law_state", "_law_word", "_law_first", "_law_second"] ["_law_clause", "_law_state"] (defScope sKeeps) := C8.fnScope_by (by decide +kernel)
theorem ok_keeps {f : Addr} {fd : FuncData} (F : Fun K "_law_keeps" "_law_keeps" sKeeps f fd) : FnOk P w K mg base CX0 1 f fd ["_law_clause", "_law_state"] (spKeeps K) := by
  refine F.ok scKeeps (fun vs H Q E h => ?_) (fun cdv A outer s H vs Q E hr h => ?_)
  · obtain ⟨sv, cv, sd, w, a, b, e, _⟩ := h
    rw [e]
    rfl
  · obtain ⟨sv, cv, sd, w, a, b, e, hs, hc, l0, l1, l2, q⟩ := h
    subst e
    refine ⟨_, pss_cons (ps_asg (pv 0) (pg_tup rfl (pgs_cons (pg_name (i := 2) scKeeps.nd rfl (.inl rfl)) (pgs_cons (pg_name (i := 3) scKeeps.nd rfl (.inl rfl)) (pgs_cons (pg_name (i := 4) scKeeps.nd rfl (.inl rfl)) pgs_nil)))))
      (pss_cons (ps_if (pt_cmpR op_eq (pv 2) pe_str (nomark _)) (pss_one (ps_ret (pe_or (pe_cmpR (op_notInT (u65 hr)) (pv 3) (pv 1) rfl) (pe_one (pe_cmpR (op_inT (u65 hr)) (pv 4) (pv 1) rfl))))) pss_nil)
      (pss_cons (ps_if (pt_cmpR op_eq (pv 2) pe_str (nomark _)) (pss_one (ps_ret (pe_or (pe_cmpR (op_notInT (u65 hr)) (pv 3) (pv 1) rfl) (pe_one (pe_cmpR (op_notInT (u65 hr)) (pv 4) (pv 1) rfl))))) pss_nil)
      (pss_one (ps_ret (pe_or (pe_cmpR (op_inT (u65 hr)) (pv 3) (pv 1) rfl) (pe_one (pe_cmpR (op_inT (u65 hr)) (pv 4) (pv 1) rfl))))))), ?_⟩
    cases hc with
    | @tup T xs _ hT hxs =>
      have h3 : xs.length = 3 := Dps.length hxs
      obtain ⟨x, y, z, dx, dy, dz, e1, e2, hx, hy, hz⟩ := three_of hxs h3
      cases e2
      subst e1
      cases hx
      refine r_seq (r_asgE (x := .ref T) (fun R z => ⟨_, rfl, z⟩) (g_three hT ?_))
      repeat walk_at "rd"
      refine r_eq rfl ?_
      repeat walk_at "rd"
      refine r_if (fun c1 => ?_) (fun c1 => ?_)
      · have ew : w = "needs" := V.str.inj (of_decide_eq_true c1)
        subst ew
        repeat walk_at "rd"
        refine r_ninT hy hs l1 l0 ?_
        repeat walk_at "rd"
        refine r_if (fun c2 => ?_) (fun c2 => ?_)
        · have e : holdsD sd "needs" a b = true := by
            show (!inD a sd || inD b sd) = true
            rw [c2]
            rfl
          rw [e] at q
          exact q
        · repeat walk_at "rd"
          refine r_inT hz hs l2 l0 ?_
          have e : holdsD sd "needs" a b = inD b sd := by
            show (!inD a sd || inD b sd) = _
            rw [c2]
            rfl
          rw [e] at q
          exact q
      · have ew : w ≠ "needs" := fun z => of_decide_eq_false c1 (congrArg V.str z)
        repeat walk_at "rd"
        refine r_eq rfl ?_
        repeat walk_at "rd"
        refine r_if (fun c3 => ?_) (fun c3 => ?_)
        · have ew2 : w = "excludes" := V.str.inj (of_decide_eq_true c3)
          have e0 : holdsD sd w a b = (!inD a sd || !inD b sd) := by
            unfold holdsD
            rw [if_neg ew, if_pos ew2]
          rw [e0] at q
          repeat walk_at "rd"
          refine r_ninT hy hs l1 l0 ?_
          repeat walk_at "rd"
          refine r_if (fun c2 => ?_) (fun c2 => ?_)
          · rw [c2] at q
            exact q
          · repeat walk_at "rd"
            refine r_ninT hz hs l2 l0 ?_
            rw [c2] at q
            exact q
        · have ew2 : w ≠ "excludes" := fun z => of_decide_eq_false c3 (congrArg V.str z)
          have e0 : holdsD sd w a b = (inD a sd || inD b sd) := by
            unfold holdsD
            rw [if_neg ew, if_neg ew2]
          rw [e0] at q
          repeat walk_at "rd"
          refine r_inT hy hs l1 l0 ?_
          repeat walk_at "rd"
          refine r_if (fun c2 => ?_) (fun c2 => ?_)
          · rw [c2] at q
            exact q
          · repeat walk_at "rd"
            refine r_inT hz hs l2 l0 ?_
            rw [c2] at q
            exact q
theorem scPick : FnScope ["_law_d", "_law_some"] ["_law_d", "_law_some"] (defScope sPick) := C8.fnScope_by (by decide +kernel)
def SqA (K : PySem.W.Frag) (H : Hp) (p : Addr) (xs : List V) : Prop := SqL K H p xs ∨ SqT K H p xs
theorem r_ixA {p : Addr} {xs : List V} {i : Nat} {v : V} {H : Hp} {Q : VK} (h : SqA K H p xs) (e : xs[i]? = some v) (q : Q v H) : rIx K (.ref p) (.int (i : Nat)) H Q := by
  rcases h with h | h
  · exact .inl (r_ixL h (atI_nat e) q)
  · exact .inr (.inl (r_ixT h (atI_nat e) q))
def spPick (K : PySem.W.Frag) (G : List Addr) (L : List (Addr × Str)) : Sp := fun vs H Q _ => ∃ (ρ : Rid) (p : Addr) (xs : List V), vs = [.ref ρ.r, .ref p] ∧ Row K H ρ ∧ 0 < xs.length ∧ xs.length < 1000000 ∧ (∀ H', H' = H ∨ GoR G L ρ.r H H' → SqA K H' p xs) ∧
  ∀ (i : Nat) (v : V) (H' : Hp), xs[i]? = some v → GoR G L ρ.r H H' → Row K H' ρ → Q v H'
theorem ok_pick {f : Addr} {fd : FuncData} (F : Fun K "_law_pick" "_law_pick" sPick f fd) (zL : mg "len" = none) (NX : Fd CX0 P w K mg base "_law_next" 1 (spTaken K G L)) : FnOk P w K mg base CX0 2 f fd ["_law_d", "_law_some"] (spPick K G L) := by
  refine F.ok scPick (fun vs H Q E h => ?_) (fun cdv A outer s H vs Q E hr h => ?_)
  · obtain ⟨ρ, p, xs, e, _⟩ := h
    rw [e]
    rfl
  · obtain ⟨ρ, p, xs, e, hR, h0, hl, hs, q⟩ := h
    subst e
    refine ⟨_, pss_one (ps_ret (pe_ix ix_seq (pv 1) (pe_fd (E := E0) NX hr pass0 (pa_cons (pv 0) (pa_cons (pe_callB c_len rfl zL boot_len (pa_cons (pv 1) pa_nil)) pa_nil))) (fun _ _ => rfl))), ?_⟩
    repeat walk_at "rd"
    refine ⟨p, xs, rfl, hs H (.inl rfl), ?_⟩
    repeat walk_at "rd"
    refine r_taken hR (by omega) (by omega) fun v H1 hv g1 hR1 => ?_
    have hv' : v < xs.length := by omega
    exact r_ixA (hs H1 (.inr g1)) (List.getElem?_eq_getElem hv') (q v _ H1 (List.getElem?_eq_getElem hv') g1 hR1)
end
section
variable {X : Cx}
def rMulS : R2 := fun x y H Q => ∃ z n, x = .str z ∧ y = .int n ∧ MulOk z n ∧ Q (.str (Txt.mul z n)) H
theorem op_mulS : OpR X (binaryOp .Mult) rMulS := by
  intro pins s σ H x y v u Q I rx ry h
  obtain ⟨z, n, rfl, rfl, ok, q⟩ := h
  obtain ⟨t, rfl⟩ := rx
  obtain ⟨t', rfl⟩ := ry
  exact SB.mul ok fun t2 k => ⟨.str (Txt.mul z n), H, I.tok _, ⟨_, rfl⟩, q⟩
theorem op_addS : OpR X (binaryOp .Add) (fun x y H Q => ∃ i j, x = .str i ∧ y = .str j ∧ i.length + j.length ≤ sizeLine ∧ Q (.str (i ++ j)) H) := op_add_str
end
def chr1 (c : Nat) : Str := ⟨#[97 + c]⟩
def sufs : List Str := ["", "z", "zzzzz"]
def mkName (c n k s : Nat) : Str := (Txt.mul (chr1 c) (n : Int) ++ chr1 k) ++ sufs.getD s ""
/-- which letter stands last ahead of the z -/
def tagOf (z : Str) : Nat := ((z.cps.toList.reverse.dropWhile (· == 122)).headD 0) - 97
def nmB (z : Str) (k : Nat) : Bool := nameOk (.str z) && (PyData.strOk z && (decide (z.length ≤ 8) && (decide (tagOf z = k) && decide (z ≠ "zzzzzzzz"))))
theorem nmB_all : ∀ c < 26, ∀ n < 3, ∀ k < 10, ∀ s < 3, nmB (mkName c n k s) k = true := by decide +kernel
theorem letters_at : ∀ c < 26, letters.cps.toList[c]? = some (97 + c) := by decide +kernel
theorem letters_len : letters.length = 26 := by decide +kernel
theorem mul_ok : ∀ c < 26, ∀ n < 3, MulOk (chr1 c) (n : Nat) ∧ (Txt.mul (chr1 c) ((n : Nat) : Int)).length ≤ 2 := by
  intro c hc n hn
  refine ⟨⟨by match n, hn with | 0, _ => decide | 1, _ => decide | 2, _ => decide, fun h1 h2 => ?_, fun h1 h2 => ?_⟩, ?_⟩
  · match n, hn with
    | 0, _ => exact absurd (by decide) h1
    | 1, _ => cases h2
    | 2, _ => show ¬ (1 : Int) > _; decide
  · match n, hn with
    | 0, _ => exact absurd (by decide) h1
    | 1, _ => cases h2
    | 2, _ => rfl
  · match n, hn with
    | 0, _ => show (0 : Nat) ≤ 2; decide
    | 1, _ => show (1 : Nat) ≤ 2; decide
    | 2, _ => show (2 : Nat) ≤ 2; decide
theorem sufs_at (s : Nat) (h : s < 3) : atI [V.str "", .str "z", .str "zzzzz"] (s : Nat) = some (.str (sufs.getD s "")) ∧ (sufs.getD s "").length ≤ 5 := by
  match s, h with
  | 0, _ => exact ⟨rfl, by decide⟩
  | 1, _ => exact ⟨rfl, by decide⟩
  | 2, _ => exact ⟨rfl, by decide⟩
section
variable {P : Program} {w : World} {K : PySem.W.Frag} {mg : Str → Option Value} {base : Heap} {G : List Addr} {L : List (Addr × Str)}
/-- names as they are drawn: the k-th one has the k-th letter -/
def NmsP (ns : List Str) : Prop := ∀ k z, ns[k]? = some z → nmB z k = true
def spNames (K : PySem.W.Frag) (G : List Addr) (L : List (Addr × Str)) : Sp := fun vs H Q _ => ∃ (ρ : Rid) (m : Nat), vs = [.ref ρ.r, .int (m : Nat)] ∧ Row K H ρ ∧ 0 < m ∧ m ≤ 10 ∧
  ∀ (ns : List Str) (T : Addr) (H' : Hp), 0 < ns.length → ns.length ≤ m → NmsP ns → NT H' T (ns.map V.str) → GoR G L ρ.r H H' → Row K H' ρ → Q (.ref T) H'
abbrev nNms : List Str := ["_law_d", "_law_most", "_law_letters", "_law_found", "_law_k"]
theorem scNames5 : FnScope nNms ["_law_d", "_law_most"] (defScope sNames5) := C8.fnScope_by (by decide +kernel)
theorem nmsP_snoc {ns : List Str} {z : Str} (h : NmsP ns) (hz : nmB z ns.length = true) : NmsP (ns ++ [z]) := fun k y e => by
  by_cases c : k < ns.length
  · rw [List.getElem?_append_left c] at e
    exact h k y e
  · rw [List.getElem?_append_right (by omega)] at e
    have e0 : k - ns.length = 0 := by
      rcases Nat.eq_zero_or_pos (k - ns.length) with z | z
      · exact z
      · rw [List.getElem?_eq_none (by show 1 ≤ _; omega)] at e
        cases e
    rw [e0] at e
    cases e
    rw [show k = ns.length by omega]
    exact hz
theorem ok_names5 {f : Addr} {fd : FuncData} (F : Fun K "_law_names" "_law_names" sNames5 f fd) (zR : mg "range" = none) (zT : mg "tuple" = none) (NX : Fd CX0 P w K mg base "_law_next" 1 (spTaken K G L)) : FnOk P w K mg base CX0 2 f fd ["_law_d", "_law_most"] (spNames K G L) := by
  refine F.ok scNames5 (fun vs H Q E h => ?_) (fun cdv A outer s H vs Q E hr h => ?_)
  · obtain ⟨r, an, e, _⟩ := h
    rw [e]
    rfl
  · obtain ⟨ρ, m, e, hR, m0, m10, q⟩ := h
    subst e
    refine ⟨_, pss_cons (ps_par (i := 2) (j := 3) rfl scNames5.nd rfl rfl (by decide) rfl rfl (pa_cons pe_str (pa_cons (pe_lst pa_nil) pa_nil)) rfl)
      (pss_cons (ps_for PassesOwn.never rfl (pi_range1 rfl zR (pa_cons (pe_op op_add pe_int (pe_fd (E := E0) NX hr pass0 (pa_cons (pv 0) (pa_cons (pv 1) pa_nil)))) pa_nil)) (pg_name (i := 4) scNames5.nd rfl (.inl rfl))
        (pss_one (ps_expr (pe_bm PySem.F.plainAttrs_list PySem.F.slot_list_append PySem.F.type_list_append mt_append (pv 3)
          (pa_cons (pe_op op_addS (pe_op op_addS (pe_op op_mulS (pe_ix ix_str (pv 2) (pe_fd (E := E0) NX hr pass0 (pa_cons (pv 0) (pa_cons pe_int pa_nil))) (fun _ _ => rfl)) (pe_fd (E := E0) NX hr pass0 (pa_cons (pv 0) (pa_cons pe_int pa_nil)))) (pe_ix ix_str (pv 2) (pv 4) (fun _ _ => rfl)))
            (pe_ix ix_list (pe_lst (pa_cons pe_str (pa_cons pe_str (pa_cons pe_str pa_nil)))) (pe_fd (E := E0) NX hr pass0 (pa_cons (pv 0) (pa_cons pe_int pa_nil))) (fun _ _ => rfl))) pa_nil)))))
      (pss_one (ps_ret (pe_callTy c_tup rfl zT (by decide +kernel) (pa_cons (pv 3) pa_nil))))), ?_⟩
    repeat walk_at "rd"
    refine ⟨Nat.zero_le _, fun D hD => ?_⟩
    generalize hH : upd H D _ = H1; obtain ⟨k1, eD⟩ := new_facts hH hD; clear hH
    have g1 : Go G L H H1 := Go.same k1
    have nD : D ≠ ρ.r := by
      obtain ⟨xs, z⟩ := hR.lst
      exact (ne_of_none z hD).symm
    have hR1 := hR.go g1
    repeat walk_at "rd"
    refine ⟨.str letters, .ref D, rfl, ?_⟩
    refine r_seq ?_
    refine forRg (fun n H0 => 1 ≤ n ∧ n ≤ m ∧ GoR G L ρ.r H1 H0 ∧ Row K H0 ρ) (fun R z => ?_) (fun n H0 ⟨hn1, hnm, g0, hR0⟩ => ⟨by omega, fun i σ H' => ∃ (x4 : Option V) (ns : List Str), σ = [some (.ref ρ.r), some (.int (m : Nat)), some (.str letters), some (.ref D), x4] ∧ GoR G L ρ.r H H' ∧ Row K H' ρ ∧ H' D = some (.lst (ns.map V.str)) ∧ ns.length = i ∧ NmsP ns, ?_, ?_, ?_⟩)
    · repeat walk_at "rd"
      refine r_taken hR1 (by omega) (by omega) fun v H2 hv g2 hR2 => ?_
      repeat walk_at "rd"
      rw [show (1 : Int) + (v : Nat) = ((v + 1 : Nat) : Int) by omega]
      exact z (v + 1) H2 ⟨by omega, by omega, g2, hR2⟩
    · exact ⟨none, [], rfl, g1.toR.trans g0, hR0, g0.lst nD eD, rfl, fun k z e => by cases e⟩
    · rintro i σ H' hi ⟨x4, ns, rfl, g, hR', eD', hl, hns⟩
      refine r_gN ?_
      repeat walk_at "rd"
      refine ⟨.inl ⟨rfl, _, .of eD'⟩, ?_⟩
      repeat walk_at "rd"
      refine r_taken hR' (by decide) (by decide) fun v1 H2 hv1 g1' hR2 => ?_
      have h1 : v1 < 26 := by omega
      refine ⟨letters, (v1 : Nat), 97 + v1, rfl, rfl, by rw [letters_len]; decide, atI_nat (letters_at v1 h1), ?_⟩
      repeat walk_at "rd"
      refine r_taken hR2 (by decide) (by decide) fun v2 H3 hv2 g2' hR3 => ?_
      have h2 : v2 < 3 := by omega
      obtain ⟨mo, ml⟩ := mul_ok v1 h1 v2 h2
      refine ⟨chr1 v1, (v2 : Nat), rfl, rfl, mo, ?_⟩
      repeat walk_at "rd"
      refine ⟨letters, (i : Nat), 97 + i, rfl, rfl, by rw [letters_len]; decide, atI_nat (letters_at i (by omega)), ?_⟩
      refine ⟨_, chr1 i, rfl, rfl, ?_, ?_⟩
      · show _ + 1 ≤ sizeLine
        rw [sizeLine_eq]
        omega
      repeat walk_at "rd"
      refine ⟨(by show 3 ≤ sizeLine; decide), fun p3 hp3 => ?_⟩
      generalize hH : upd H3 p3 _ = H4; obtain ⟨k4, e4⟩ := new_facts hH hp3; clear hH
      have g4 : Go G L H3 H4 := Go.same k4
      have n3 : p3 ≠ ρ.r := by
        obtain ⟨xs, z⟩ := hR3.lst
        exact (ne_of_none z hp3).symm
      have hR4 := hR3.go g4
      repeat walk_at "rd"
      refine r_taken hR4 (by decide) (by decide) fun v3 H5 hv3 g5 hR5 => ?_
      have h3 : v3 < 3 := by omega
      obtain ⟨sa, sl⟩ := sufs_at v3 h3
      refine r_ixL (.of (g5.lst n3 e4)) sa ?_
      have hlen : (Txt.mul (chr1 v1) (v2 : Nat) ++ chr1 i).length ≤ 3 := by
        show ((Txt.mul (chr1 v1) (v2 : Nat)).cps ++ (chr1 i).cps).size ≤ 3
        rw [Array.size_append]
        have e1 : (chr1 i).cps.size = 1 := rfl
        have e2 : (Txt.mul (chr1 v1) (v2 : Nat)).cps.size ≤ 2 := ml
        omega
      refine ⟨_, _, rfl, rfl, by rw [sizeLine_eq]; omega, ?_⟩
      repeat walk_at "rd"
      have gA : GoR G L ρ.r H' H5 := ((g1'.trans g2').trans g4.toR).trans g5
      have eD5 := gA.lst nD eD'
      refine r_append eD5 (by rw [List.length_map]; omega) ?_
      have gU : GoR G L ρ.r H (upd H5 D (.lst (ns.map V.str ++ [.str (mkName v1 v2 i v3)]))) := (g.trans gA).updNew hD eD5
      refine ⟨some (.int (i : Nat)), ns ++ [mkName v1 v2 i v3], rfl, gU, ?_, ?_, by rw [List.length_append, hl]; rfl, nmsP_snoc hns (by rw [hl]; exact nmB_all v1 h1 v2 h2 i (by omega) v3 h3)⟩
      · exact hR.re hR5 gU.1 (by rw [upd_ne nD.symm])
      · rw [upd_same, List.map_append]
        rfl
    · rintro σ H' ⟨x4, ns, rfl, g, hR', eD', hl, hns⟩
      repeat walk_at "rd"
      refine r_tupL2 eD' fun T H2 k2 hT => ?_
      have g2 : Go G L H' H2 := Go.same k2
      exact q ns T H2 (by omega) (by omega) hns hT (g.trans g2.toR) (hR'.go g2)
end
theorem nmB_ok {z : Str} {k : Nat} (h : nmB z k = true) : nameOk (.str z) = true ∧ PyData.strOk z = true ∧ z.length ≤ 8 ∧ tagOf z = k := by
  unfold nmB at h
  simp only [Bool.and_eq_true, decide_eq_true_eq] at h
  exact ⟨h.1, h.2.1, h.2.2.1, h.2.2.2.1⟩
theorem NmsP.nodup {ns : List Str} (h : NmsP ns) : ns.Nodup := by
  refine List.pairwise_iff_getElem.mpr fun i j hi hj hij e => ?_
  have e1 := (nmB_ok (h i ns[i] (List.getElem?_eq_getElem hi))).2.2.2
  have e2 := (nmB_ok (h j ns[j] (List.getElem?_eq_getElem hj))).2.2.2
  rw [e, e2] at e1
  omega
theorem NmsP.all {ns : List Str} (h : NmsP ns) {z : Str} (hz : z ∈ ns) : nameOk (.str z) = true ∧ PyData.strOk z = true ∧ z.length ≤ 8 := by
  obtain ⟨i, hi, e⟩ := List.mem_iff_getElem.mp hz
  have q := nmB_ok (h i z (by rw [List.getElem?_eq_getElem hi, e]))
  exact ⟨q.1, q.2.1, q.2.2.1⟩
theorem scanN_none : ∀ (pre ds : List Str), (pre ++ ds).Nodup → (∀ z ∈ ds, nameOk (.str z) = true) → (pre ++ ds).length ≤ 10 → scanN (pre.map PyData.str) (ds.map PyData.str) = none
  | pre, [], _, _, _ => rfl
  | pre, z :: ds, hn, ho, hl => by
    have e1 : inD (.str z) (pre.map PyData.str) = false := by
      rw [inD_strs]
      refine decide_eq_false fun hm => ?_
      have q := List.nodup_append.mp hn
      exact q.2.2 z hm z List.mem_cons_self rfl
    have hl2 : pre.length < 10 := by
      rw [List.length_append, List.length_cons] at hl
      omega
    show (if decide ((10 : Int) ≤ ((pre.map PyData.str).length : Nat)) || (!nameOk (.str z) || inD (.str z) (pre.map PyData.str)) then some (pre.map PyData.str).length else scanN (pre.map PyData.str ++ [.str z]) (ds.map PyData.str)) = none
    rw [e1, ho z List.mem_cons_self, List.length_map, decide_eq_false (by omega)]
    have ih := scanN_none (pre ++ [z]) ds (by rw [List.append_assoc]; exact hn) (fun y hy => ho y (List.mem_cons_of_mem _ hy)) (by rw [List.append_assoc]; exact hl)
    rw [List.map_append] at ih
    exact ih
theorem NmsP.names {ns : List Str} (h : NmsP ns) (h0 : 0 < ns.length) (h10 : ns.length ≤ 10) : namesBad (.tuple (ns.map PyData.str)) = none := by
  cases ns with
  | nil => cases h0
  | cons z ds => exact scanN_none [] (z :: ds) h.nodup (fun y hy => (h.all hy).1) h10
theorem NmsP.okNb {ns : List Str} (h : NmsP ns) (h10 : ns.length ≤ 10) : okNb (ns.map PyData.str) = true := by
  unfold FS.okNb
  simp only [Bool.and_eq_true, decide_eq_true_eq, List.length_map, List.all_eq_true, List.mem_map]
  refine ⟨by omega, ?_, ?_⟩
  · rintro x ⟨z, hz, rfl⟩
    exact (h.all hz).2.1
  · rintro x ⟨z, hz, rfl⟩
    have q := (h.all hz).2.2
    exact decide_eq_true (by omega)
theorem NmsP.good {ns : List Str} (h : NmsP ns) (h10 : ns.length ≤ 10) : goodS ns := ⟨fun z hz => (h.all hz).2.1, by omega⟩
/-- names that rules may have -/
structure GoodN (ns : List Str) : Prop where
  nd : ns.Nodup
  al : ∀ z ∈ ns, nameOk (.str z) = true ∧ PyData.strOk z = true ∧ z.length ≤ 8
theorem NmsP.gn {ns : List Str} (h : NmsP ns) : GoodN ns := ⟨h.nodup, fun _ hz => h.all hz⟩
theorem GoodN.names {ns : List Str} (h : GoodN ns) (h0 : 0 < ns.length) (h10 : ns.length ≤ 10) : namesBad (.tuple (ns.map PyData.str)) = none := by
  cases ns with
  | nil => cases h0
  | cons z ds => exact scanN_none [] (z :: ds) h.nd (fun y hy => (h.al y hy).1) h10
theorem GoodN.okNb {ns : List Str} (h : GoodN ns) (h10 : ns.length ≤ 10) : okNb (ns.map PyData.str) = true := by
  unfold FS.okNb
  simp only [Bool.and_eq_true, decide_eq_true_eq, List.length_map, List.all_eq_true, List.mem_map]
  refine ⟨by omega, ?_, ?_⟩
  · rintro x ⟨z, hz, rfl⟩
    exact (h.al z hz).2.1
  · rintro x ⟨z, hz, rfl⟩
    have q := (h.al z hz).2.2
    exact decide_eq_true (by omega)
theorem GoodN.good {ns : List Str} (h : GoodN ns) (h10 : ns.length ≤ 10) : goodS ns := ⟨fun z hz => (h.al z hz).2.1, by omega⟩
/-- rules, whose names may be any tuple -/
def RulesW (K : PySem.W.Frag) (H : Hp) (x : Addr) (ns : List Str) (cd : List PyData) : Prop := ∃ dx an ac xs, H x = some (.ins (cR K) dx (rfs (.ref an) (.ref ac))) ∧ Tp H an (ns.map V.str) ∧ Tp H ac xs ∧ Ims H xs cd
theorem RulesAt.w {K : PySem.W.Frag} {H : Hp} {x : Addr} {ns : List Str} {cd : List PyData} (h : RulesAt K H x ns cd) : RulesW K H x ns cd := by
  obtain ⟨dx, an, ac, xs, h1, h2, h3, h4⟩ := h
  exact ⟨dx, an, ac, xs, h1, h2.tp, h3, h4⟩
theorem lcLs {K : PySem.W.Frag} {σ : L2.St} {H : Hp} {Q : VK} {te : TE} {g : TG} {tt : TT} {el : TE} {vs : List Nat} (good : Addr → List V → Hp → Prop) (he : ∀ R : VK, (∀ a xs H0, good a xs H0 → R (.ref a) H0) → te σ H R)
    (body : ∀ a xs H0, good a xs H0 → SqL K H0 a xs ∧ ∃ Pv : Addr → Nat → Hp → Prop, (∀ D, H0 D = none → Pv D 0 (upd H0 D (.lst []))) ∧ (∀ D i H1, H0 D = none → i ≤ xs.length → Pv D i H1 → SqL K H1 a xs) ∧
      (∀ D i y H1, H0 D = none → xs[i]? = some y → Pv D i H1 → g y (wipe σ vs) H1 fun σ2 H2 => wipe σ2 vs = wipe σ vs ∧ tt σ2 H2 fun b H3 =>
        if b = true then el σ2 H3 fun y H4 => ∃ acc, H4 D = some (.lst acc) ∧ acc.length < sizeLine ∧ Pv D (i + 1) (upd H4 D (.lst (acc ++ [y]))) else Pv D (i + 1) H3) ∧ (∀ D H', H0 D = none → Pv D xs.length H' → Q (.ref D) H')) : tLc (iList K te) g tt el vs σ H Q := by
  refine he _ fun a xs H0 hg => ?_
  obtain ⟨hq, Pv, h0, hG, hs, hd⟩ := body a xs H0 hg
  have z := lcL (σ := σ) (te := fun _ _ R => R (.ref a) H0) (H := H0) (g := g) (tt := tt) (el := el) (vs := vs) (Q := Q) (fun _ z => z) hq Pv h0 hG hs hd
  exact z
section
variable {P : Program} {w : World} {K : PySem.W.Frag} {mg : Str → Option Value} {base : Heap} {G : List Addr} {L : List (Addr × Str)}
theorem r_snocA {H : Hp} {Q : VK} {T p : Addr} {xs : List V} {y : V} (hT : Tp H T xs) (hp : H p = some (.tup [y])) (hl : xs.length ≤ 300) (q : ∀ T' H', (∀ b o, H b = some o → H' b = some o) → Tp H' T' (xs ++ [y]) → Q (.ref T') H') : rCatA K (.ref T) (.ref p) H Q := by
  refine ⟨T, p, xs, [y], rfl, rfl, hT.seq, .of hp, ?_, fun hnil => ?_, fun _ he => (by cases he), fun hnn _ p4 hp4 => ?_⟩
  · rw [sizeLine_eq]
    show xs.length + 1 ≤ _
    omega
  · refine q p H (fun _ _ e => e) ?_
    rw [hnil]
    exact .inl hp
  · exact q p4 _ (fun b o e => by rw [upd_ne (ne_of_none e hp4)]; exact e) (.inl upd_same)
def pairD (ns : List Str) (ix : List Nat) : PyData := .tuple [.tuple (ix.map fun i => .int (i : Nat)), .tuple ((nmsOf ns ix).map PyData.str)]
theorem ims_ints_eq {H : Hp} : ∀ {l : List Nat} {vs : List V}, Ims H vs (l.map fun i => PyData.int (i : Nat)) → vs = l.map fun i => V.int (i : Nat)
  | [], _, .nil => rfl
  | z :: s, _, .cons h t => by
    cases h
    rw [ims_ints_eq t]
    rfl
theorem ims_ints {H : Hp} : ∀ l : List Nat, Ims H (l.map fun i => V.int (i : Nat)) (l.map fun i => PyData.int (i : Nat))
  | [] => .nil
  | x :: l => .cons (.int _) (ims_ints l)
theorem pair_get {H : Hp} {xs : List V} {ns : List Str} {l : List (List Nat)} {i : Nat} {x : V} (h : Ims H xs (l.map (pairD ns))) (hx : xs[i]? = some x) :
    ∃ R T S ix, l[i]? = some ix ∧ x = .ref R ∧ Tp H R [.ref T, .ref S] ∧ Tp H T (ix.map fun i => V.int (i : Nat)) ∧ Tp H S ((nmsOf ns ix).map V.str) := by
  obtain ⟨d, hd, hi⟩ := h.get hx
  rw [List.getElem?_map] at hd
  cases hs : l[i]? with
  | none => rw [hs] at hd; cases hd
  | some ix =>
    rw [hs] at hd
    obtain rfl : d = pairD ns ix := (Option.some.inj hd).symm
    cases hi with
    | @tup R ws _ h1 h2 =>
    cases h2 with
    | @cons v1 _ _ _ i1 h2 =>
    cases h2 with
    | @cons v2 _ _ _ i2 h2 =>
    cases h2
    cases i1 with
    | @tup T us _ hT hu =>
    cases i2 with
    | @tup S us2 _ hS hu2 =>
    rw [ims_ints_eq hu] at hT
    rw [ims_strs_eq hu2] at hS
    exact ⟨R, T, S, ix, rfl, rfl, h1, hT, hS⟩
theorem pair_im {H : Hp} {ns : List Str} {ix : List Nat} {R T S : Addr} (h1 : Tp H R [.ref T, .ref S]) (h2 : Tp H T (ix.map fun i => V.int (i : Nat))) (h3 : Tp H S ((nmsOf ns ix).map V.str)) : Im H (.ref R) (pairD ns ix) :=
  .tup h1 (.cons (.tup h2 (ims_ints ix)) (.cons (.tup h3 (ims_strs _)) .nil))
theorem genI_len : ∀ n < 9, (genI n).all (fun ix => decide (ix.length ≤ 300)) = true := by decide +kernel
abbrev nAll : List Str := ["_law_names_here", "_law_rows", "_law_k", "_law_keys", "_law_state", "_law_row"]
theorem scAll5 : FnScope nAll ["_law_names_here"] (defScope sAll5) := C8.fnScope_by (by decide +kernel)
def spAll5 (K : PySem.W.Frag) (G : List Addr) (L : List (Addr × Str)) : Sp := fun vs H Q _ => ∃ (an : Addr) (ns : List Str), vs = [.ref an] ∧ Tp H an (ns.map V.str) ∧ ns.length ≤ 8 ∧
  ∀ l xs H', Nw H l → Go G L H H' → H' l = some (.lst xs) → StsAt H' xs (allD ns) → Q (.ref l) H'
theorem ok_all5 {f : Addr} {fd : FuncData} (F : Fun K "_law_all" "_law_all" sAll5 f fd) (zL : mg "len" = none) (zR : mg "range" = none) (zS : mg "sorted" = none) : FnOk P w K mg base CX0 1 f fd ["_law_names_here"] (spAll5 K G L) := by
  refine F.ok scAll5 (fun vs H Q E h => ?_) (fun cdv A outer s H vs Q E hr h => ?_)
  · obtain ⟨an, ns, e, _⟩ := h
    rw [e]
    rfl
  · obtain ⟨an, ns, e, hn, hlen, q⟩ := h
    subst e
    refine ⟨_, pss_cons (ps_set (i := 1) scAll5.nd rfl (Or.inl rfl) (pe_lst (pa_cons (pe_tup (pa_cons (pe_tup pa_nil) (pa_cons (pe_tup pa_nil) pa_nil))) pa_nil)))
      (pss_cons (ps_for PassesOwn.never rfl (pi_range1 rfl zR (pa_cons (pe_callB (r := cLen K) c_len rfl zL boot_len (pa_cons (pv 0) pa_nil)) pa_nil)) (pg_name (i := 2) scAll5.nd rfl (.inr rfl))
        (pss_one (ps_set (i := 1) scAll5.nd rfl (Or.inl rfl) (pe_op op_cat (pv 1) (pe_lc (own := [("_law_keys", 3), ("_law_state", 4)]) (g := gTup K 2 (gCons (gName 3) (gCons (gName 4) gNil))) (tt := tYes) rfl scAll5.nd (pi_list (pv 1))
          (blkOk_by (own := [("_law_keys", 3), ("_law_state", 4)]) (N := nAll) (sc := defScope sAll5) (by decide +kernel)) (fun _ _ _ _ _ => pg_tup rfl (pgs_cons (pg_name (i := 3) scAll5.nd rfl (.inl rfl)) (pgs_cons (pg_name (i := 4) scAll5.nd rfl (.inl rfl)) pgs_nil))) (fun _ _ _ _ _ => pts_nil)
          (fun _ _ _ _ _ => pe_tup (pa_cons (pe_op (r := rCatA K) op_catA (pv 3) (pe_tup (pa_cons (pv 2) pa_nil))) (pa_cons (pe_op (r := rCatA K) op_catA (pv 4) (pe_tup (pa_cons (pe_ix (r := rIxT K) ix_tup (pv 0) (pv 2) (fun _ _ => rfl)) pa_nil))) pa_nil))))))))
      (pss_one (ps_ret (pe_lc (own := [("_law_row", 5)]) (g := gName 5) (tt := tYes) rfl scAll5.nd (pi_list (pe_callB (cr_sortedD (u12 hr)) rfl zS (by decide +kernel) (pa_cons (pe_lc (own := [("_law_keys", 3), ("_law_state", 4)]) (g := gTup K 2 (gCons (gName 3) (gCons (gName 4) gNil))) (tt := tYes) rfl scAll5.nd (pi_list (pv 1))
          (blkOk_by (own := [("_law_keys", 3), ("_law_state", 4)]) (N := nAll) (sc := defScope sAll5) (by decide +kernel)) (fun _ _ _ _ _ => pg_tup rfl (pgs_cons (pg_name (i := 3) scAll5.nd rfl (.inl rfl)) (pgs_cons (pg_name (i := 4) scAll5.nd rfl (.inl rfl)) pgs_nil))) (fun _ _ _ _ _ => pts_nil)
          (fun _ _ _ _ _ => pe_tup (pa_cons (pe_callB (r := cLen K) c_len rfl zL boot_len (pa_cons (pv 3) pa_nil)) (pa_cons (pv 3) (pa_cons (pv 4) pa_nil))))) pa_nil)))
        (blkOk_by (own := [("_law_row", 5)]) (N := nAll) (sc := defScope sAll5) (by decide +kernel)) (fun _ _ _ _ _ => pg_name (i := 5) scAll5.nd rfl (.inl rfl)) (fun _ _ _ _ _ => pts_nil)
        (fun _ _ _ _ _ => pe_ix (r := rIxT K) ix_tup (pv 5) pe_int (fun _ _ => rfl)))))), ?_⟩
    repeat walk_at "rd"
    refine ⟨Nat.zero_le _, fun p0 hp0 => ?_⟩
    generalize hH : upd H p0 _ = H1; obtain ⟨k1, e1⟩ := new_facts hH hp0; clear hH
    repeat walk_at "rd"
    refine ⟨Nat.zero_le _, fun p1 hp1 => ?_⟩
    generalize hH : upd H1 p1 _ = H2; obtain ⟨k2, e2⟩ := new_facts hH hp1; clear hH
    repeat walk_at "rd"
    refine ⟨by show 2 ≤ sizeLine; decide, fun p2 hp2 => ?_⟩
    generalize hH : upd H2 p2 _ = H3; obtain ⟨k3, e3⟩ := new_facts hH hp2; clear hH
    refine r_nil ⟨by show 1 ≤ sizeLine; decide, fun p3 hp3 => ?_⟩
    generalize hH : upd H3 p3 _ = H4; obtain ⟨k4, e4⟩ := new_facts hH hp3; clear hH
    have g4 : Go G L H H4 := (((Go.same k1).trans (Go.same k2)).trans (Go.same k3)).trans (Go.same k4)
    have im0 : Im H4 (.ref p2) (pairD ns []) := pair_im (.inl (k4 _ _ e3)) (.inl (k4 _ _ (k3 _ _ (k2 _ _ e1)))) (.inl (k4 _ _ (k3 _ _ e2)))
    clear k1 k2 k3 k4 e1 e2 e3 hp0 hp1 hp2 hp3
    refine r_gN ?_
    refine r_seq ?_
    refine forRg (fun n H0 => n = ns.length ∧ H0 = H4) (fun R z => ?_) (fun n H0 ⟨hn0, hH0⟩ => ⟨by omega, fun i σ H' => ∃ (r : Addr) (x2 : Option V) (xs : List V), σ = [some (.ref an), some (.ref r), x2, none, none, none] ∧ Go G L H H' ∧ H' r = some (.lst xs) ∧ Ims H' xs ((genI i).map (pairD ns)), ?_, ?_, ?_⟩)
    · repeat walk_at "rd"
      refine r_lenT (hn.kt g4.kt).seq ?_
      rw [List.length_map]
      exact z _ _ ⟨rfl, rfl⟩
    · subst hH0
      exact ⟨p3, none, [.ref p2], rfl, g4, e4, .cons im0 .nil⟩
    · rintro i σ H' hi ⟨r, x2, xs, rfl, g, hr0, hxs⟩
      have hil : i < ns.length := by omega
      have hz : ns[i]? = some ns[i] := List.getElem?_eq_getElem hil
      generalize ns[i] = z at hz
      have hxl := hxs.length
      rw [List.length_map] at hxl
      have hg3 := (genI_ok i (by omega)).1
      refine r_gN ?_
      dsimp only
      repeat walk_at "rd"
      refine lcL (a := r) (xs := xs) (fun R z => ⟨_, rfl, z⟩) (.of hr0) (fun D j H2 => ∃ ys, Go G L H' H2 ∧ H2 D = some (.lst ys) ∧ Ims H2 ys (((genI i).map fun ix => pairD ns (ix ++ [i])).take j)) ?_ ?_ ?_ ?_
      · intro D hD
        exact ⟨[], Go.new hD, upd_same, .nil⟩
      · rintro D j H2 hD _ ⟨ys, g', _⟩
        exact .of (g'.lst hr0)
      · rintro D j x H2 hD hx ⟨ys, g', hDl, hys⟩
        obtain ⟨R, T, S, ix, hix, rfl, hR, hT, hS⟩ := pair_get hxs hx
        have hixl : ix.length ≤ 300 := by
          have z3 := genI_len i (by omega)
          rw [List.all_eq_true] at z3
          exact of_decide_eq_true (z3 ix (List.mem_of_getElem? hix))
        have hyl : ys.length ≤ 300 := by
          have z := hys.length
          rw [List.length_take, List.length_map] at z
          omega
        have eN := nms_snoc (ix := ix) hz
        refine r_pair (hR.kt g'.kt).seq ⟨rfl, r_yes ?_⟩
        repeat walk_at "rd"
        refine ⟨by show 1 ≤ sizeLine; decide, fun p5 hp5 => ?_⟩
        generalize hH : upd H2 p5 _ = H5; obtain ⟨k5, e5⟩ := new_facts hH hp5; clear hH
        refine r_snocA ((hT.kt g'.kt).kt (kp_kt k5)) e5 (by rw [List.length_map]; exact hixl) fun T' H6 k6 hT' => ?_
        have g26 : Go G L H2 H6 := (Go.same k5).trans (Go.same k6)
        repeat walk_at "rd"
        refine r_ixT (((hn.kt g.kt).kt g'.kt).kt g26.kt).seq (atI_nat (by rw [List.getElem?_map, hz]; rfl)) ?_
        repeat walk_at "rd"
        refine ⟨by show 1 ≤ sizeLine; decide, fun p7 hp7 => ?_⟩
        generalize hH : upd H6 p7 _ = H7; obtain ⟨k7, e7⟩ := new_facts hH hp7; clear hH
        refine r_snocA (((hS.kt g'.kt).kt g26.kt).kt (kp_kt k7)) e7 ?_ fun S' H8 k8 hS' => ?_
        · rw [List.length_map]
          unfold nmsOf
          rw [List.length_map]
          exact hixl
        repeat walk_at "rd"
        refine ⟨by show 2 ≤ sizeLine; decide, fun p9 hp9 => ?_⟩
        generalize hH : upd H8 p9 _ = H9; obtain ⟨k9, e9⟩ := new_facts hH hp9; clear hH
        have g29 : Go G L H2 H9 := ((g26.trans (Go.same k7)).trans (Go.same k8)).trans (Go.same k9)
        refine ⟨ys, g29.lst hDl, by rw [sizeLine_eq]; omega, ys ++ [.ref p9], (g'.trans g29).updNew hD (g29.lst hDl), upd_same, ?_⟩
        have e : ((genI i).map fun ix => pairD ns (ix ++ [i])).take (j + 1) = ((genI i).map fun ix => pairD ns (ix ++ [i])).take j ++ [pairD ns (ix ++ [i])] := by
          rw [List.take_succ, List.getElem?_map, hix]
          rfl
        rw [e]
        refine Ims.kt (kt_upd (g29.lst hDl)) ((hys.kt g29.kt).app (.cons (pair_im (.inl e9) ?_ ?_) .nil))
        · rw [List.map_append]
          exact hT'.kt (kp_kt (kp_t k7 (kp_t k8 k9)))
        · rw [eN, List.map_append]
          exact hS'.kt (kp_kt k9)
      · rintro D H3 hD ⟨ys, g', hDl, hys⟩
        have hyl := hys.length
        have e3 : ((genI i).map fun ix => pairD ns (ix ++ [i])).take xs.length = (genI i).map fun ix => pairD ns (ix ++ [i]) := by
          rw [hxl]
          exact List.take_of_length_le (by rw [List.length_map]; exact Nat.le_refl _)
        rw [e3] at hys hyl
        rw [List.length_map] at hyl
        refine r_cat (g'.lst hr0) hDl (by omega) fun p H4 k4 _ e4 => ?_
        refine r_gN ⟨p, _, xs ++ ys, rfl, (g.trans g').trans (Go.same k4), e4, ?_⟩
        have e5 : (genI (i + 1)).map (pairD ns) = (genI i).map (pairD ns) ++ (genI i).map fun ix => pairD ns (ix ++ [i]) := by
          show (genI i ++ (genI i).map (· ++ [i])).map (pairD ns) = _
          rw [List.map_append, List.map_map]
          rfl
        rw [e5]
        exact ((hxs.kt g'.kt).kt (kp_kt k4)).app (hys.kt (kp_kt k4))
    · rintro σ H3 ⟨r, x2, xs, rfl, g3, hr0, hxs⟩
      subst hn0
      have hxl := hxs.length
      rw [List.length_map] at hxl
      have hg3 := (genI_ok ns.length (by omega)).1
      repeat walk_at "rd"
      refine lcLs (fun l xs2 H5 => Go G L H H5 ∧ H5 l = some (.lst xs2) ∧ Ims H5 xs2 ((ordI ns.length).map (rowD fun i => ns.getD i ""))) (fun R z => ?_) ?_
      · repeat walk_at "rd"
        refine lcL (a := r) (xs := xs) (fun R z => ⟨_, rfl, z⟩) (.of hr0) (fun D j H2 => ∃ vs, Go G L H3 H2 ∧ H2 D = some (.lst vs) ∧ Ims H2 vs (((genI ns.length).take j).map (rowD fun i => ns.getD i ""))) ?_ ?_ ?_ ?_
        · intro D hD
          exact ⟨[], Go.new hD, upd_same, .nil⟩
        · rintro D j H2 hD _ ⟨vs, g', _⟩
          exact .of (g'.lst hr0)
        · rintro D j x H2 hD hx ⟨vs, g', hDl, hvs⟩
          obtain ⟨R, T, S, ix, hix, rfl, hR, hT, hS⟩ := pair_get hxs hx
          have hvl : vs.length ≤ 300 := by
            have z := hvs.length
            rw [List.length_map, List.length_take] at z
            omega
          have hT2 := hT.kt g'.kt
          refine r_pair (hR.kt g'.kt).seq ⟨rfl, r_yes ?_⟩
          repeat walk_at "rd"
          refine r_lenT hT2.seq ?_
          repeat walk_at "rd"
          refine ⟨by show 3 ≤ sizeLine; decide, fun p6 hp6 => ?_⟩
          generalize hH : upd H2 p6 _ = H6; obtain ⟨k6, e6⟩ := new_facts hH hp6; clear hH
          have g26 : Go G L H2 H6 := Go.same k6
          refine ⟨vs, g26.lst hDl, by rw [sizeLine_eq]; omega, vs ++ [.ref p6], (g'.trans g26).updNew hD (g26.lst hDl), upd_same, ?_⟩
          have e : ((genI ns.length).take (j + 1)).map (rowD fun i => ns.getD i "") = ((genI ns.length).take j).map (rowD fun i => ns.getD i "") ++ [rowD (fun i => ns.getD i "") ix] := by
            rw [List.take_succ, hix, List.map_append]
            rfl
          rw [e]
          refine Ims.kt (kt_upd (g26.lst hDl)) ((hvs.kt g26.kt).app (.cons ?_ .nil))
          rw [rowD_nms]
          refine .tup (.inl e6) (.cons ?_ (.cons (.tup (hT2.kt g26.kt) (ims_ints ix)) (.cons (.tup ((hS.kt g'.kt).kt g26.kt) (ims_strs _)) .nil)))
          rw [List.length_map]
          have e0 : (nmsOf ns ix).length = ix.length := by unfold nmsOf; rw [List.length_map]
          rw [e0]
          exact .int _
        · rintro D H4 hD ⟨vs, g', hDl, hvs⟩
          rw [hxl, List.take_length] at hvs
          have hvl := hvs.length
          rw [List.length_map] at hvl
          repeat walk_at "rd"
          refine ⟨D, vs.zip ((genI ns.length).map (rowD fun i => ns.getD i "")), rfl, ?_, fun p hp => (ims_zip hvs p hp).dp, ?_, ?_, fun p hp => ?_, fun l hl => ?_⟩
          · rw [List.map_fst_zip (by rw [List.length_map]; omega)]
            exact .of hDl
          · rw [List.map_snd_zip (by rw [List.length_map]; omega)]
            exact PySem.W.AllAlike.of fun a b => rowD_alike _ a b
          · rw [List.map_snd_zip (by rw [List.length_map]; omega)]
            exact PySem.W.Sortable.tuples fun b => ⟨_, _, rfl⟩
          · obtain ⟨ix, _, e⟩ := List.mem_map.mp (List.of_mem_zip hp).2
            rw [← e]
            exact depth_row _ _
          · generalize hqs : (vs.zip ((genI ns.length).map (rowD fun i => ns.getD i ""))).mergeSort (PySem.W.dataLe false Prod.snd) = qs
            have es := qs_snd (nm := fun i => ns.getD i "") hlen hvl
            rw [hqs] at es
            have him : ∀ q ∈ qs, Im H4 q.1 q.2 := fun q hq => by
              rw [← hqs] at hq
              exact ims_zip hvs q (List.mem_mergeSort.mp hq)
            have hi4 := ims_of him
            rw [es] at hi4
            generalize hH : upd H4 l _ = H5; obtain ⟨k5, e5⟩ := new_facts hH hl; clear hH
            exact z l _ H5 ⟨(g3.trans g').trans (Go.same k5), e5, hi4.kt (kp_kt k5)⟩
      · rintro l xs2 H5 ⟨g5, e5, hi5⟩
        have hql : xs2.length = (ordI ns.length).length := by
          have z := hi5.length
          rw [List.length_map] at z
          exact z
        have hol := (ord_len ns.length (by omega)).1
        have eal : (allD ns).length = (ordI ns.length).length := by
          unfold allD
          rw [List.length_map]
        refine ⟨.of e5, fun D j H6 => ∃ ys, Go G L H5 H6 ∧ H6 D = some (.lst ys) ∧ StsAt H6 ys ((allD ns).take j), ?_, ?_, ?_, ?_⟩
        · intro D hD
          exact ⟨[], Go.new hD, upd_same, .nil⟩
        · rintro D j H6 hD _ ⟨ys, g6, _⟩
          exact .of (g6.lst e5)
        · rintro D j x H6 hD hx ⟨ys, g6, hDl, hys⟩
          obtain ⟨d, hd, hix0⟩ := hi5.get hx
          rw [List.getElem?_map] at hd
          cases hix : (ordI ns.length)[j]? with
          | none => rw [hix] at hd; cases hd
          | some ix =>
            rw [hix] at hd
            obtain rfl : d = rowD (fun i => ns.getD i "") ix := (Option.some.inj hd).symm
            rw [rowD_nms] at hix0
            have haj : (allD ns)[j]? = some (nmsOf ns ix) := by
              unfold allD
              rw [List.getElem?_map, hix]
              rfl
            have hyl : ys.length ≤ 2000 := by
              have z := hys.len
              have z3 := allD_len (by omega : ns.length ≤ 10)
              rw [List.length_take] at z
              omega
            cases hix0 with
            | @tup T vs2 _ hT hv2 =>
            cases hv2 with
            | @cons v1 _ _ _ i1 hv2 =>
            cases hv2 with
            | @cons v2 _ _ _ i2 hv2 =>
            cases hv2 with
            | @cons v3 _ _ _ i3 hv2 =>
            cases hv2
            cases i3 with
            | @tup S3 ws _ hS hws =>
            have ews := ims_strs_eq hws
            subst ews
            refine r_gN ⟨rfl, r_yes ?_⟩
            repeat walk_at "rd"
            refine r_ixT (hT.kt g6.kt).seq (atI_nat (j := 2) rfl) ?_
            refine ⟨ys, hDl, by rw [sizeLine_eq]; omega, ys ++ [.ref S3], g6.updNew hD hDl, upd_same, ?_⟩
            have e : (allD ns).take (j + 1) = (allD ns).take j ++ [nmsOf ns ix] := by
              rw [List.take_succ, haj]
              rfl
            rw [e]
            exact (hys.snoc (hS.kt g6.kt)).kt (kt_upd hDl)
        · rintro D H6 hD ⟨ys, g6, hDl, hys⟩
          rw [hql, ← eal, List.take_length] at hys
          exact q D ys H6 (Nw.backG g5 (.of hD)) (g5.trans g6) hDl hys
end
section
variable {K : PySem.W.Frag} {G : List Addr} {L : List (Addr × Str)} {H H' : Hp} {b : Bool} {a r : Addr} {xs : List V}
theorem Sq2.any (h : Sq2 H b a xs) : SqA K H a xs := by
  cases b
  · exact .inr (Tp.seq h)
  · exact .inl (.of h)
end
section
variable {P : Program} {w : World} {K : PySem.W.Frag} {mg : Str → Option Value} {base : Heap} {G : List Addr} {L : List (Addr × Str)}
end
section
variable {P : Program} {w : World} {K : PySem.W.Frag} {mg : Str → Option Value} {base : Heap} {G : List Addr} {L : List (Addr × Str)}
theorem ord_pos : ∀ n < 9, 0 < (ordI n).length := by decide +kernel
theorem allD_pos {ns : List Str} (h : ns.length ≤ 8) : 0 < (allD ns).length := by
  unfold allD
  rw [List.length_map]
  exact ord_pos ns.length (by omega)
end
section
variable {P : Program} {w : World} {K : PySem.W.Frag} {mg : Str → Option Value} {base : Heap} {G : List Addr} {L : List (Addr × Str)}
theorem r_isB {H : Hp} {Q : VK} {v : V} {n m : String} {b : Bool} (h : Kd K H v n) (e : (n == m || (n == "bool" && m == "int")) = b) (hm : m ∈ ["bool", "int", "str", "tuple", "list"]) (q : Q (.bl b) H) : rIsi K [v, .ty m] H Q := r_isi h hm (by rw [e]; exact q)
theorem scLike : FnScope ["_law_found", "_law_due", "_law_k"] ["_law_found", "_law_due"] (defScope sLike) := C8.fnScope_by (by decide +kernel)
theorem isSeq_of1 {n : String} (h : n ∈ ["NoneType", "bool", "int", "str", "tuple", "list"]) (c : (n == "tuple" || (n == "bool" && "tuple" == "int")) = true) : isSeq n = true := by
  have key : ∀ n ∈ ["NoneType", "bool", "int", "str", "tuple", "list"], (n == "tuple" || (n == "bool" && "tuple" == "int")) = true → isSeq n = true := by decide +kernel
  exact key n h c
theorem isSeq_of2 {n : String} (h : n ∈ ["NoneType", "bool", "int", "str", "tuple", "list"]) (c : (n == "list" || (n == "bool" && "list" == "int")) = true) : isSeq n = true := by
  have key : ∀ n ∈ ["NoneType", "bool", "int", "str", "tuple", "list"], (n == "list" || (n == "bool" && "list" == "int")) = true → isSeq n = true := by decide +kernel
  exact key n h c
theorem ok_like {f : Addr} {fd : FuncData} (F : Fun K "_law_like" "_law_like" sLike f fd) (hm : mg "_law_like" = some (.ref f)) (b : Binds K fd ["_law_found", "_law_due"] []) (zI : mg "isinstance" = none) (zT : mg "tuple" = none) (zl : mg "list" = none) (zL : mg "len" = none) (zR : mg "range" = none) (zB : mg "bool" = none) (zi : mg "int" = none) (zs : mg "str" = none) :
    ∀ n : Nat, FnOk P w K mg base CX0 (n + 1) f fd ["_law_found", "_law_due"] (spAlike K G L n) := by
  intro n
  induction n with
  | zero =>
    refine F.ok (k := 0) scLike (fun vs H Q E h => ?_) (fun cdv A outer s H vs Q E hr h => ?_)
    · obtain ⟨x, y, d, m, e, _⟩ := h
      cases e
    · obtain ⟨x, y, d, m, e, _⟩ := h
      cases e
  | succ n ih =>
    have C : Fd CX0 P w K mg base "_law_like" (n + 1) (spAlike K G L n) := .mk' F hm b ih
    refine F.ok (k := n + 1) scLike (fun vs H Q E h => ?_) (fun cdv A outer s H vs Q E hr h => ?_)
    · obtain ⟨x, y, d, m, _, e, _⟩ := h
      rw [e]
      rfl
    · obtain ⟨x, y, d, m, en, e, hx2, hy2, hl, hm7, q⟩ := h
      cases en
      subst e
      refine ⟨_, pss_cons (ps_if (PW.pt (pw_or (pt_val (pe_callB call_isi rfl zI boot_isinstance (pa_cons (pv 1) (pa_cons (pe_bltn (v := .ty "tuple") rfl zT (by decide +kernel) rfl) pa_nil))))
          (pw_or1 (pt_val (pe_callB call_isi rfl zI boot_isinstance (pa_cons (pv 1) (pa_cons (pe_bltn (v := .ty "list") rfl zl (by decide +kernel) rfl) pa_nil)))))))
          (pss_cons (ps_if (pt_cmpR op_ne (pe_callB call_isi rfl zI boot_isinstance (pa_cons (pv 0) (pa_cons (pe_bltn (v := .ty "tuple") rfl zT (by decide +kernel) rfl) pa_nil))) (pe_callB call_isi rfl zI boot_isinstance (pa_cons (pv 1) (pa_cons (pe_bltn (v := .ty "tuple") rfl zT (by decide +kernel) rfl) pa_nil))) (nomark _))
            (pss_one (ps_ret pe_bl)) pss_nil)
          (pss_cons (ps_if (PW.pt (pw_or (pt_cmpR op_ne (pe_callB call_isi rfl zI boot_isinstance (pa_cons (pv 0) (pa_cons (pe_bltn (v := .ty "list") rfl zl (by decide +kernel) rfl) pa_nil))) (pe_callB call_isi rfl zI boot_isinstance (pa_cons (pv 1) (pa_cons (pe_bltn (v := .ty "list") rfl zl (by decide +kernel) rfl) pa_nil))) (nomark _))
              (pw_or1 (pt_cmpR op_ne (pe_callB c_len rfl zL boot_len (pa_cons (pv 0) pa_nil)) (pe_callB c_len rfl zL boot_len (pa_cons (pv 1) pa_nil)) (nomark _)))))
            (pss_one (ps_ret pe_bl)) pss_nil)
          (pss_one (ps_ret (pe_cmpR (op_eqD (u64 hr)) (pe_lc (own := [("_law_k", 2)]) (g := gName 2) rfl scLike.nd (pi_range1 rfl zR (pa_cons (pe_callB c_len rfl zL boot_len (pa_cons (pv 1) pa_nil)) pa_nil))
              (blkOk_by (own := [("_law_k", 2)]) (N := ["_law_found", "_law_due", "_law_k"]) (sc := defScope sLike) (by decide +kernel))
              (fun _ _ _ _ _ => pg_name (i := 2) scLike.nd rfl (.inl rfl))
              (fun _ _ _ _ _ => pts_one (pt_not (pt_val (pe_fd (E := E0) C hr pass0 (pa_cons (pe_ix (r := rIx K) ix_seq (pv 0) (pv 2) (fun _ _ => rfl)) (pa_cons (pe_ix (r := rIx K) ix_seq (pv 1) (pv 2) (fun _ _ => rfl)) pa_nil)) (Nat.le_refl _)))))
              (fun _ _ _ _ _ => pv 2)) (pe_lst pa_nil) rfl))))) pss_nil)
        (pss_cons (ps_if (pt_cmpR op_ne (pe_callB call_isi rfl zI boot_isinstance (pa_cons (pv 0) (pa_cons (pe_bltn (v := .ty "bool") rfl zB (by decide +kernel) rfl) pa_nil))) (pe_callB call_isi rfl zI boot_isinstance (pa_cons (pv 1) (pa_cons (pe_bltn (v := .ty "bool") rfl zB (by decide +kernel) rfl) pa_nil))) (nomark _))
          (pss_one (ps_ret pe_bl)) pss_nil)
        (pss_cons (ps_if (PW.pt (pw_or (pt_cmpR op_ne (pe_callB call_isi rfl zI boot_isinstance (pa_cons (pv 0) (pa_cons (pe_bltn (v := .ty "int") rfl zi (by decide +kernel) rfl) pa_nil))) (pe_callB call_isi rfl zI boot_isinstance (pa_cons (pv 1) (pa_cons (pe_bltn (v := .ty "int") rfl zi (by decide +kernel) rfl) pa_nil))) (nomark _))
            (pw_or1 (pt_cmpR op_ne (pe_callB call_isi rfl zI boot_isinstance (pa_cons (pv 0) (pa_cons (pe_bltn (v := .ty "str") rfl zs (by decide +kernel) rfl) pa_nil))) (pe_callB call_isi rfl zI boot_isinstance (pa_cons (pv 1) (pa_cons (pe_bltn (v := .ty "str") rfl zs (by decide +kernel) rfl) pa_nil))) (nomark _)))))
          (pss_one (ps_ret pe_bl)) pss_nil)
        (pss_one (ps_ret (pe_cmpR (op_eqD (u64 hr)) (pv 0) (pv 1) rfl))))), ?_⟩
      repeat walk_at "rd"
      refine r_isi (m := "tuple") (Dp.kd hy2) (by decide) ?_
      repeat walk_at "rd"
      refine r_if (fun c => ?_) (fun c => ?_)
      · have hq : isSeq (tyOf d) = true := isSeq_of1 (Dp.kd hy2).1 c
        repeat walk_at "rd"
        refine r_isi (m := "tuple") (Dp.kd hx2) (by decide) ?_
        repeat walk_at "rd"
        refine r_isi (m := "tuple") (Dp.kd hy2) (by decide) ?_
        repeat walk_at "rd"
        refine r_ne rfl ?_
        rw [decide_eq_true rfl]
        repeat walk_at "rd"
        refine r_isi (m := "list") (Dp.kd hx2) (by decide) ?_
        repeat walk_at "rd"
        refine r_isi (m := "list") (Dp.kd hy2) (by decide) ?_
        repeat walk_at "rd"
        refine r_ne rfl ?_
        rw [decide_eq_true rfl]
        repeat walk_at "rd"
        obtain ⟨m', ds, rfl, hd, hlen, hall⟩ := ln_seq hl hq
        obtain ⟨px, xs, rfl, sx, dx⟩ := dp_seq hx2 hd
        obtain ⟨py, ys, rfl, sy, dy⟩ := dp_seq hy2 hd
        have hlx := Dps.length dx
        have hly := Dps.length dy
        refine ⟨px, xs, rfl, sx, ?_⟩
        repeat walk_at "rd"
        refine ⟨py, ys, rfl, sy, ?_⟩
        repeat walk_at "rd"
        refine r_ne rfl ?_
        rw [decide_eq_true (by rw [hlx, hly])]
        repeat walk_at "rd"
        refine lcR (n := ys.length) (H0 := H) (fun R z => r_cb (r_cons (r_var (v := .ref py) rfl (r_nil ⟨py, ys, rfl, sy, z⟩)))) (by omega) (fun D j H' => Go G L H H' ∧ H' D = some (.lst [])) ?_ ?_ ?_
        · intro D hD
          exact ⟨Go.new hD, upd_same⟩
        · rintro D j H3 hD hj ⟨g3, e3⟩
          refine r_gN ⟨rfl, ?_⟩
          have hix : ∀ (p : Addr) (zs : List V) (z : V) (R : VK), (SqL K H3 p zs ∨ SqT K H3 p zs) → zs[j]? = some z → R z H3 → rIx K (.ref p) (.int (j : Nat)) H3 R := fun p zs z R hs hz hq => by
            rcases hs with h | h
            · exact .inl (r_ixL h (atI_nat hz) hq)
            · exact .inr (.inl (r_ixT h (atI_nat hz) hq))
          have hjx : j < xs.length := by omega
          obtain ⟨d1, h1, h2⟩ := Dps.get dx (List.getElem?_eq_getElem hjx)
          obtain ⟨d2, h3, h4⟩ := Dps.get dy (List.getElem?_eq_getElem hj)
          have e12 : d2 = d1 := Option.some.inj (h3.symm.trans h1)
          subst e12
          repeat walk_at "rd"
          refine hix px xs xs[j] _ (sq_go sx g3.1) (List.getElem?_eq_getElem hjx) ?_
          repeat walk_at "rd"
          refine hix py ys ys[j] _ (sq_go sy g3.1) (List.getElem?_eq_getElem hj) ?_
          repeat walk_at "rd"
          refine ⟨_, _, d2, m', rfl, rfl, Dp.go g3.1 h2, Dp.go g3.1 h4, hall d2 (List.mem_of_getElem? h1), by omega, fun H4 g4 => ?_⟩
          repeat walk_at "rd"
          exact ⟨g3.trans g4, g4.lst e3⟩
        · rintro D H3 hD ⟨g3, e3⟩
          repeat walk_at "rd"
          refine ⟨Nat.zero_le _, fun p4 hp4 => ?_⟩
          have g4 : Go G L H3 (upd H3 p4 (.lst [])) := Go.new hp4
          refine r_eqD (.lst (.of (g4.lst e3)) .nil) (.lst (.of upd_same) .nil) (by decide) (by decide) ?_
          have z := q _ (g3.trans g4)
          exact z
      · repeat walk_at "rd"
        refine r_isi (m := "list") (Dp.kd hy2) (by decide) ?_
        repeat walk_at "rd"
        refine r_if (fun c2 => ?_) (fun c2 => ?_)
        · have hq : isSeq (tyOf d) = true := isSeq_of2 (Dp.kd hy2).1 c2
          repeat walk_at "rd"
          refine r_isi (m := "tuple") (Dp.kd hx2) (by decide) ?_
          repeat walk_at "rd"
          refine r_isi (m := "tuple") (Dp.kd hy2) (by decide) ?_
          repeat walk_at "rd"
          refine r_ne rfl ?_
          rw [decide_eq_true rfl]
          repeat walk_at "rd"
          refine r_isi (m := "list") (Dp.kd hx2) (by decide) ?_
          repeat walk_at "rd"
          refine r_isi (m := "list") (Dp.kd hy2) (by decide) ?_
          repeat walk_at "rd"
          refine r_ne rfl ?_
          rw [decide_eq_true rfl]
          repeat walk_at "rd"
          obtain ⟨m', ds, rfl, hd, hlen, hall⟩ := ln_seq hl hq
          obtain ⟨px, xs, rfl, sx, dx⟩ := dp_seq hx2 hd
          obtain ⟨py, ys, rfl, sy, dy⟩ := dp_seq hy2 hd
          have hlx := Dps.length dx
          have hly := Dps.length dy
          refine ⟨px, xs, rfl, sx, ?_⟩
          repeat walk_at "rd"
          refine ⟨py, ys, rfl, sy, ?_⟩
          repeat walk_at "rd"
          refine r_ne rfl ?_
          rw [decide_eq_true (by rw [hlx, hly])]
          repeat walk_at "rd"
          refine lcR (n := ys.length) (H0 := H) (fun R z => r_cb (r_cons (r_var (v := .ref py) rfl (r_nil ⟨py, ys, rfl, sy, z⟩)))) (by omega) (fun D j H' => Go G L H H' ∧ H' D = some (.lst [])) ?_ ?_ ?_
          · intro D hD
            exact ⟨Go.new hD, upd_same⟩
          · rintro D j H3 hD hj ⟨g3, e3⟩
            refine r_gN ⟨rfl, ?_⟩
            have hix : ∀ (p : Addr) (zs : List V) (z : V) (R : VK), (SqL K H3 p zs ∨ SqT K H3 p zs) → zs[j]? = some z → R z H3 → rIx K (.ref p) (.int (j : Nat)) H3 R := fun p zs z R hs hz hq => by
              rcases hs with h | h
              · exact .inl (r_ixL h (atI_nat hz) hq)
              · exact .inr (.inl (r_ixT h (atI_nat hz) hq))
            have hjx : j < xs.length := by omega
            obtain ⟨d1, h1, h2⟩ := Dps.get dx (List.getElem?_eq_getElem hjx)
            obtain ⟨d2, h3, h4⟩ := Dps.get dy (List.getElem?_eq_getElem hj)
            have e12 : d2 = d1 := Option.some.inj (h3.symm.trans h1)
            subst e12
            repeat walk_at "rd"
            refine hix px xs xs[j] _ (sq_go sx g3.1) (List.getElem?_eq_getElem hjx) ?_
            repeat walk_at "rd"
            refine hix py ys ys[j] _ (sq_go sy g3.1) (List.getElem?_eq_getElem hj) ?_
            repeat walk_at "rd"
            refine ⟨_, _, d2, m', rfl, rfl, Dp.go g3.1 h2, Dp.go g3.1 h4, hall d2 (List.mem_of_getElem? h1), by omega, fun H4 g4 => ?_⟩
            repeat walk_at "rd"
            exact ⟨g3.trans g4, g4.lst e3⟩
          · rintro D H3 hD ⟨g3, e3⟩
            repeat walk_at "rd"
            refine ⟨Nat.zero_le _, fun p4 hp4 => ?_⟩
            have g4 : Go G L H3 (upd H3 p4 (.lst [])) := Go.new hp4
            refine r_eqD (.lst (.of (g4.lst e3)) .nil) (.lst (.of upd_same) .nil) (by decide) (by decide) ?_
            have z := q _ (g3.trans g4)
            exact z
        · repeat walk_at "rd"
          refine r_isi (m := "bool") (Dp.kd hx2) (by decide) ?_
          repeat walk_at "rd"
          refine r_isi (m := "bool") (Dp.kd hy2) (by decide) ?_
          repeat walk_at "rd"
          refine r_ne rfl ?_
          rw [decide_eq_true rfl]
          repeat walk_at "rd"
          refine r_isi (m := "int") (Dp.kd hx2) (by decide) ?_
          repeat walk_at "rd"
          refine r_isi (m := "int") (Dp.kd hy2) (by decide) ?_
          repeat walk_at "rd"
          refine r_ne rfl ?_
          rw [decide_eq_true rfl]
          repeat walk_at "rd"
          refine r_isi (m := "str") (Dp.kd hx2) (by decide) ?_
          repeat walk_at "rd"
          refine r_isi (m := "str") (Dp.kd hy2) (by decide) ?_
          repeat walk_at "rd"
          refine r_ne rfl ?_
          rw [decide_eq_true rfl]
          repeat walk_at "rd"
          refine r_eqD hx2 hy2 (lv_up (ln_lv _ _ hl) (by omega)) (lv_up (ln_lv _ _ hl) (by omega)) ?_
          rw [PySem.SeqAt.eqv_refl d (lv_ok _ _ (ln_lv _ _ hl)).1]
          exact q _ (Go.refl H)
end
def kinds5 : List Str := ["InvalidRules", "IllegalStep", "NotationError", "UnknownSwitch", "DecodeError", "InvalidState", "IllegalState", "InvalidStates", "InvalidOperation", "InvalidClause", "UnknownClause", "NoWay", "NoGoal", "TooManyClauses", "DifferentNames", "TooManySwitches", "LastSwitch", "InvalidName", "InvalidCount"]
def fldOf (x : Str) : List Str := if x = "InvalidRules" then ["part", "index"] else if x = "IllegalStep" then ["index", "clause"] else if x = "NotationError" then ["row", "word"] else if x = "UnknownSwitch" then ["name"] else if x = "DecodeError" then ["offset"]
  else if x = "InvalidState" ∨ x = "IllegalState" ∨ x = "InvalidStates" ∨ x = "InvalidOperation" then ["index"] else []
structure Rz5 (K : PySem.W.Frag) (mg : Str → Option Value) : Prop where
  zI : mg "isinstance" = none
  zV : mg "ValueError" = none
  gS : mg "StepError" = some (.ref (He.ga K "StepError"))
  gC : ∀ x ∈ kinds5, mg x = some (.ref (He.ga K x))
  ec : ∀ x ∈ kinds5, ExcC K (He.ga K x)
  xm : ∀ x ∈ kinds5, PySem.W.exmOne K (.ref (He.ga K x)) (.ref (He.ga K "StepError")) = some true
  kv : ∀ x ∈ kinds5, PySem.W.kitOne K (.ref (He.ga K x)) (.type "ValueError") = some true
  kt : ∀ x ∈ kinds5, ∀ y ∈ kinds5, PySem.W.kitOne K (.ref (He.ga K x)) (.ref (He.ga K y)) = some (decide (x = y))
  xf : ∀ x ∈ kinds5, fldOf x ≠ [] → XfC K (He.ga K x)
  nf : ∀ x ∈ kinds5, ∀ f ∈ fldOf x, PySem.W.findIn K (.ref (He.ga K x)) f = some none
/-- the fields, as data -/
def FldAt (d : Option Addr) (H : Hp) : List Str → List PyData → Prop
  | [], ds => ds = []
  | f :: fs, ds => ∃ dd kv v e es, ds = e :: es ∧ d = some dd ∧ H dd = some (.xd kv) ∧ kv.lookup f = some v ∧ Im H v e ∧ FldAt d H fs es
def Told5 (K : PySem.W.Frag) (cls : Value) (d : Option Addr) (H : Hp) (D : PyData) : Prop := ∃ x ds, x ∈ kinds5 ∧ cls = .ref (He.ga K x) ∧ D = .tuple (.str "error" :: .str x :: ds) ∧ FldAt d H (fldOf x) ds ∧ (d = none ∨ ∃ dd fs, d = some dd ∧ H dd = some (.xd fs))
def hits5 (x : Str) : List Bool := kinds5.map fun y => decide (x = y)
theorem hits5_one : ∀ x ∈ kinds5, (hits5 x).count true = 1 := by decide +kernel
theorem hits5_at : ∀ x ∈ kinds5, (hits5 x)[kinds5.idxOf x]? = some true ∧ ∀ m < kinds5.idxOf x, (hits5 x)[m]? = some false := by decide +kernel
theorem kinds5_at : ∀ x ∈ kinds5, kinds5[kinds5.idxOf x]? = some x ∧ kinds5.idxOf x < 19 := by decide +kernel
theorem kind_cases : ∀ x ∈ kinds5, (fldOf x = (["part", "index"] : List Str) ∧ kinds5.idxOf x = 0) ∨ (fldOf x = (["index", "clause"] : List Str) ∧ kinds5.idxOf x = 1) ∨ (fldOf x = (["row", "word"] : List Str) ∧ kinds5.idxOf x = 2) ∨ (fldOf x = (["name"] : List Str) ∧ kinds5.idxOf x = 3) ∨ (fldOf x = (["offset"] : List Str) ∧ kinds5.idxOf x = 4) ∨
    (fldOf x = (["index"] : List Str) ∧ 5 ≤ kinds5.idxOf x ∧ kinds5.idxOf x < 9) ∨ (fldOf x = ([] : List Str) ∧ 9 ≤ kinds5.idxOf x) := by decide +kernel
theorem nth_ne {j : Nat} {n : Int} (h : (j : Int) ≠ n) : decide (V.int (j : Int) = V.int n) = false := decide_eq_false fun e => h (V.int.inj e)
theorem nth_eq {j : Nat} {n : Int} (h : (j : Int) = n) : decide (V.int (j : Int) = V.int n) = true := decide_eq_true (by rw [h])
/-- what _law_told makes of a call: its value, or what it raised -/
def TR5 (K : PySem.W.Frag) (G : List Addr) (L : List (Addr × Str)) : (XK → Hp → VK → Prop) → Hp → VK → Prop := fun tl H Q => tl (fun cls d H' => ∃ D, Told5 K cls d H' D ∧ ∀ v H2, Go G L H' H2 → Im H2 v D → Q v H2) H Q
section
variable {G : List Addr} {L : List (Addr × Str)}
abbrev nTold : List Str := ["_law_work", "_law_e", "_law_some", "_law_terms", "_law_k", "_law_head"]
theorem scTold : FnScope nTold ["_law_work"] (defScope sTold) := C8.fnScope_by (by decide +kernel)
theorem r_is5 {K : PySem.W.Frag} {H : Hp} {Q : VK} {mg : Str → Option Value} {x y : Str} {d : Option Addr} {a : Addr} (R : Rz5 K mg) (hx : x ∈ kinds5) (hy : y ∈ kinds5) (hd : d = none ∨ ∃ dd fs, d = some dd ∧ H dd = some (.xd fs)) (q : Q (.bl (decide (x = y))) H) : rIsG K (.ref (He.ga K x)) d a [.ref a, .ref (He.ga K y)] H Q :=
  ⟨_, rfl, R.ec x hx, ⟨_, _, _, rfl, fun u h => h, R.kt x hx y hy, q⟩, hd⟩
theorem r_append2 {H : Hp} {Q : VK} {p : Addr} {xs ys : List V} {y : V} (hp : H p = some (.lst xs)) (hl : xs.length ≤ 5000) (e : xs ++ [y] = ys) (q : ∀ H1, H1 = upd H p (.lst ys) → Q .non H1) : rAppend (.ref p) [y] H Q := by
  subst e
  exact r_append hp hl (q _ rfl)
set_option maxHeartbeats 4000000 in
theorem told5_gives {X : Cx} {g : Addr} {cdg : Value} (R : Rz5 X.K X.mg) : GivesQ X nTold "_law_told" (defScope sTold) g cdg (defBody sTold) "_law_work" (TR5 X.K G L) := by
  intro f pre s H Q tl act hc h
  have gC : ∀ x, x ∈ kinds5 → X.mg x = some (.ref (He.ga X.K x)) := R.gC
  refine ⟨_, pss_one (ps_try_as (i := 1) (X := (cxOf C8.CX0 X.prog X.w X.K X.mg X.base nTold "_law_told" (defScope sTold) g cdg X.A X.stack s H C8.E0).nox) (c := .ref (He.ga X.K "StepError"))
      (tb := fun W D σ H => ∃ Ech : XK, (∀ cls d σ' H', Ech cls d H' → W cls d σ' H') ∧ σ[0]? = some (some (.ref f)) ∧ pre H ∧ tl Ech H D.rt)
      rfl rfl scTold.nd rfl rfl ⟨rfl, by decide, .inl R.gS⟩ L2.takes0 (fun W pn xe tk _ => ?_)
      (fun a oe cls d pn hz hf => pss_len (n := 6) rfl (pss_cons (ps_set (i := 2) scTold.nd rfl (Or.inl rfl) (pe_lst (pa_cons (pe_callB (call_isG hz hf) rfl R.zI boot_isinstance (pa_cons (pv 1) (pa_cons (pe_glob (v := .ref (He.ga X.K "InvalidRules")) rfl (gC "InvalidRules" (by decide)) rfl) pa_nil))) (pa_cons (pe_callB (call_isG hz hf) rfl R.zI boot_isinstance (pa_cons (pv 1) (pa_cons (pe_glob (v := .ref (He.ga X.K "IllegalStep")) rfl (gC "IllegalStep" (by decide)) rfl) pa_nil))) (pa_cons (pe_callB (call_isG hz hf) rfl R.zI boot_isinstance (pa_cons (pv 1) (pa_cons (pe_glob (v := .ref (He.ga X.K "NotationError")) rfl (gC "NotationError" (by decide)) rfl) pa_nil))) pa_nil)))))
        (pss_cons (ps_set (i := 2) scTold.nd rfl (Or.inl rfl) (pe_op op_cat (pv 2) (pe_lst (pa_cons (pe_callB (call_isG hz hf) rfl R.zI boot_isinstance (pa_cons (pv 1) (pa_cons (pe_glob (v := .ref (He.ga X.K "UnknownSwitch")) rfl (gC "UnknownSwitch" (by decide)) rfl) pa_nil))) (pa_cons (pe_callB (call_isG hz hf) rfl R.zI boot_isinstance (pa_cons (pv 1) (pa_cons (pe_glob (v := .ref (He.ga X.K "DecodeError")) rfl (gC "DecodeError" (by decide)) rfl) pa_nil))) (pa_cons (pe_callB (call_isG hz hf) rfl R.zI boot_isinstance (pa_cons (pv 1) (pa_cons (pe_glob (v := .ref (He.ga X.K "InvalidState")) rfl (gC "InvalidState" (by decide)) rfl) pa_nil))) pa_nil))))))
        (pss_cons (ps_set (i := 2) scTold.nd rfl (Or.inl rfl) (pe_op op_cat (pv 2) (pe_lst (pa_cons (pe_callB (call_isG hz hf) rfl R.zI boot_isinstance (pa_cons (pv 1) (pa_cons (pe_glob (v := .ref (He.ga X.K "IllegalState")) rfl (gC "IllegalState" (by decide)) rfl) pa_nil))) (pa_cons (pe_callB (call_isG hz hf) rfl R.zI boot_isinstance (pa_cons (pv 1) (pa_cons (pe_glob (v := .ref (He.ga X.K "InvalidStates")) rfl (gC "InvalidStates" (by decide)) rfl) pa_nil))) (pa_cons (pe_callB (call_isG hz hf) rfl R.zI boot_isinstance (pa_cons (pv 1) (pa_cons (pe_glob (v := .ref (He.ga X.K "InvalidOperation")) rfl (gC "InvalidOperation" (by decide)) rfl) pa_nil))) pa_nil))))))
        (pss_cons (ps_set (i := 2) scTold.nd rfl (Or.inl rfl) (pe_op op_cat (pv 2) (pe_lst (pa_cons (pe_callB (call_isG hz hf) rfl R.zI boot_isinstance (pa_cons (pv 1) (pa_cons (pe_glob (v := .ref (He.ga X.K "InvalidClause")) rfl (gC "InvalidClause" (by decide)) rfl) pa_nil))) (pa_cons (pe_callB (call_isG hz hf) rfl R.zI boot_isinstance (pa_cons (pv 1) (pa_cons (pe_glob (v := .ref (He.ga X.K "UnknownClause")) rfl (gC "UnknownClause" (by decide)) rfl) pa_nil))) (pa_cons (pe_callB (call_isG hz hf) rfl R.zI boot_isinstance (pa_cons (pv 1) (pa_cons (pe_glob (v := .ref (He.ga X.K "NoWay")) rfl (gC "NoWay" (by decide)) rfl) pa_nil))) pa_nil))))))
        (pss_cons (ps_set (i := 2) scTold.nd rfl (Or.inl rfl) (pe_op op_cat (pv 2) (pe_lst (pa_cons (pe_callB (call_isG hz hf) rfl R.zI boot_isinstance (pa_cons (pv 1) (pa_cons (pe_glob (v := .ref (He.ga X.K "NoGoal")) rfl (gC "NoGoal" (by decide)) rfl) pa_nil))) (pa_cons (pe_callB (call_isG hz hf) rfl R.zI boot_isinstance (pa_cons (pv 1) (pa_cons (pe_glob (v := .ref (He.ga X.K "TooManyClauses")) rfl (gC "TooManyClauses" (by decide)) rfl) pa_nil))) (pa_cons (pe_callB (call_isG hz hf) rfl R.zI boot_isinstance (pa_cons (pv 1) (pa_cons (pe_glob (v := .ref (He.ga X.K "DifferentNames")) rfl (gC "DifferentNames" (by decide)) rfl) pa_nil))) pa_nil))))))
        (pss_cons (ps_set (i := 2) scTold.nd rfl (Or.inl rfl) (pe_op op_cat (pv 2) (pe_lst (pa_cons (pe_callB (call_isG hz hf) rfl R.zI boot_isinstance (pa_cons (pv 1) (pa_cons (pe_glob (v := .ref (He.ga X.K "TooManySwitches")) rfl (gC "TooManySwitches" (by decide)) rfl) pa_nil))) (pa_cons (pe_callB (call_isG hz hf) rfl R.zI boot_isinstance (pa_cons (pv 1) (pa_cons (pe_glob (v := .ref (He.ga X.K "LastSwitch")) rfl (gC "LastSwitch" (by decide)) rfl) pa_nil))) (pa_cons (pe_callB (call_isG hz hf) rfl R.zI boot_isinstance (pa_cons (pv 1) (pa_cons (pe_glob (v := .ref (He.ga X.K "InvalidName")) rfl (gC "InvalidName" (by decide)) rfl) pa_nil))) pa_nil))))))
        (pss_cons (ps_expr (pe_bmU (X := (cxOf C8.CX0 X.prog X.w X.K X.mg X.base nTold "_law_told" (defScope sTold) g cdg X.A X.stack s H C8.E0).nox) (r := rAppend) PySem.F.plainAttrs_list PySem.F.slot_list_append PySem.F.type_list_append mt_append (pv 2) (pa_cons (pe_callB (call_isG hz hf) rfl R.zI boot_isinstance (pa_cons (pv 1) (pa_cons (pe_glob (v := .ref (He.ga X.K "InvalidCount")) rfl (gC "InvalidCount" (by decide)) rfl) pa_nil))) pa_nil)))
        (pss_cons (ps_set (i := 3) scTold.nd rfl (Or.inl rfl) (pe_lst (pa_cons pe_str (pa_cons pe_str (pa_cons pe_str (pa_cons pe_str (pa_cons pe_str (pa_cons pe_str pa_nil))))))))
        (pss_cons (ps_set (i := 3) scTold.nd rfl (Or.inl rfl) (pe_op op_cat (pv 3) (pe_lst (pa_cons pe_str (pa_cons pe_str (pa_cons pe_str (pa_cons pe_str (pa_cons pe_str pa_nil))))))))
        (pss_cons (ps_set (i := 3) scTold.nd rfl (Or.inl rfl) (pe_op op_cat (pv 3) (pe_lst (pa_cons pe_str (pa_cons pe_str (pa_cons pe_str (pa_cons pe_str (pa_cons pe_str (pa_cons pe_str pa_nil)))))))))
        (pss_cons (ps_set (i := 3) scTold.nd rfl (Or.inl rfl) (pe_op op_cat (pv 3) (pe_lst (pa_cons pe_str (pa_cons pe_str pa_nil)))))
        (pss_cons (ps_set (i := 4) scTold.nd rfl (Or.inl rfl) (pe_ifExp (PW.pt (pw_and (pt_cmpR op_eq (pe_bmU (X := (cxOf C8.CX0 X.prog X.w X.K X.mg X.base nTold "_law_told" (defScope sTold) g cdg X.A X.stack s H C8.E0).nox) (r := rCntB X.K) PySem.F.plainAttrs_list PySem.F.slot_list_count PySem.F.type_list_count mt_lcountB (pv 2) (pa_cons pe_bl pa_nil)) pe_int (nomark _)) (pw_and1 (pt_val (pe_callB (call_isG hz hf) rfl R.zI boot_isinstance (pa_cons (pv 1) (pa_cons (pe_bltn (v := .ty "ValueError") rfl R.zV (by decide +kernel) rfl) pa_nil))))))) (pe_bmU (X := (cxOf C8.CX0 X.prog X.w X.K X.mg X.base nTold "_law_told" (defScope sTold) g cdg X.A X.stack s H C8.E0).nox) (r := rIndex X.K) PySem.F.plainAttrs_list PySem.F.slot_list_index PySem.F.type_list_index mt_index (pv 2) (pa_cons pe_bl pa_nil)) pe_int))
        (pss_cons (ps_set (i := 5) scTold.nd rfl (Or.inl rfl) (pe_tup (pa_cons pe_str (pa_cons (pe_ifExp (pt_cmpR op_lt (pv 4) pe_int (nomark _)) (pe_ix (r := rIxL X.K) ix_list (pv 3) (pv 4) (fun _ _ => rfl)) pe_str) pa_nil))))
        (pss_cons (ps_if (pt_cmpR op_eq (pv 4) pe_int (nomark _)) (pss_one (ps_ret (pe_op (r := rCatA X.K) op_catA (pv 5) (pe_tup (pa_cons (pe_xfG hz hf (pv 1)) (pa_cons (pe_xfG hz hf (pv 1)) pa_nil)))))) pss_nil)
        (pss_cons (ps_if (pt_cmpR op_eq (pv 4) pe_int (nomark _)) (pss_one (ps_ret (pe_op (r := rCatA X.K) op_catA (pv 5) (pe_tup (pa_cons (pe_xfG hz hf (pv 1)) (pa_cons (pe_xfG hz hf (pv 1)) pa_nil)))))) pss_nil)
        (pss_cons (ps_if (pt_cmpR op_eq (pv 4) pe_int (nomark _)) (pss_one (ps_ret (pe_op (r := rCatA X.K) op_catA (pv 5) (pe_tup (pa_cons (pe_xfG hz hf (pv 1)) (pa_cons (pe_xfG hz hf (pv 1)) pa_nil)))))) pss_nil)
        (pss_cons (ps_if (pt_cmpR op_eq (pv 4) pe_int (nomark _)) (pss_one (ps_ret (pe_op (r := rCatA X.K) op_catA (pv 5) (pe_tup (pa_cons (pe_xfG hz hf (pv 1)) pa_nil))))) pss_nil)
        (pss_cons (ps_if (pt_cmpR op_eq (pv 4) pe_int (nomark _)) (pss_one (ps_ret (pe_op (r := rCatA X.K) op_catA (pv 5) (pe_tup (pa_cons (pe_xfG hz hf (pv 1)) pa_nil))))) pss_nil)
        (pss_one (ps_ret (pe_op (r := rCatA X.K) op_catA (pv 5) (pe_ifExp (pt_cmpR op_lt (pv 4) pe_int (nomark _)) (pe_tup (pa_cons (pe_xfG hz hf (pv 1)) pa_nil)) (pe_tup pa_nil))))))))))))))))))))))))), ?_⟩
  · refine ⟨fun pins s' σ H' D I h' => ?_⟩
    obtain ⟨Ech, hW, h1, h2, h3⟩ := h'
    exact (pss_one (ps_ret (act W pn xe Ech _ _ tk hW))).run pins s' σ H' D I ⟨h1, h2, h3⟩
  · refine ⟨_, fun cls d σ' H' h' => ?_, rfl, hc, h⟩
    obtain ⟨D, td, qD⟩ := h'
    obtain ⟨x, ds, hx, rfl, rfl, hfl, hd⟩ := td
    refine ⟨true, R.xm x hx, fun _ a ha hlen => ?_, fun z => by cases z⟩
    have hlen' : σ'.length = 6 := by
      rw [List.length_set] at hlen
      exact hlen
    obtain ⟨s0, s1, s2, s3, s4, s5, rfl⟩ : ∃ s0 s1 s2 s3 s4 s5, σ' = [s0, s1, s2, s3, s4, s5] := by
      match σ', hlen' with
      | [s0, s1, s2, s3, s4, s5], _ => exact ⟨s0, s1, s2, s3, s4, s5, rfl⟩
    clear hlen hlen'
    have gd : ∀ H1, Go G L H' H1 → (d = none ∨ ∃ dd fs, d = some dd ∧ H1 dd = some (.xd fs)) := fun H1 g => by
      rcases hd with z | ⟨dd, fs, z1, z2⟩
      · exact .inl z
      · exact .inr ⟨dd, fs, z1, g.1 dd _ z2 fun ps q => by cases q⟩
    have k0 : Kp H' H' := fun _ _ e => e
    repeat walk_at "rd"
    refine r_is5 R hx (by decide) (gd _ (Go.same k0)) ?_
    repeat walk_at "rd"
    refine r_is5 R hx (by decide) (gd _ (Go.same k0)) ?_
    repeat walk_at "rd"
    refine r_is5 R hx (by decide) (gd _ (Go.same k0)) ?_
    repeat walk_at "rd"
    refine ⟨(by show 3 ≤ sizeLine; decide), fun q0 hq0 => ?_⟩
    generalize hH : upd H' q0 _ = A0; obtain ⟨l0, f0⟩ := new_facts hH hq0; clear hH
    have k0a : Kp H' A0 := kp_t k0 l0
    repeat walk_at "rd"
    refine r_is5 R hx (by decide) (gd _ (Go.same k0a)) ?_
    repeat walk_at "rd"
    refine r_is5 R hx (by decide) (gd _ (Go.same k0a)) ?_
    repeat walk_at "rd"
    refine r_is5 R hx (by decide) (gd _ (Go.same k0a)) ?_
    repeat walk_at "rd"
    refine ⟨(by show 3 ≤ sizeLine; decide), fun q1 hq1 => ?_⟩
    generalize hH : upd A0 q1 _ = A1; obtain ⟨l1, f1⟩ := new_facts hH hq1; clear hH
    have k1a : Kp H' A1 := kp_t k0a l1
    refine r_cat (l1 _ _ f0) f1 (by show 6 ≤ 5000; decide) fun p1 B1 m1 n1 e1 => ?_
    have k1b : Kp H' B1 := kp_t k1a m1
    repeat walk_at "rd"
    refine r_is5 R hx (by decide) (gd _ (Go.same k1b)) ?_
    repeat walk_at "rd"
    refine r_is5 R hx (by decide) (gd _ (Go.same k1b)) ?_
    repeat walk_at "rd"
    refine r_is5 R hx (by decide) (gd _ (Go.same k1b)) ?_
    repeat walk_at "rd"
    refine ⟨(by show 3 ≤ sizeLine; decide), fun q2 hq2 => ?_⟩
    generalize hH : upd B1 q2 _ = A2; obtain ⟨l2, f2⟩ := new_facts hH hq2; clear hH
    have k2a : Kp H' A2 := kp_t k1b l2
    refine r_cat (l2 _ _ e1) f2 (by show 9 ≤ 5000; decide) fun p2 B2 m2 n2 e2 => ?_
    have k2b : Kp H' B2 := kp_t k2a m2
    repeat walk_at "rd"
    refine r_is5 R hx (by decide) (gd _ (Go.same k2b)) ?_
    repeat walk_at "rd"
    refine r_is5 R hx (by decide) (gd _ (Go.same k2b)) ?_
    repeat walk_at "rd"
    refine r_is5 R hx (by decide) (gd _ (Go.same k2b)) ?_
    repeat walk_at "rd"
    refine ⟨(by show 3 ≤ sizeLine; decide), fun q3 hq3 => ?_⟩
    generalize hH : upd B2 q3 _ = A3; obtain ⟨l3, f3⟩ := new_facts hH hq3; clear hH
    have k3a : Kp H' A3 := kp_t k2b l3
    refine r_cat (l3 _ _ e2) f3 (by show 12 ≤ 5000; decide) fun p3 B3 m3 n3 e3 => ?_
    have k3b : Kp H' B3 := kp_t k3a m3
    repeat walk_at "rd"
    refine r_is5 R hx (by decide) (gd _ (Go.same k3b)) ?_
    repeat walk_at "rd"
    refine r_is5 R hx (by decide) (gd _ (Go.same k3b)) ?_
    repeat walk_at "rd"
    refine r_is5 R hx (by decide) (gd _ (Go.same k3b)) ?_
    repeat walk_at "rd"
    refine ⟨(by show 3 ≤ sizeLine; decide), fun q4 hq4 => ?_⟩
    generalize hH : upd B3 q4 _ = A4; obtain ⟨l4, f4⟩ := new_facts hH hq4; clear hH
    have k4a : Kp H' A4 := kp_t k3b l4
    refine r_cat (l4 _ _ e3) f4 (by show 15 ≤ 5000; decide) fun p4 B4 m4 n4 e4 => ?_
    have k4b : Kp H' B4 := kp_t k4a m4
    repeat walk_at "rd"
    refine r_is5 R hx (by decide) (gd _ (Go.same k4b)) ?_
    repeat walk_at "rd"
    refine r_is5 R hx (by decide) (gd _ (Go.same k4b)) ?_
    repeat walk_at "rd"
    refine r_is5 R hx (by decide) (gd _ (Go.same k4b)) ?_
    repeat walk_at "rd"
    refine ⟨(by show 3 ≤ sizeLine; decide), fun q5 hq5 => ?_⟩
    generalize hH : upd B4 q5 _ = A5; obtain ⟨l5, f5⟩ := new_facts hH hq5; clear hH
    have k5a : Kp H' A5 := kp_t k4b l5
    refine r_cat (l5 _ _ e4) f5 (by show 18 ≤ 5000; decide) fun p5 B5 m5 n5 e5 => ?_
    have k5b : Kp H' B5 := kp_t k5a m5
    repeat walk_at "rd"
    refine ⟨.inl ⟨rfl, _, SqL.of e5⟩, ?_⟩
    repeat walk_at "rd"
    refine r_is5 R hx (by decide) (gd _ (Go.same k5b)) ?_
    repeat walk_at "rd"
    refine r_append2 e5 (by show 18 ≤ 5000; decide) (ys := (hits5 x).map V.bl) rfl fun C0 hC0 => ?_
    have nP : H' p5 = none := by
      cases hz : H' p5 with
      | none => rfl
      | some o =>
        have z := k5a _ _ hz
        rw [n5] at z
        cases z
    have g6 : Go G L H' C0 := by
      rw [hC0]
      exact (Go.same k5b).updNew nP e5
    have e6 : C0 p5 = some (.lst ((hits5 x).map V.bl)) := by
      rw [hC0]
      exact upd_same
    clear hC0 e5 n5 k5a k5b nP
    repeat walk_at "rd"
    refine ⟨(by show 6 ≤ sizeLine; decide), fun r0 hr0 => ?_⟩
    generalize hH : upd C0 r0 _ = C1; obtain ⟨j1, t1⟩ := new_facts hH hr0; clear hH
    have e6a := j1 _ _ e6
    have g7 : Go G L H' C1 := g6.trans (Go.same j1)
    repeat walk_at "rd"
    refine ⟨(by show 5 ≤ sizeLine; decide), fun r2 hr2 => ?_⟩
    generalize hH : upd C1 r2 _ = C2; obtain ⟨j2, t2⟩ := new_facts hH hr2; clear hH
    refine r_cat (j2 _ _ t1) t2 (by show 11 ≤ 5000; decide) fun u3 C3 j3 _ t3 => ?_
    have e6b := j3 _ _ (j2 _ _ e6a)
    have g8 : Go G L H' C3 := (g7.trans (Go.same j2)).trans (Go.same j3)
    repeat walk_at "rd"
    refine ⟨(by show 6 ≤ sizeLine; decide), fun r4 hr4 => ?_⟩
    generalize hH : upd C3 r4 _ = C4; obtain ⟨j4, t4⟩ := new_facts hH hr4; clear hH
    refine r_cat (j4 _ _ t3) t4 (by show 17 ≤ 5000; decide) fun u5 C5 j5 _ t5 => ?_
    have e6c := j5 _ _ (j4 _ _ e6b)
    have g9 : Go G L H' C5 := (g8.trans (Go.same j4)).trans (Go.same j5)
    repeat walk_at "rd"
    refine ⟨(by show 2 ≤ sizeLine; decide), fun r6 hr6 => ?_⟩
    generalize hH : upd C5 r6 _ = C6; obtain ⟨j6, t6⟩ := new_facts hH hr6; clear hH
    refine r_cat (j6 _ _ t5) t6 (by show 19 ≤ 5000; decide) fun u7 C7 j7 _ t7 => ?_
    have e6d := j7 _ _ (j6 _ _ e6c)
    have g10 : Go G L H' C7 := (g9.trans (Go.same j6)).trans (Go.same j7)
    have eT : C7 u7 = some (.lst (kinds5.map V.str)) := t7
    clear t1 t2 t3 t4 t5 t6 t7 e6 e6a e6b e6c
    obtain ⟨i1, i2⟩ := hits5_at x hx
    obtain ⟨i3, i4⟩ := kinds5_at x hx
    repeat walk_at "rd"
    refine ⟨.inl ⟨rfl, _, SqL.of e6d⟩, ?_⟩
    repeat walk_at "rd"
    refine ⟨p5, hits5 x, true, rfl, rfl, .of e6d, ?_⟩
    rw [hits5_one x hx]
    repeat walk_at "rd"
    refine r_eq rfl ?_
    rw [show decide (V.int ((1 : Nat) : Int) = V.int 1) = true from decide_eq_true rfl]
    repeat walk_at "rd"
    refine ⟨_, rfl, R.ec x hx, ⟨.ty "ValueError", .type "ValueError", true, rfl, fun u h => h, R.kv x hx, ?_⟩, gd _ g10⟩
    repeat walk_at "rd"
    refine ⟨.inl ⟨rfl, _, SqL.of e6d⟩, ?_⟩
    repeat walk_at "rd"
    refine ⟨p5, (hits5 x).map V.bl, .bl true, kinds5.idxOf x, .bl true, rfl, rfl, .of e6d, rfl, ?_, by rw [List.getElem?_map, i1]; rfl, rfl, fun m z' hm hz => ?_, ?_⟩
    · rw [List.all_eq_true]
      intro z hz
      obtain ⟨b, _, e⟩ := List.mem_map.mp hz
      rw [← e]
      rfl
    · rw [List.getElem?_map, i2 m hm] at hz
      rw [← Option.some.inj hz]
      rfl
    · repeat walk_at "rd"
      refine r_if (fun _ => ?_) (fun c => absurd (of_decide_eq_false c) (by omega))
      repeat walk_at "rd"
      refine r_ixL (.of eT) (v := .str x) (atI_nat (by rw [List.getElem?_map, i3]; rfl)) ?_
      repeat walk_at "rd"
      refine ⟨(by show 2 ≤ sizeLine; decide), fun ph hph => ?_⟩
      generalize hH : upd C7 ph _ = C8; obtain ⟨j8, t8⟩ := new_facts hH hph; clear hH
      have g11 : Go G L H' C8 := g10.trans (Go.same j8)
      clear eT e6d i1 i2 i3
      have fin : ∀ (vs : List V) (es : List PyData) (pt : Addr) (C9 : Hp), Kp C8 C9 → C9 pt = some (.tup vs) → Ims C9 vs es → vs ≠ [] → vs.length ≤ 5 → ds = es → rCatA X.K (.ref ph) (.ref pt) C9 Q := fun vs es pt C9 k e im hne hl he => by
        subst he
        refine ⟨ph, pt, [.str "error", .str x], vs, rfl, rfl, .of (k _ _ t8), .of e, ?_, fun h => (by cases h), fun _ h => absurd h hne, fun _ _ pr hpr => ?_⟩
        · rw [sizeLine_eq]
          show 2 + vs.length ≤ _
          omega
        generalize hH : upd C9 pr _ = C10; obtain ⟨j10, t10⟩ := new_facts hH hpr; clear hH
        exact qD (.ref pr) C10 ((g11.trans (Go.same k)).trans (Go.same j10)) (.tup (.inl t10) (.cons (.str _) (.cons (.str _) (im.kt (kp_kt j10)))))
      repeat walk_at "rd"
      rcases kind_cases x hx with ⟨hf, hj⟩ | ⟨hf, hj⟩ | ⟨hf, hj⟩ | ⟨hf, hj⟩ | ⟨hf, hj⟩ | ⟨hf, hj, hj2⟩ | ⟨hf, hj⟩
      · rw [hf] at hfl
        obtain ⟨dd, kv0, v0, e0, es0, rfl, rfl, x0, k0, im0, hfl⟩ := hfl
        obtain ⟨dd1, kv1, v1, e1, es1, rfl, ed, x1, k1, im1, hfl⟩ := hfl
        obtain rfl : dd = dd1 := Option.some.inj ed
        have hfl0 : _ = [] := hfl
        subst hfl0
        clear gd
        refine r_eq rfl ?_
        rw [nth_eq (by omega)]
        repeat walk_at "rd"
        refine r_xf (R.xf x hx (by rw [hf]; decide)) (R.nf x hx "part" (by rw [hf]; decide)) (fun R z => ⟨_, rfl, z⟩) (g11.1 dd _ x0 fun ps q => by cases q) k0 ?_
        repeat walk_at "rd"
        refine r_xf (R.xf x hx (by rw [hf]; decide)) (R.nf x hx "index" (by rw [hf]; decide)) (fun R z => ⟨_, rfl, z⟩) (g11.1 dd _ x1 fun ps q => by cases q) k1 ?_
        repeat walk_at "rd"
        refine ⟨(by show 2 ≤ sizeLine; decide), fun pt hpt => ?_⟩
        generalize hH : upd C8 pt _ = C9; obtain ⟨j9, t9⟩ := new_facts hH hpt; clear hH
        exact fin [v0, v1] [e0, e1] pt C9 j9 t9 (.cons (im0.kt (g11.trans (Go.same (G := G) (L := L) j9)).kt) (.cons (im1.kt (g11.trans (Go.same (G := G) (L := L) j9)).kt) .nil)) (by simp) (by show 2 ≤ 5; decide) rfl
      · rw [hf] at hfl
        obtain ⟨dd, kv0, v0, e0, es0, rfl, rfl, x0, k0, im0, hfl⟩ := hfl
        obtain ⟨dd1, kv1, v1, e1, es1, rfl, ed, x1, k1, im1, hfl⟩ := hfl
        obtain rfl : dd = dd1 := Option.some.inj ed
        have hfl0 : _ = [] := hfl
        subst hfl0
        clear gd
        refine r_eq rfl ?_
        rw [nth_ne (by omega)]
        repeat walk_at "rd"
        refine r_eq rfl ?_
        rw [nth_eq (by omega)]
        repeat walk_at "rd"
        refine r_xf (R.xf x hx (by rw [hf]; decide)) (R.nf x hx "index" (by rw [hf]; decide)) (fun R z => ⟨_, rfl, z⟩) (g11.1 dd _ x0 fun ps q => by cases q) k0 ?_
        repeat walk_at "rd"
        refine r_xf (R.xf x hx (by rw [hf]; decide)) (R.nf x hx "clause" (by rw [hf]; decide)) (fun R z => ⟨_, rfl, z⟩) (g11.1 dd _ x1 fun ps q => by cases q) k1 ?_
        repeat walk_at "rd"
        refine ⟨(by show 2 ≤ sizeLine; decide), fun pt hpt => ?_⟩
        generalize hH : upd C8 pt _ = C9; obtain ⟨j9, t9⟩ := new_facts hH hpt; clear hH
        exact fin [v0, v1] [e0, e1] pt C9 j9 t9 (.cons (im0.kt (g11.trans (Go.same (G := G) (L := L) j9)).kt) (.cons (im1.kt (g11.trans (Go.same (G := G) (L := L) j9)).kt) .nil)) (by simp) (by show 2 ≤ 5; decide) rfl
      · rw [hf] at hfl
        obtain ⟨dd, kv0, v0, e0, es0, rfl, rfl, x0, k0, im0, hfl⟩ := hfl
        obtain ⟨dd1, kv1, v1, e1, es1, rfl, ed, x1, k1, im1, hfl⟩ := hfl
        obtain rfl : dd = dd1 := Option.some.inj ed
        have hfl0 : _ = [] := hfl
        subst hfl0
        clear gd
        refine r_eq rfl ?_
        rw [nth_ne (by omega)]
        repeat walk_at "rd"
        refine r_eq rfl ?_
        rw [nth_ne (by omega)]
        repeat walk_at "rd"
        refine r_eq rfl ?_
        rw [nth_eq (by omega)]
        repeat walk_at "rd"
        refine r_xf (R.xf x hx (by rw [hf]; decide)) (R.nf x hx "row" (by rw [hf]; decide)) (fun R z => ⟨_, rfl, z⟩) (g11.1 dd _ x0 fun ps q => by cases q) k0 ?_
        repeat walk_at "rd"
        refine r_xf (R.xf x hx (by rw [hf]; decide)) (R.nf x hx "word" (by rw [hf]; decide)) (fun R z => ⟨_, rfl, z⟩) (g11.1 dd _ x1 fun ps q => by cases q) k1 ?_
        repeat walk_at "rd"
        refine ⟨(by show 2 ≤ sizeLine; decide), fun pt hpt => ?_⟩
        generalize hH : upd C8 pt _ = C9; obtain ⟨j9, t9⟩ := new_facts hH hpt; clear hH
        exact fin [v0, v1] [e0, e1] pt C9 j9 t9 (.cons (im0.kt (g11.trans (Go.same (G := G) (L := L) j9)).kt) (.cons (im1.kt (g11.trans (Go.same (G := G) (L := L) j9)).kt) .nil)) (by simp) (by show 2 ≤ 5; decide) rfl
      · rw [hf] at hfl
        obtain ⟨dd, kv0, v0, e0, es0, rfl, rfl, x0, k0, im0, hfl⟩ := hfl
        have hfl0 : _ = [] := hfl
        subst hfl0
        clear gd
        refine r_eq rfl ?_
        rw [nth_ne (by omega)]
        repeat walk_at "rd"
        refine r_eq rfl ?_
        rw [nth_ne (by omega)]
        repeat walk_at "rd"
        refine r_eq rfl ?_
        rw [nth_ne (by omega)]
        repeat walk_at "rd"
        refine r_eq rfl ?_
        rw [nth_eq (by omega)]
        repeat walk_at "rd"
        refine r_xf (R.xf x hx (by rw [hf]; decide)) (R.nf x hx "name" (by rw [hf]; decide)) (fun R z => ⟨_, rfl, z⟩) (g11.1 dd _ x0 fun ps q => by cases q) k0 ?_
        repeat walk_at "rd"
        refine ⟨(by show 1 ≤ sizeLine; decide), fun pt hpt => ?_⟩
        generalize hH : upd C8 pt _ = C9; obtain ⟨j9, t9⟩ := new_facts hH hpt; clear hH
        exact fin [v0] [e0] pt C9 j9 t9 (.cons (im0.kt (g11.trans (Go.same (G := G) (L := L) j9)).kt) .nil) (by simp) (by show 1 ≤ 5; decide) rfl
      · rw [hf] at hfl
        obtain ⟨dd, kv0, v0, e0, es0, rfl, rfl, x0, k0, im0, hfl⟩ := hfl
        have hfl0 : _ = [] := hfl
        subst hfl0
        clear gd
        refine r_eq rfl ?_
        rw [nth_ne (by omega)]
        repeat walk_at "rd"
        refine r_eq rfl ?_
        rw [nth_ne (by omega)]
        repeat walk_at "rd"
        refine r_eq rfl ?_
        rw [nth_ne (by omega)]
        repeat walk_at "rd"
        refine r_eq rfl ?_
        rw [nth_ne (by omega)]
        repeat walk_at "rd"
        refine r_eq rfl ?_
        rw [nth_eq (by omega)]
        repeat walk_at "rd"
        refine r_xf (R.xf x hx (by rw [hf]; decide)) (R.nf x hx "offset" (by rw [hf]; decide)) (fun R z => ⟨_, rfl, z⟩) (g11.1 dd _ x0 fun ps q => by cases q) k0 ?_
        repeat walk_at "rd"
        refine ⟨(by show 1 ≤ sizeLine; decide), fun pt hpt => ?_⟩
        generalize hH : upd C8 pt _ = C9; obtain ⟨j9, t9⟩ := new_facts hH hpt; clear hH
        exact fin [v0] [e0] pt C9 j9 t9 (.cons (im0.kt (g11.trans (Go.same (G := G) (L := L) j9)).kt) .nil) (by simp) (by show 1 ≤ 5; decide) rfl
      · rw [hf] at hfl
        obtain ⟨dd, kv0, v0, e0, es0, rfl, rfl, x0, k0, im0, hfl⟩ := hfl
        have hfl0 : _ = [] := hfl
        subst hfl0
        clear gd
        refine r_eq rfl ?_
        rw [nth_ne (by omega)]
        repeat walk_at "rd"
        refine r_eq rfl ?_
        rw [nth_ne (by omega)]
        repeat walk_at "rd"
        refine r_eq rfl ?_
        rw [nth_ne (by omega)]
        repeat walk_at "rd"
        refine r_eq rfl ?_
        rw [nth_ne (by omega)]
        repeat walk_at "rd"
        refine r_eq rfl ?_
        rw [nth_ne (by omega)]
        repeat walk_at "rd"
        refine r_if (fun _ => ?_) (fun c => absurd (of_decide_eq_false c) (by omega))
        repeat walk_at "rd"
        refine r_xf (R.xf x hx (by rw [hf]; decide)) (R.nf x hx "index" (by rw [hf]; decide)) (fun R z => ⟨_, rfl, z⟩) (g11.1 dd _ x0 fun ps q => by cases q) k0 ?_
        repeat walk_at "rd"
        refine ⟨(by show 1 ≤ sizeLine; decide), fun pt hpt => ?_⟩
        generalize hH : upd C8 pt _ = C9; obtain ⟨j9, t9⟩ := new_facts hH hpt; clear hH
        exact fin [v0] [e0] pt C9 j9 t9 (.cons (im0.kt (g11.trans (Go.same (G := G) (L := L) j9)).kt) .nil) (by simp) (by show 1 ≤ 5; decide) rfl
      · rw [hf] at hfl
        have hfl0 : ds = [] := hfl
        subst hfl0
        refine r_eq rfl ?_
        rw [nth_ne (by omega)]
        repeat walk_at "rd"
        refine r_eq rfl ?_
        rw [nth_ne (by omega)]
        repeat walk_at "rd"
        refine r_eq rfl ?_
        rw [nth_ne (by omega)]
        repeat walk_at "rd"
        refine r_eq rfl ?_
        rw [nth_ne (by omega)]
        repeat walk_at "rd"
        refine r_eq rfl ?_
        rw [nth_ne (by omega)]
        repeat walk_at "rd"
        refine r_if (fun c => absurd (of_decide_eq_true c) (by omega)) (fun _ => ?_)
        repeat walk_at "rd"
        refine ⟨(by show 0 ≤ sizeLine; decide), fun pt hpt => ?_⟩
        generalize hH : upd C8 pt _ = C9; obtain ⟨j9, t9⟩ := new_facts hH hpt; clear hH
        refine ⟨ph, pt, [.str "error", .str x], [], rfl, rfl, .of (j9 _ _ t8), .of t9, by show 2 ≤ sizeLine; decide, fun h => (by cases h), fun _ _ => ?_, fun _ h => absurd rfl h⟩
        exact qD (.ref ph) C9 (g11.trans (Go.same j9)) (.tup (.inl (j9 _ _ t8)) (.cons (.str _) (.cons (.str _) .nil)))
end
section
variable {P : Program} {w : World} {K : PySem.W.Frag} {mg : Str → Option Value} {base : Heap} {G : List Addr} {L : List (Addr × Str)}
end
section
variable {P : Program} {w : World} {K : PySem.W.Frag} {mg : Str → Option Value} {base : Heap} {G : List Addr} {L : List (Addr × Str)}
end
section
variable {P : Program} {w : World} {K : PySem.W.Frag} {mg : Str → Option Value} {base : Heap} {G : List Addr} {L : List (Addr × Str)}
end
theorem r_gp {t : TS} {D : GEnds} {ys : List V} {σ : L2.St} {H : Hp} (h : t (D.at ys) σ H) : tPlain t D ys σ H := h
section
variable {P : Program} {w : World} {K : PySem.W.Frag} {mg : Str → Option Value} {base : Heap} {G : List Addr} {L : List (Addr × Str)}
end
/-- one of these errors -/
def EOf (K : PySem.W.Frag) (ks : List Str) (E : XK) : XK := fun cls d H => (∃ x, x ∈ ks ∧ cls = .ref (He.ga K x)) ∧ E cls d H
/-- none of these is a StopIteration -/
def NoSt (K : PySem.W.Frag) (ks : List Str) : Prop := ∀ x ∈ ks, PySem.W.subIn K (.ref (He.ga K x)) (.type "StopIteration") = some false
theorem NoSt.stop {K : PySem.W.Frag} {ks : List Str} (h : NoSt K ks) (E : XK) : NoStop K (EOf K ks E) := fun cls d H z => by
  obtain ⟨⟨x, hx, rfl⟩, _⟩ := z
  exact h x hx
section
variable {P : Program} {w : World} {K : PySem.W.Frag} {mg : Str → Option Value} {base : Heap} {G : List Addr} {L : List (Addr × Str)}
theorem told_inv {cls : Value} {d : Option Addr} {H : Hp} {i : Nat} (h : Told K cls d H (invD i)) : cls = .ref (He.ga K "InvalidState") := by
  rcases h with ⟨a, p, i, e1, e2, e3, e4⟩ | ⟨a, i, e1, e2, e3, e4⟩ | ⟨e1, e2, e4⟩ | ⟨e1, e2, e4⟩ | ⟨e1, e2, e4⟩ | ⟨a, i, e1, e2, e3, e4⟩ | ⟨a, i, j, e1, e2, e3, e4⟩ | ⟨a, v, e, e1, e2, e3, _, e4⟩ | ⟨a, v, e, e1, e2, e3, _, e4⟩
  case inr.inl => exact e1
  all_goals
    unfold invD at e4
    try unfold rulesE at e4
    simp at e4
  all_goals first | exact absurd e4 (by decide +kernel) | exact absurd e4.1 (by decide +kernel)
/-- the two classes of the clause -/
def twoN : List Str := ["InvalidState", "IllegalState"]
structure Ec2 (K : PySem.W.Frag) (mg : Str → Option Value) : Prop where
  g : ∀ x ∈ twoN, mg x = some (.ref (He.ga K x))
  m : ∀ x ∈ twoN, ∀ y ∈ twoN, PySem.W.exmOne K (.ref (He.ga K x)) (.ref (He.ga K y)) = some (decide (x = y))
theorem forEL {σ : L2.St} {H : Hp} {D : Ends} {te : TE} {g : TG} {tb : TS} {a : Addr} {xs : List V} (he : ∀ R : VK, R (.ref a) H → te σ H R) (hq : SqL K H a xs) (Pv : Nat → L2.St → Hp → Prop) (h0 : Pv 0 σ H) (hG : ∀ i σ H, i ≤ xs.length → Pv i σ H → SqL K H a xs)
    (hs : ∀ i x T σ H H', xs[i]? = some x → H T = none → H' = upd H T (.tup [.int (i : Nat), x]) → Pv i σ H → g (.ref T) σ H' fun σ2 H2 => tb { D with nx := Pv (i + 1), ct := Pv (i + 1), bk := D.nx } σ2 H2) (hd : ∀ σ H, Pv xs.length σ H → D.nx σ H) :
    tFor (iEnum K (tCons te tNil)) g tb D σ H := by
  refine he _ ⟨a, xs, rfl, hq, for_it walk_enum Pv h0 hG ?_ hd⟩
  rintro i x σ H1 H2 hi p ⟨T, x1, y, ev, hT, eH, e1, e2⟩
  cases e1
  rw [ev]
  exact hs i y T σ H1 H2 e2 hT eH p
def items : PyData → List PyData
  | .tuple ds => ds
  | _ => []
end
section
variable {P : Program} {w : World} {K : PySem.W.Frag} {mg : Str → Option Value} {base : Heap} {G : List Addr} {L : List (Addr × Str)}
/-- which clauses a state breaks -/
def bkD (cd : List PyData) (s : List Str) : List Nat := brokenFrom (s.map PyData.str) 0 cd
theorem eqv_nats (l m : List Nat) : PyData.eqv (.list (l.map fun i => .int (i : Nat))) (.list (m.map fun i => .int (i : Nat))) = decide (l = m) := by
  have key : ∀ l m : List Nat, PyData.eqvAll (l.map fun i => PyData.int (i : Nat)) (m.map fun i => PyData.int (i : Nat)) = decide (l = m) := by
    intro l
    induction l with
    | nil => intro m; cases m <;> simp [PyData.eqvAll]
    | cons x l ih =>
      intro m
      cases m with
      | nil => simp [PyData.eqvAll]
      | cons y m =>
        simp only [List.map_cons, PyData.eqvAll, ih]
        by_cases h : x = y
        · subst h
          by_cases h2 : l = m <;> simp [PyData.eqv, h2]
        · have h' : ¬ (x : Int) = (y : Int) := fun z => h (by omega)
          simp [PyData.eqv, h, h']
  simpa [PyData.eqv] using key l m
/-- lists of numbers, elsewhere than at D -/
def LsAt (D : Addr) (H : Hp) (vs : List V) (ls : List (List Nat)) : Prop := vs.length = ls.length ∧ ∀ (i : Nat) (v : V), vs[i]? = some v → ∃ (p : Addr) (l : List Nat), ls[i]? = some l ∧ v = .ref p ∧ p ≠ D ∧ H p = some (.lst (l.map fun i => V.int (i : Nat)))
theorem LsAt.go {D : Addr} {H H' : Hp} {vs : List V} {ls : List (List Nat)} (h : LsAt D H vs ls) (g : Go G L H H') : LsAt D H' vs ls := ⟨h.1, fun i v e => by
  obtain ⟨p, l, e1, e2, e3, e4⟩ := h.2 i v e
  exact ⟨p, l, e1, e2, e3, g.lst e4⟩⟩
theorem LsAt.upd {D : Addr} {H : Hp} {vs : List V} {ls : List (List Nat)} {o : HO} (h : LsAt D H vs ls) : LsAt D (L2.upd H D o) vs ls := ⟨h.1, fun i v e => by
  obtain ⟨p, l, e1, e2, e3, e4⟩ := h.2 i v e
  exact ⟨p, l, e1, e2, e3, by rw [upd_ne e3]; exact e4⟩⟩
theorem LsAt.snoc {D : Addr} {H : Hp} {vs : List V} {ls : List (List Nat)} {p : Addr} {l : List Nat} (h : LsAt D H vs ls) (np : p ≠ D) (hp : H p = some (.lst (l.map fun i => V.int (i : Nat)))) : LsAt D H (vs ++ [V.ref p]) (ls ++ [l]) := ⟨by rw [List.length_append, List.length_append, h.1]; rfl, fun i v e => by
  by_cases hi : i < vs.length
  · rw [List.getElem?_append_left hi] at e
    obtain ⟨q, m, e1, e2⟩ := h.2 i v e
    exact ⟨q, m, by rw [List.getElem?_append_left (by rw [← h.1]; exact hi)]; exact e1, e2⟩
  · rw [List.getElem?_append_right (by omega)] at e
    have e0 : i - vs.length = 0 := by
      rcases Nat.eq_zero_or_pos (i - vs.length) with z | z
      · exact z
      · rw [List.getElem?_eq_none (by show 1 ≤ _; omega)] at e
        cases e
    rw [e0] at e
    cases e
    exact ⟨p, l, by rw [List.getElem?_append_right (by rw [← h.1]; omega), ← h.1, e0]; rfl, rfl, np, hp⟩⟩
theorem LsAt.dps {D : Addr} {H : Hp} : ∀ {vs : List V} {ls : List (List Nat)}, LsAt D H vs ls → DpAll K H vs (ls.map fun l => .list (l.map fun i => .int (i : Nat)))
  | [], [], _ => .nil
  | [], l :: ls, h => by have z := h.1; simp at z
  | v :: vs, [], h => by have z := h.1; simp at z
  | v :: vs, l :: ls, h => by
    obtain ⟨p, l', e1, rfl, _, e4⟩ := h.2 0 v rfl
    cases e1
    refine .cons (.lst (.of e4) (Ims.dp (ims_ints l))) (LsAt.dps (D := D) ⟨by have z := h.1; simpa using z, fun i x e => ?_⟩)
    obtain ⟨q, m, f1, f2⟩ := h.2 (i + 1) x (by simpa using e)
    exact ⟨q, m, by simpa using f1, f2⟩
theorem any_nats (k : Nat) : ∀ ls : List (List Nat), ((ls.map fun l => PyData.list (l.map fun i => PyData.int (i : Nat))).any fun z => PyData.eqv z (.list [.int (k : Nat)])) = decide ([k] ∈ ls)
  | [] => by simp
  | l :: ls => by
    rw [List.map_cons, List.any_cons, any_nats k ls]
    have e := eqv_nats l [k]
    rw [show (([k] : List Nat).map fun i => PyData.int (i : Nat)) = [PyData.int (k : Nat)] from rfl] at e
    rw [e]
    by_cases h : l = [k]
    · subst h; simp
    · have h' : ¬ [k] = l := fun z => h z.symm
      simp [h, h']
theorem lv_nats (n : Nat) (l : List Nat) : lv (n + 1) (.list (l.map fun i => .int (i : Nat))) = true := lv_lst fun d hd => by
  obtain ⟨i, _, rfl⟩ := List.mem_map.mp hd
  cases n <;> rfl
end
section
variable {P : Program} {w : World} {K : PySem.W.Frag} {mg : Str → Option Value} {base : Heap} {G : List Addr} {L : List (Addr × Str)}
structure TzD (K : PySem.W.Frag) (mg : Str → Option Value) : Prop where
  rz : Rz5 K mg
  ex : ∃ (g : Addr) (fd : FuncData), Fun K "_law_told" "_law_told" sTold g fd ∧ mg "_law_told" = some (.ref g) ∧ Binds K fd ["_law_work"] []
theorem pe_fdL {X : Cx} {A : Around} {outer : List Env} {s : Shared} {H : Hp} {E : XK} {sc : Scope} {fL c' : Addr} {j : Nat} {x : Str} {k : Nat} {sp : Sp} {e : Expr} {es : List Expr} {t : TA} {p pos : Pos} (c : Fd (L2.CX X.prog X.w) X.prog X.w X.K X.mg X.base x k sp) (hr : Room j (A.deeper (LamX.lamEnv X sc s.heap.objs.size fL c'))) (ha : PA (LamX.lamCx X A outer s H E sc fL c') (e :: es) t) (hk : k ≤ j := by decide) (hg : Gl (LamX.lamCx X A outer s H E sc fL c') x := by rfl)
    (hd : (x == ("__debug__" : Str)) = false := by decide) (he : starEach (e :: es) (LamX.lamCx X A outer s H E sc fL c').env = (false, eval e (LamX.lamCx X A outer s H E sc fL c').env) :: starEach es (LamX.lamCx X A outer s H E sc fL c').env := by rfl) (hpl : (backTo pos (starEach es (LamX.lamCx X A outer s H E sc fL c').env)).any (·.1) = false := by rfl) :
    PE (LamX.lamCx X A outer s H E sc fL c') (.Call (.Name x p) (e :: es) [] pos) (tCall sp [] E t) :=
  pe_fd (X := LamX.lamCx X A outer s H E sc fL c') c hr (passes_call (takes_of rfl rfl rfl rfl) fun _ _ _ _ z => z) ha hk hg hd he hpl
end
section
variable {P : Program} {w : World} {K : PySem.W.Frag} {mg : Str → Option Value} {base : Heap} {G : List Addr} {L : List (Addr × Str)}
theorem scISs : FnScope ["self", "index"] ["self", "index"] (defScope (sErr iISs)) := C8.fnScope_by (by decide +kernel)
theorem ok_ISs {f C S : Addr} {fd : FuncData} (F : Fun K "__init__" "InvalidStates.__init__" (sErr iISs) f fd) (B : BaseC K mg S) (T : OexC K C) (n2 : PySem.W.findIn K (.ref C) "index" = some none) : FnOk P w K mg base CX0 1 f fd ["self", "index"] (spIS K C) := by
  refine F.ok scISs (fun vs H Q E h => ?_) (fun cdv A outer s H vs Q E hr h => ?_)
  · obtain ⟨a, i, e, _⟩ := h
    rw [e]
    rfl
  · obtain ⟨a, i, e, ha, hi, q⟩ := h
    subst e
    refine ⟨_, pss_cons (ps_expr (pe_baseinit rfl B.g B.rd B.fv (pa_cons (pv 0) (pa_cons (pe_joined (.cons pe_str (.cons (pe_fmt (pv 1)) .nil))) pa_nil))))
      (pss_one (ps_ost (pv 0) (pv 1))), ?_⟩
    refine r_seq (r_drop (r_cons (r_var (v := .ref a) rfl (r_cons ?_))))
    refine j_str (by decide) (j_fmtI (k := i) rfl hi (by decide) fun out ho => ?_)
    refine j_nil (r_nil ?_)
    refine ⟨a, C, [.str out], rfl, (by show 1 ≤ 1000; decide), T, ha, ?_⟩
    repeat walk_at "rd"
    exact r_ostV (y := .int (i : Nat)) (a := a) rfl rfl T n2 (.inl ⟨ha, fun d hd hne => q d hd hne⟩)
abbrev nCst : List Str := ["names", "states", "index", "state"]
theorem scChkStates : FnScope nCst ["names", "states"] (defScope sChkStates) := C8.fnScope_by (by decide +kernel)
/-- of states that are good -/
def spChkStates (K : PySem.W.Frag) (G : List Addr) (L : List (Addr × Str)) : Sp := fun vs H Q _ => ∃ (an sl : Addr) (ns : List Str) (xs : List V) (ss : List (List Str)), vs = [.ref an, .ref sl] ∧ NT H an (ns.map V.str) ∧ goodS ns ∧ H sl = some (.lst xs) ∧ StsAt H xs ss ∧ (∀ s ∈ ss, s.Sublist ns) ∧ ss ≠ [] ∧ ss.length ≤ 2000 ∧ ∀ H', Go G L H H' → Q .non H'
theorem ok_chkStates {f : Addr} {fd : FuncData} (F : Fun K "_check_states" "_check_states" sChkStates f fd) (zI : mg "isinstance" = none) (zl : mg "list" = none) (zL : mg "len" = none) (zE : mg "enumerate" = none) (CHS : Fd (L2.CX P w) P w K mg base "check_state" 3 (spChkState K G L)) (T : Err P w K mg base "InvalidStates" (spIS K (He.ga K "InvalidStates"))) :
    FnOk P w K mg base (L2.CX P w) 4 f fd ["names", "states"] (spChkStates K G L) := by
  refine F.okX scChkStates (fun vs H Q E h => ?_) (fun cdv A outer s H vs Q E hr h => ?_)
  · obtain ⟨an, sl, ns, xs, ss, e, _⟩ := h
    rw [e]
    rfl
  · obtain ⟨an, sl, ns, xs, ss, e, hn, gs, hl, hss, hsub, hne, hlen, q⟩ := h
    subst e
    refine ⟨_, pss_cons (ps_if (PW.pt (pw_or (pt_not (pt_val (pe_callB call_isi rfl zI boot_isinstance (pa_cons (pv 1) (pa_cons (pe_bltn (v := .ty "list") rfl zl (by decide +kernel) rfl) pa_nil))))) (pw_or1 (pt_cmpR op_eq (pe_callB (r := cLen K) c_len rfl zL boot_len (pa_cons (pv 1) pa_nil)) pe_int (nomark _)))))
        (pss_one (ps_raise rfl (takes_of rfl rfl rfl rfl) (pmk_err T hr (pa_cons pe_int pa_nil)))) pss_nil)
      (pss_one (ps_for (passes_of rfl) rfl (pi_enum rfl zE (pa_cons (pv 1) pa_nil)) (pg_tup rfl (pgs_cons (pg_name (i := 2) scChkStates.nd rfl (.inl rfl)) (pgs_cons (pg_name (i := 3) scChkStates.nd rfl (.inl rfl)) pgs_nil)))
        (pss_one (ps_try_thru0 (pss_one (ps_expr (pe_fd (E := E0) CHS hr passN (pa_cons (pv 0) (pa_cons (pv 3) pa_nil))))))))), ?_⟩
    have hxl := hss.len
    repeat walk_at "rd"
    refine r_isB (b := true) (Dp.kd (.lst (.of hl) hss.dps)) rfl (by decide) ?_
    repeat walk_at "rd"
    refine r_lenL (.of hl) ?_
    repeat walk_at "rd"
    refine r_eq rfl ?_
    have e0 : decide (V.int (xs.length : Nat) = V.int 0) = false := decide_eq_false fun z => by
      have z2 := V.int.inj z
      exact hne (List.length_eq_zero_iff.mp (by omega))
    rw [e0]
    repeat walk_at "rd"
    refine forEL (a := sl) (xs := xs) (fun R z => ⟨_, rfl, z⟩) (.of hl) (fun i σ H' => ∃ x2 x3, σ = [some (.ref an), some (.ref sl), x2, x3] ∧ Go G L H H') ?_ ?_ ?_ ?_
    · exact ⟨none, none, rfl, Go.refl H⟩
    · rintro i σ H' _ ⟨x2, x3, rfl, g⟩
      exact .of (g.lst hl)
    · rintro i y T2 σ H2 H3 hy hT rfl ⟨x2, x3, rfl, g⟩
      have g3 : Go G L H (upd H2 T2 (.tup [.int (i : Nat), y])) := g.trans (Go.new hT)
      refine r_pair (.of upd_same) ?_
      generalize upd H2 T2 (.tup [.int (i : Nat), y]) = H3 at g3 ⊢
      obtain ⟨S, s0, hs0, rfl, hS⟩ := sts_get hss hy
      have hs0m := hsub _ (List.mem_of_getElem? hs0)
      obtain ⟨l7, hl60⟩ := strs_lv gs hs0m
      repeat walk_at "rd"
      exact ⟨an, .ref S, ns, .tuple (s0.map PyData.str), rfl, hn.kt g3.kt, .tup (hS.kt g3.kt).seq (dps_strs _), gs, l7, hl60, fun k hk => (by rw [st_none hs0m] at hk; cases hk), fun _ H4 g4 => ⟨_, _, rfl, g3.trans g4⟩⟩
    · rintro σ H' ⟨x2, x3, rfl, g⟩
      exact q H' g
def clD (w a b : Str) : PyData := .tuple [.str w, .str a, .str b]
def fourD (f s : Str) : List PyData := [clD "needs" f s, clD "needs" s f] ++ [clD "excludes" f s, clD "either" f s]
def candD : List Str → List PyData
  | [] => []
  | f :: r => [clD "either" f f, clD "excludes" f f] ++ (r.flatMap (fourD f) ++ candD r)
theorem fm_len (f : Str) : ∀ r : List Str, (r.flatMap (fourD f)).length = 4 * r.length
  | [] => rfl
  | s :: r => by
    rw [List.flatMap_cons, List.length_append, fm_len f r, List.length_cons]
    show 4 + 4 * r.length = _
    omega
theorem cand_len : ∀ ns : List Str, ns.length ≤ 10 → (candD ns).length ≤ 2 * ns.length + 40 * ns.length
  | [], _ => by show 0 ≤ _; omega
  | f :: r, h => by
    rw [List.length_cons] at h
    have ih := cand_len r (by omega)
    show ([clD "either" f f, clD "excludes" f f] ++ (r.flatMap (fourD f) ++ candD r)).length ≤ _
    rw [List.length_append, List.length_append, fm_len]
    show 2 + (4 * r.length + (candD r).length) ≤ 2 * (r.length + 1) + 40 * (r.length + 1)
    omega
theorem cand_mem {d : PyData} : ∀ {ns : List Str}, d ∈ candD ns → ∃ w a b, d = clD w a b ∧ isWord w ∧ a ∈ ns ∧ b ∈ ns
  | [], h => by cases h
  | f :: r, h => by
    rcases List.mem_append.mp h with h | h
    · rcases List.mem_cons.mp h with rfl | h
      · exact ⟨_, f, f, rfl, .inr (.inr rfl), List.mem_cons_self, List.mem_cons_self⟩
      · rw [List.mem_singleton.mp h]
        exact ⟨_, f, f, rfl, .inr (.inl rfl), List.mem_cons_self, List.mem_cons_self⟩
    · rcases List.mem_append.mp h with h | h
      · obtain ⟨s, hs, hd⟩ := List.mem_flatMap.mp h
        have hs' := List.mem_cons_of_mem f hs
        have hd' : d = clD "needs" f s ∨ d = clD "needs" s f ∨ d = clD "excludes" f s ∨ d = clD "either" f s := by simpa [fourD] using hd
        rcases hd' with rfl | rfl | rfl | rfl
        · exact ⟨_, f, s, rfl, .inl rfl, List.mem_cons_self, hs'⟩
        · exact ⟨_, s, f, rfl, .inl rfl, hs', List.mem_cons_self⟩
        · exact ⟨_, f, s, rfl, .inr (.inl rfl), List.mem_cons_self, hs'⟩
        · exact ⟨_, f, s, rfl, .inr (.inr rfl), List.mem_cons_self, hs'⟩
      · obtain ⟨w, a, b, e, h1, h2, h3⟩ := cand_mem h
        exact ⟨w, a, b, e, h1, List.mem_cons_of_mem _ h2, List.mem_cons_of_mem _ h3⟩
abbrev nCa : List Str := ["names", "found", "index", "first", "second"]
theorem scCand : FnScope nCa ["names"] (defScope sCandidates) := C8.fnScope_by (by decide +kernel)
def spCand (K : PySem.W.Frag) (G : List Addr) (L : List (Addr × Str)) : Sp := fun vs H Q _ => ∃ (an : Addr) (ns : List Str), vs = [.ref an] ∧ Tp H an (ns.map V.str) ∧ ns.length ≤ 10 ∧ ∀ l xs H', Nw H l → Go G L H H' → H' l = some (.lst xs) → Ims H' xs (candD ns) → Q (.ref l) H'
theorem im_cl {H : Hp} {p : Addr} {w a b : Str} (h : H p = some (.tup [.str w, .str a, .str b])) : Im H (.ref p) (clD w a b) := .tup (.inl h) (.cons (.str _) (.cons (.str _) (.cons (.str _) .nil)))
theorem r_extend {H : Hp} {Q : VK} {D b : Addr} {xs zs : List V} (hD : H D = some (.lst xs)) (hb : H b = some (.lst zs)) (hl : xs.length + zs.length ≤ 5000) (q : Q .non (upd H D (.lst (xs ++ zs)))) : rExtend (.ref D) [.ref b] H Q :=
  ⟨D, b, xs, zs, rfl, rfl, hD, hb, Nat.le_trans hl (by decide), q⟩
theorem ok_cand {f : Addr} {fd : FuncData} (F : Fun K "_candidates" "_candidates" sCandidates f fd) (zE : mg "enumerate" = none) : FnOk P w K mg base CX0 1 f fd ["names"] (spCand K G L) := by
  refine F.ok scCand (fun vs H Q E h => ?_) (fun cdv A outer s H vs Q E hr h => ?_)
  · obtain ⟨an, ns, e, _⟩ := h
    rw [e]
    rfl
  · obtain ⟨an, ns, e, hn, hlen, q⟩ := h
    subst e
    refine ⟨_, pss_cons (ps_set (i := 1) scCand.nd rfl (Or.inl rfl) (pe_lst pa_nil))
      (pss_cons (ps_for PassesOwn.never rfl (pi_enumT rfl zE (pa_cons (pv 0) pa_nil)) (pg_tup rfl (pgs_cons (pg_name (i := 2) scCand.nd rfl (.inl rfl)) (pgs_cons (pg_name (i := 3) scCand.nd rfl (.inl rfl)) pgs_nil)))
        (pss_cons (ps_expr (pe_bm PySem.F.plainAttrs_list PySem.F.slot_list_extend PySem.F.type_list_extend mt_extend (pv 1) (pa_cons (pe_lst (pa_cons (pe_tup (pa_cons pe_str (pa_cons (pv 3) (pa_cons (pv 3) pa_nil)))) (pa_cons (pe_tup (pa_cons pe_str (pa_cons (pv 3) (pa_cons (pv 3) pa_nil)))) pa_nil))) pa_nil)))
        (pss_one (ps_for PassesOwn.never rfl (pi_tup (pe_slice sl_tupA (pv 0) (po_some (pe_op op_add (pv 2) pe_int)) po_none)) (pg_name (i := 4) scCand.nd rfl (.inl rfl))
          (pss_cons (ps_expr (pe_bm PySem.F.plainAttrs_list PySem.F.slot_list_extend PySem.F.type_list_extend mt_extend (pv 1) (pa_cons (pe_lst (pa_cons (pe_tup (pa_cons pe_str (pa_cons (pv 3) (pa_cons (pv 4) pa_nil)))) (pa_cons (pe_tup (pa_cons pe_str (pa_cons (pv 4) (pa_cons (pv 3) pa_nil)))) pa_nil))) pa_nil)))
          (pss_one (ps_expr (pe_bm PySem.F.plainAttrs_list PySem.F.slot_list_extend PySem.F.type_list_extend mt_extend (pv 1) (pa_cons (pe_lst (pa_cons (pe_tup (pa_cons pe_str (pa_cons (pv 3) (pa_cons (pv 4) pa_nil)))) (pa_cons (pe_tup (pa_cons pe_str (pa_cons (pv 3) (pa_cons (pv 4) pa_nil)))) pa_nil))) pa_nil)))))))))
      (pss_one (ps_ret (pv 1)))), ?_⟩
    repeat walk_at "rd"
    refine ⟨by show 0 ≤ sizeLine; decide, fun pD nD => ?_⟩
    generalize hH : upd _ pD _ = HD; obtain ⟨kD, eD⟩ := new_facts hH nD; clear hH
    have gD : Go G L H HD := Go.same kD
    have two : ∀ {D : Addr} {H1 H2 : Hp} {xs zs : List V} {ds es : List PyData}, H D = none → Go G L H H1 → H1 D = some (.lst xs) → Ims H1 xs ds → Ims H1 zs es → H2 = upd H1 D (.lst (xs ++ zs)) → Go G L H H2 ∧ H2 D = some (.lst (xs ++ zs)) ∧ Ims H2 (xs ++ zs) (ds ++ es) := fun {D H1 H2 xs zs ds es} hD g e1 h1 h2 e => by
      subst e
      exact ⟨g.updNew hD e1, upd_same, Ims.kt (kt_upd e1) (Ims.app h1 h2)⟩
    repeat walk_at "rd"
    refine forET (a := an) (xs := ns.map V.str) (fun R z => ⟨_, rfl, z⟩) (hn.kt gD.kt).seq (fun i σ H' => ∃ (x2 x3 x4 : Option V) (xs : List V) (ds : List PyData), σ = [some (.ref an), some (.ref pD), x2, x3, x4] ∧ Go G L H H' ∧ H' pD = some (.lst xs) ∧ Ims H' xs ds ∧ candD ns = ds ++ candD (ns.drop i)) ?_ ?_ ?_ ?_
    · exact ⟨none, none, none, [], [], rfl, gD, eD, .nil, rfl⟩
    · rintro i σ H' _ ⟨x2, x3, x4, xs, ds, rfl, g, _⟩
      exact (hn.kt g.kt).seq
    · rintro i y T2 σ H2 H3 hy hT rfl ⟨x2, x3, x4, xs, ds, rfl, g, e2, hxs, hcd⟩
      rw [List.getElem?_map] at hy
      cases hz : ns[i]? with
      | none => rw [hz] at hy; cases hy
      | some fs =>
        rw [hz] at hy
        obtain rfl : y = .str fs := (Option.some.inj hy).symm
        obtain ⟨hil, ezi⟩ := List.getElem?_eq_some_iff.mp hz
        have hdrop : ns.drop i = fs :: ns.drop (i + 1) := by
          rw [← ezi]
          exact List.drop_eq_getElem_cons hil
        have kT : ∀ b o, H2 b = some o → upd H2 T2 (.tup [.int (i : Nat), .str fs]) b = some o := fun b o e => by rw [upd_ne (ne_of_none e hT)]; exact e
        have g3 : Go G L H (upd H2 T2 (.tup [.int (i : Nat), .str fs])) := g.trans (Go.new hT)
        refine r_pair (.of upd_same) ?_
        generalize upd H2 T2 (.tup [.int (i : Nat), .str fs]) = H3 at g3 kT ⊢
        have e3 := kT _ _ e2
        have hxs3 := hxs.kt (kp_kt kT)
        refine r_seq ?_
        repeat walk_at "rd"
        refine ⟨.inl ⟨rfl, _, .of e3⟩, ?_⟩
        repeat walk_at "rd"
        refine ⟨by show 3 ≤ sizeLine; decide, fun p4 n4 => ?_⟩
        generalize hH : upd _ p4 _ = H4; obtain ⟨k4, e4⟩ := new_facts hH n4; clear hH
        repeat walk_at "rd"
        refine ⟨by show 3 ≤ sizeLine; decide, fun p5 n5 => ?_⟩
        generalize hH : upd _ p5 _ = H5; obtain ⟨k5, e5⟩ := new_facts hH n5; clear hH
        repeat walk_at "rd"
        refine ⟨by show 2 ≤ sizeLine; decide, fun p6 n6 => ?_⟩
        generalize hH : upd _ p6 _ = H6; obtain ⟨k6, e6⟩ := new_facts hH n6; clear hH
        have g36 : Go G L H3 H6 := ((Go.same k4).trans (Go.same k5)).trans (Go.same k6)
        have i4 : Im H6 (.ref p4) (clD "either" fs fs) := im_cl (k6 _ _ (k5 _ _ e4))
        have i5 : Im H6 (.ref p5) (clD "excludes" fs fs) := im_cl (k6 _ _ e5)
        have hxl := hxs.length
        have hdl : ds.length ≤ 420 := by
          have z := cand_len ns hlen
          rw [hcd, List.length_append] at z
          omega
        repeat walk_at "rd"
        refine r_extend (g36.lst e3) e6 (by show xs.length + 2 ≤ 5000; omega) ?_
        obtain ⟨g7, e7, h7⟩ := two nD (g3.trans g36) (g36.lst e3) (hxs3.kt g36.kt) (.cons i4 (.cons i5 .nil)) rfl
        generalize upd H6 pD (.lst (xs ++ [.ref p4, .ref p5])) = H7 at g7 e7 h7 ⊢
        repeat walk_at "rd"
        refine forTg (fun a0 H0 => Go G L H7 H0 ∧ Tp H0 a0 ((ns.drop (i + 1)).map V.str)) (fun R z => ?_) (fun a0 H0 ⟨g0, ha0⟩ => ⟨(ns.drop (i + 1)).map V.str, ha0.seq, fun j σ H' => ∃ (x4 : Option V) (zs : List V) (es : List PyData), σ = [some (.ref an), some (.ref pD), some (.int (i : Nat)), some (.str fs), x4] ∧ Go G L H H' ∧ Tp H' a0 ((ns.drop (i + 1)).map V.str) ∧ H' pD = some (.lst zs) ∧ Ims H' zs es ∧ es = (ds ++ [clD "either" fs fs, clD "excludes" fs fs]) ++ ((ns.drop (i + 1)).take j).flatMap (fourD fs), ?_, ?_, ?_, ?_⟩)
        · repeat walk_at "rd"
          refine r_slT (hn.kt g7.kt) fun p8 H8 k8 t8 => ?_
          rw [show ((i : Nat) : Int) + 1 = ((i + 1 : Nat) : Int) by omega, cut_from (by rw [List.length_map]; omega), ← List.map_drop] at t8
          exact z p8 H8 ⟨Go.same k8, t8⟩
        · exact ⟨_, _, _, rfl, g7.trans g0, ha0, g0.lst e7, h7.kt g0.kt, by rw [List.take_zero, List.flatMap_nil, List.append_nil]⟩
        · rintro j σ H' _ ⟨x4, zs, es, rfl, g8, ha8, _⟩
          exact ha8.seq
        · rintro j y2 σ H8 hy2 ⟨x4, zs, es, rfl, g8, ha8, e8, h8, ees⟩
          rw [List.getElem?_map] at hy2
          cases hz2 : (ns.drop (i + 1))[j]? with
          | none => rw [hz2] at hy2; cases hy2
          | some sd =>
            rw [hz2] at hy2
            obtain rfl : y2 = .str sd := (Option.some.inj hy2).symm
            have hjl := (List.getElem?_eq_some_iff.mp hz2).1
            rw [List.length_drop] at hjl
            have hzl := h8.length
            have hel : es.length ≤ 480 := by
              rw [ees, List.length_append, List.length_append, fm_len, List.length_take, List.length_drop]
              show _ + 2 + _ ≤ 480
              omega
            refine r_gN ?_
            refine r_seq ?_
            repeat walk_at "rd"
            refine ⟨.inl ⟨rfl, _, .of e8⟩, ?_⟩
            repeat walk_at "rd"
            refine ⟨by show 3 ≤ sizeLine; decide, fun p9 n9 => ?_⟩
            generalize hH : upd _ p9 _ = H9; obtain ⟨k9, e9⟩ := new_facts hH n9; clear hH
            repeat walk_at "rd"
            refine ⟨by show 3 ≤ sizeLine; decide, fun pA nA => ?_⟩
            generalize hH : upd _ pA _ = HA; obtain ⟨kA, eA⟩ := new_facts hH nA; clear hH
            repeat walk_at "rd"
            refine ⟨by show 2 ≤ sizeLine; decide, fun pB nB => ?_⟩
            generalize hH : upd _ pB _ = HB; obtain ⟨kB, eB⟩ := new_facts hH nB; clear hH
            have g9B : Go G L H8 HB := ((Go.same k9).trans (Go.same kA)).trans (Go.same kB)
            repeat walk_at "rd"
            refine r_extend (g9B.lst e8) eB (by show zs.length + 2 ≤ 5000; omega) ?_
            obtain ⟨gC, eC, hC⟩ := two nD (g8.trans g9B) (g9B.lst e8) (h8.kt g9B.kt) (.cons (im_cl (kB _ _ (kA _ _ e9))) (.cons (im_cl (kB _ _ eA)) .nil)) rfl
            have haC : Tp (upd HB pD (.lst (zs ++ [.ref p9, .ref pA]))) a0 ((ns.drop (i + 1)).map V.str) := (ha8.kt g9B.kt).kt (kt_upd (g9B.lst e8))
            generalize upd HB pD (.lst (zs ++ [.ref p9, .ref pA])) = HC at gC eC hC haC ⊢
            repeat walk_at "rd"
            refine ⟨.inl ⟨rfl, _, .of eC⟩, ?_⟩
            repeat walk_at "rd"
            refine ⟨by show 3 ≤ sizeLine; decide, fun pE nE => ?_⟩
            generalize hH : upd _ pE _ = HE; obtain ⟨kE, eE⟩ := new_facts hH nE; clear hH
            repeat walk_at "rd"
            refine ⟨by show 3 ≤ sizeLine; decide, fun pF nF => ?_⟩
            generalize hH : upd _ pF _ = HF; obtain ⟨kF, eF⟩ := new_facts hH nF; clear hH
            repeat walk_at "rd"
            refine ⟨by show 2 ≤ sizeLine; decide, fun pI nI => ?_⟩
            generalize hH : upd _ pI _ = HI; obtain ⟨kI, eI⟩ := new_facts hH nI; clear hH
            have gCI : Go G L HC HI := ((Go.same kE).trans (Go.same kF)).trans (Go.same kI)
            repeat walk_at "rd"
            refine r_extend (gCI.lst eC) eI (by rw [List.length_append]; show zs.length + 2 + 2 ≤ 5000; omega) ?_
            obtain ⟨gM, eM, hM⟩ := two nD (gC.trans gCI) (gCI.lst eC) (hC.kt gCI.kt) (.cons (im_cl (kI _ _ (kF _ _ eE))) (.cons (im_cl (kI _ _ eF)) .nil)) rfl
            refine ⟨_, _, _, rfl, gM, (haC.kt gCI.kt).kt (kt_upd (gCI.lst eC)), eM, hM, ?_⟩
            rw [ees, List.take_succ, hz2, List.flatMap_append]
            show _ = _ ++ (_ ++ [sd].flatMap (fourD fs))
            rw [List.flatMap_cons, List.flatMap_nil, List.append_nil]
            simp only [List.append_assoc]
            rfl
        · rintro σ H8 ⟨x4, zs, es, rfl, g8, ha8, e8, h8, ees⟩
          rw [List.length_map, List.take_length] at ees
          refine ⟨_, _, _, zs, es, rfl, g8, e8, h8, ?_⟩
          rw [hcd, hdrop, ees]
          show ds ++ ([clD "either" fs fs, clD "excludes" fs fs] ++ ((ns.drop (i + 1)).flatMap (fourD fs) ++ candD (ns.drop (i + 1)))) = _
          simp only [List.append_assoc]
    · rintro σ H' ⟨x2, x3, x4, xs, ds, rfl, g, e2, hxs, hcd⟩
      rw [List.length_map, List.drop_length] at hcd
      have e : candD ns = ds := by rw [hcd]; exact List.append_nil _
      repeat walk_at "rd"
      exact q pD xs H' (.of nD) g e2 (by rw [e]; exact hxs)
end
section
variable {P : Program} {w : World} {K : PySem.W.Frag} {mg : Str → Option Value} {base : Heap} {G : List Addr} {L : List (Addr × Str)}
/-- the clauses that all of these states fulfil -/
def comD (ns : List Str) (ss : List (List Str)) : List PyData := (candD ns).filter fun d => ss.all fun s => !brk (s.map PyData.str) d
theorem brk_clD {s : List Str} {w a b : Str} : brk (s.map PyData.str) (clD w a b) = !holdsD (s.map PyData.str) w (.str a) (.str b) := rfl
abbrev nAc : List Str := ["names", "states", "clause", "state"]
theorem scAllCommon : FnScope nAc ["names", "states"] (defScope sAllCommon) := C8.fnScope_by (by decide +kernel)
/-- states of these names, as they are learned from -/
structure GoodSS (ns : List Str) (ss : List (List Str)) : Prop where
  sub : ∀ s ∈ ss, s.Sublist ns
  ne : ss ≠ []
  len : ss.length ≤ 2000
def spAllCommon (K : PySem.W.Frag) (G : List Addr) (L : List (Addr × Str)) : Sp := fun vs H Q _ => ∃ (an sl : Addr) (ns : List Str) (xs : List V) (ss : List (List Str)), vs = [.ref an, .ref sl] ∧ NT H an (ns.map V.str) ∧ GoodN ns ∧ 0 < ns.length ∧ ns.length ≤ 10 ∧ H sl = some (.lst xs) ∧ StsAt H xs ss ∧ GoodSS ns ss ∧ TBS G L H ∧
  ∀ l ys H', Nw H l → Go G L H H' → H' l = some (.lst ys) → Ims H' ys (comD ns ss) → Q (.ref l) H'
theorem ok_allCommon {f : Addr} {fd : FuncData} (F : Fun K "_all_common" "_all_common" sAllCommon f fd) (zA : mg "all" = none) (CHN : Fd (L2.CX P w) P w K mg base "check_names" 3 (spChkNames K G L)) (CST : Fd (L2.CX P w) P w K mg base "_check_states" 4 (spChkStates K G L)) (CA : Fd CX0 P w K mg base "_candidates" 1 (spCand K G L)) (FUL : Fd CX0 P w K mg base "fulfils" 1 (spFul K)) :
    FnOk P w K mg base (L2.CX P w) 5 f fd ["names", "states"] (spAllCommon K G L) := by
  refine F.okX scAllCommon (fun vs H Q E h => ?_) (fun cdv A outer s H vs Q E hr h => ?_)
  · obtain ⟨an, sl, ns, xs, ss, e, _⟩ := h
    rw [e]
    rfl
  · obtain ⟨an, sl, ns, xs, ss, e, hn, gn, n0, n10, hl, hss, gss, ht, q⟩ := h
    subst e
    refine ⟨_, pss_cons (ps_expr (pe_fd (E := E0) CHN hr passN (pa_cons (pv 0) pa_nil)))
      (pss_cons (ps_expr (pe_fd (E := E0) CST hr passN (pa_cons (pv 0) (pa_cons (pv 1) pa_nil))))
      (pss_one (ps_ret (pe_lc (own := [("clause", 2)]) (g := gName 2) rfl scAllCommon.nd (pi_list (pe_fd (E := E0) CA hr pass0 (pa_cons (pv 0) pa_nil)))
            (blkOk_by (own := [("clause", 2)]) (N := nAc) (sc := defScope sAllCommon) (by decide +kernel)) (fun _ _ _ _ _ => pg_name (i := 2) scAllCommon.nd rfl (.inr rfl)) (fun _ _ _ _ _ => pts_one (pt_val (pe_callB (r := rAll K) (cr_all rfl) rfl zA (by decide +kernel) (pa_cons (pe_lc (own := [("state", 3)]) (g := gName 3) (tt := tYes) (wi := iList K (tVar 1)) rfl scAllCommon.nd (pi_list (pv 1))
            (blkOk_by (own := [("state", 3)]) (N := nAc) (sc := relS _ (defScope sAllCommon)) (by decide +kernel)) (fun _ _ _ _ _ => pg_name (i := 3) scAllCommon.nd rfl (.inl rfl)) (fun _ _ _ _ _ => pts_nil)
            (fun _ _ _ _ _ => (pe_fd (E := E0) FUL hr pass0 (pa_cons (pv 3) (pa_cons (pv 2) pa_nil))))) pa_nil))))
            (fun _ _ _ _ _ => (pv 2)))))), ?_⟩
    have okn := okN_of (gn.okNb n10)
    have gs := gn.good n10
    have hxl := hss.len
    repeat walk_at "rd"
    refine ⟨.ref an, .tuple (ns.map PyData.str), rfl, .tup hn.tp.seq (dps_strs _), okn.1, ht, okn.2, fun i hi => (by rw [gn.names n0 n10] at hi; cases hi), fun _ H1 g1 => ?_⟩
    repeat walk_at "rd"
    refine ⟨an, sl, ns, xs, ss, rfl, hn.kt g1.kt, gs, g1.lst hl, hss.kt g1.kt, gss.sub, gss.ne, gss.len, fun H2 g2 => ?_⟩
    repeat walk_at "rd"
    have g12 := g1.trans g2
    refine lcLg (fun a cs H0 => Go G L H H0 ∧ H0 a = some (.lst cs) ∧ Ims H0 cs (candD ns)) (fun R z => ?_) ?_
    · repeat walk_at "rd"
      exact ⟨an, ns, rfl, (hn.kt g12.kt).tp, n10, fun l cs H' _ g hl' hcs => z l cs H' ⟨g12.trans g, hl', hcs⟩⟩
    rintro a cs H0 ⟨g0, ha, hcs⟩
    have hcl := hcs.length
    have hcb := cand_len ns n10
    refine ⟨.of ha, fun D i H' => ∃ ys, Go G L H0 H' ∧ H' D = some (.lst ys) ∧ Ims H' ys (((candD ns).take i).filter fun d => ss.all fun s => !brk (s.map PyData.str) d), ?_, ?_, ?_, ?_⟩
    · intro D hD
      exact ⟨[], Go.new hD, upd_same, .nil⟩
    · rintro D i H' hD _ ⟨ys, g, _⟩
      exact .of (g.lst ha)
    · rintro D i y H' hD hy ⟨ys, g, eD, hys⟩
      obtain ⟨d, hd, hyd⟩ := hcs.get hy
      obtain ⟨w', a', b', rfl, hw', ha', hb'⟩ := cand_mem (List.mem_of_getElem? hd)
      have gH := g0.trans g
      refine r_gN ⟨rfl, ?_⟩
      repeat walk_at "rd"
      refine lcL (a := sl) (xs := xs) (fun R z => ⟨_, rfl, z⟩) (.of (gH.lst hl)) (fun D2 j H3 => Go G L H' H3 ∧ H3 D2 = some (.lst (((ss.take j).map fun s => !brk (s.map PyData.str) (clD w' a' b')).map V.bl))) ?_ ?_ ?_ ?_
      · intro D2 hD2
        exact ⟨Go.new hD2, upd_same⟩
      · rintro D2 j H3 hD2 _ ⟨g3, _⟩
        exact .of ((gH.trans g3).lst hl)
      · rintro D2 j v H3 hD2 hv ⟨g3, e3⟩
        obtain ⟨S, s0, hs0, rfl, hS⟩ := sts_get hss hv
        have hsub := gss.sub _ (List.mem_of_getElem? hs0)
        have hsok : ∀ z ∈ s0, PyData.strOk z = true := fun z hz => gs.1 z (hsub.subset hz)
        have hjl := (List.getElem?_eq_some_iff.mp hs0).1
        have gsl := gss.len
        refine r_gN ⟨rfl, r_yes ?_⟩
        repeat walk_at "rd"
        refine ⟨.ref S, y, s0.map PyData.str, w', .str a', .str b', rfl, .tup (hS.kt (gH.trans g3).kt).seq (dps_strs _), (hyd.kt (g.trans g3).kt).dp, lv_strs hsok, lv_str (gs.1 a' ha'), lv_str (gs.1 b' hb'), ?_⟩
        refine ⟨_, e3, ?_, g3.updNew hD2 e3, ?_⟩
        · rw [List.length_map, List.length_map, List.length_take, sizeLine_eq]
          omega
        · rw [upd_same, List.take_succ, hs0, List.map_append, List.map_append]
          show _ = some (HO.lst (_ ++ [V.bl (!brk (s0.map PyData.str) (clD w' a' b'))]))
          rw [brk_clD, Bool.not_not]
      · rintro D2 H3 hD2 ⟨g3, e3⟩
        rw [hxl, List.take_length] at e3
        repeat walk_at "rd"
        refine ⟨D2, _, rfl, .of e3, ?_⟩
        have eall : ((ss.map fun s => !brk (s.map PyData.str) (clD w' a' b')).all id) = ss.all fun s => !brk (s.map PyData.str) (clD w' a' b') := by rw [List.all_map]; rfl
        rw [eall]
        repeat walk_at "rd"
        have hyl := hys.length
        have hfl : (((candD ns).take i).filter fun d => ss.all fun s => !brk (s.map PyData.str) d).length ≤ 420 := by
          refine Nat.le_trans (List.length_filter_le _ _) ?_
          rw [List.length_take]
          omega
        have eD3 := g3.lst eD
        refine r_if (fun cc => ?_) (fun cc => ?_)
        · repeat walk_at "rd"
          refine ⟨ys, eD3, by rw [sizeLine_eq]; omega, ys ++ [y], (g.trans g3).updNew hD eD3, upd_same, ?_⟩
          rw [filter_take hd, if_pos cc]
          exact Ims.kt (kt_upd eD3) ((hys.kt g3.kt).app (.cons (hyd.kt (g.trans g3).kt) .nil))
        · refine ⟨ys, g.trans g3, eD3, ?_⟩
          rw [filter_take hd, if_neg (by rw [cc]; exact Bool.false_ne_true)]
          exact hys.kt g3.kt
    · rintro D H' hD ⟨ys, g, eD, hys⟩
      rw [hcl, List.take_length] at hys
      repeat walk_at "rd"
      exact q D ys H' (Nw.backG g0 (.of hD)) (g0.trans g) eD hys
/-- which numbers stay: the ones below j are still there, t holds what was kept -/
def needI (all : List (List Nat)) : Nat → List Nat → List Nat
  | 0, t => t
  | j + 1, t => if [j] ∈ all.map (fun b => b.filter fun i => decide (i ≤ j) || decide (i ∈ t)) then needI all j (j :: t) else needI all j t
def needD (ns : List Str) (cd : List PyData) : List PyData := (needI ((allD ns).map (bkD cd)) cd.length []).filterMap fun i => cd[i]?
abbrev nNd : List Str := ["names", "clauses", "broken", "left", "index", "state", "numbers", "each"]
theorem scNeeded : FnScope nNd ["names", "clauses"] (defScope sNeeded) := C8.fnScope_by (by decide +kernel)
def spNeeded (K : PySem.W.Frag) (G : List Addr) (L : List (Addr × Str)) : Sp := fun vs H Q _ => ∃ (an cl : Addr) (ns : List Str) (xs : List V) (cd : List PyData), vs = [.ref an, .ref cl] ∧ Tp H an (ns.map V.str) ∧ GoodN ns ∧ ns.length ≤ 10 ∧ H cl = some (.lst xs) ∧ Ims H xs cd ∧ (∀ d ∈ cd, ClD ns d) ∧ cd.length ≤ 500 ∧
  ∀ l ys H', Nw H l → Go G L H H' → H' l = some (.lst ys) → Ims H' ys (needD ns cd) → Q (.ref l) H'
/-- what is left while the numbers above j are done -/
def leftD {α : Type} (cd : List α) (j : Nat) (t : List Nat) : List α := cd.take j ++ t.filterMap fun i => cd[i]?
theorem ims_fm {H : Hp} {xs : List V} {cd : List PyData} (h : Ims H xs cd) : ∀ t : List Nat, Ims H (t.filterMap fun i => xs[i]?) (t.filterMap fun i => cd[i]?)
  | [] => .nil
  | i :: t => by
    rw [List.filterMap_cons, List.filterMap_cons]
    have hl := h.length
    cases hx : xs[i]? with
    | none =>
      have e : cd[i]? = none := by
        rw [List.getElem?_eq_none_iff] at hx ⊢
        omega
      rw [e]
      exact ims_fm h t
    | some v =>
      obtain ⟨d, hd, hv⟩ := h.get hx
      rw [hd]
      exact .cons hv (ims_fm h t)
theorem leftD_ims {H : Hp} {xs : List V} {cd : List PyData} (h : Ims H xs cd) (j : Nat) (t : List Nat) : Ims H (leftD xs j t) (leftD cd j t) := Ims.app (Ims.take j h) (ims_fm h t)
theorem left_erase {α : Type} {cd : List α} {j : Nat} {t : List Nat} (hj : j < cd.length) : (leftD cd (j + 1) t).eraseIdx j = leftD cd j t := by
  unfold leftD
  rw [List.eraseIdx_append_of_lt_length (by rw [List.length_take]; omega)]
  congr 1
  rw [List.take_succ, List.getElem?_eq_getElem hj]
  show (cd.take j ++ [cd[j]]).eraseIdx j = _
  rw [List.eraseIdx_append_of_length_le (by rw [List.length_take]; omega), List.length_take, Nat.min_eq_left (by omega), Nat.sub_self]
  simp
theorem left_keep {α : Type} {cd : List α} {j : Nat} {t : List Nat} (hj : j < cd.length) : leftD cd (j + 1) t = leftD cd j (j :: t) := by
  unfold leftD
  rw [List.take_succ, List.getElem?_eq_getElem hj, List.filterMap_cons, List.getElem?_eq_getElem hj, List.append_assoc]
  rfl
theorem filt_drop {b : List Nat} {j : Nat} {t : List Nat} (ht : j ∉ t) : (b.filter fun i => decide (i ≤ j) || decide (i ∈ t)).filter (fun i => !decide (V.int (i : Nat) = V.int (j : Nat))) = b.filter fun i => decide (i < j) || decide (i ∈ t) := by
  rw [List.filter_filter]
  refine List.filter_congr fun i _ => ?_
  by_cases e : i = j
  · subst e
    simp [ht]
  · have e2 : ¬ (V.int (i : Nat) = V.int (j : Nat)) := fun z => e (by have := V.int.inj z; omega)
    rw [decide_eq_false e2]
    have e3 : decide (i ≤ j) = decide (i < j) := decide_eq_decide.mpr (by omega)
    rw [e3]
    simp
theorem filt_keep {b : List Nat} {j : Nat} {t : List Nat} : (b.filter fun i => decide (i ≤ j) || decide (i ∈ t)) = b.filter fun i => decide (i < j) || decide (i ∈ j :: t) := by
  refine List.filter_congr fun i _ => ?_
  by_cases e : i = j
  · subst e
    simp
  · have e3 : decide (i ≤ j) = decide (i < j) := decide_eq_decide.mpr (by omega)
    rw [e3]
    simp [e]
theorem forRev {σ : L2.St} {H : Hp} {D : Ends} {te : TE} {g : TG} {tb : TS} {n : Nat} {H0 : Hp} (he : ∀ R : VK, R (.int (n : Nat)) H0 → te σ H R) (hn : n < 1000000) (Pv : Nat → L2.St → Hp → Prop) (h0 : Pv 0 σ H0)
    (hs : ∀ i σ H, i < n → Pv i σ H → g (.int ((n - 1 - i : Nat) : Int)) σ H fun σ2 H2 => tb { D with nx := Pv (i + 1), ct := Pv (i + 1), bk := D.nx } σ2 H2) (hd : ∀ σ H, Pv n σ H → D.nx σ H) :
    tFor (iRevR (tRg1 te)) g tb D σ H := by
  refine he _ ⟨_, rfl, by omega, by omega, by omega, by omega, ?_⟩
  have en : (((n : Nat) : Int) - 0).toNat = n := by omega
  rw [en]
  refine for_it walk_rangeC Pv h0 (fun _ _ _ _ _ => True.intro) ?_ hd
  rintro i x σ H1 H2 hi p ⟨eH, ex⟩
  have e : x = .int ((n - 1 - i : Nat) : Int) := ex.trans (congrArg V.int (by omega))
  rw [eH, e]
  exact hs i σ H1 hi p
theorem r_delL {to ti : TE} {D : Ends} {σ : L2.St} {H : Hp} (h : to σ H fun x H1 => ti σ H1 fun y H2 => ∃ (l : Addr) (xs : List V) (i : Int) (k : Nat), x = .ref l ∧ y = .int i ∧ H2 l = some (.lst xs) ∧ -(2 ^ 63) ≤ i ∧ i < 2 ^ 63 ∧ seqIndex? i xs.length = some k ∧ D.nx σ (L2.upd H2 l (.lst (xs.eraseIdx k)))) : tDelL to ti D σ H := h
theorem bk_small {cd : List PyData} {s : List Str} : ∀ i ∈ bkD cd s, i < cd.length := fun i hi => by
  unfold bkD at hi
  rw [broken_range] at hi
  obtain ⟨j, hj, e⟩ := List.mem_map.mp hi
  have z := List.mem_range.mp (List.mem_filter.mp hj).1
  omega
theorem ok_needed {f : Addr} {fd : FuncData} (F : Fun K "_needed" "_needed" sNeeded f fd) (zl : mg "list" = none) (zV : mg "reversed" = none) (zR : mg "range" = none) (zL : mg "len" = none) (ALS : Fd CX0 P w K mg base "all_states" 1 (spAllStates K G L)) (AM : Fd CX0 P w K mg base "broken_among" 2 (spAmong K G L)) :
    FnOk P w K mg base CX0 4 f fd ["names", "clauses"] (spNeeded K G L) := by
  refine F.ok scNeeded (fun vs H Q E h => ?_) (fun cdv A outer s H vs Q E hr h => ?_)
  · obtain ⟨an, cl, ns, xs, cd, e, _⟩ := h
    rw [e]
    rfl
  · obtain ⟨an, cl, ns, xs, cd, e, hn, gn, n10, hl, hxs, hcl, hlen, q⟩ := h
    subst e
    refine ⟨_, pss_cons (ps_setLc (i := 2) (own := [("state", 5)]) (g := gName 5) (tt := tYes) rfl scNeeded.nd rfl rfl (sw_true rfl rfl rfl rfl) (pi_list (pe_fd (E := E0) ALS hr pass0 (pa_cons (pv 0) pa_nil)))
            (blkOk_by (own := [("state", 5)]) (N := nNd) (sc := defScope sNeeded) (by decide +kernel)) (fun _ _ _ _ _ => pg_name (i := 5) scNeeded.nd rfl (.inl rfl)) (fun _ _ _ _ _ => pts_nil)
            (fun _ _ _ _ _ => (pe_fd (E := E0) AM hr pass0 (pa_cons (pv 1) (pa_cons (pv 5) pa_nil)))))
      (pss_cons (ps_set (i := 3) scNeeded.nd rfl (Or.inl rfl) (pe_callTy c_list rfl zl (by decide +kernel) (pa_cons (pv 1) pa_nil)))
      (pss_cons (ps_for PassesOwn.never rfl (pi_revR rfl zV (prg_1 rfl zR (pe_callB (r := cLen K) c_len rfl zL boot_len (pa_cons (pv 1) pa_nil)))) (pg_name (i := 4) scNeeded.nd rfl (.inr rfl))
        (pss_one (ps_if (pt_cmpR (op_notInD (u65 hr)) (pe_lst (pa_cons (pv 4) pa_nil)) (pv 2) rfl)
          (pss_cons (ps_delL (pv 3) (pv 4))
          (pss_one (ps_setLc (i := 2) (own := [("numbers", 6)]) (g := gName 6) (tt := tYes) rfl scNeeded.nd rfl rfl (sw_true rfl rfl rfl rfl) (pi_list (pv 2))
            (blkOk_by (own := [("numbers", 6)]) (N := nNd) (sc := defScope sNeeded) (by decide +kernel)) (fun _ _ _ _ _ => pg_name (i := 6) scNeeded.nd rfl (.inl rfl)) (fun _ _ _ _ _ => pts_nil)
            (fun _ _ _ _ _ => (pe_lc (own := [("each", 7)]) (g := gName 7) (wi := iList K (tVar 6)) rfl scNeeded.nd (pi_list (pv 6))
            (blkOk_by (own := [("each", 7)]) (N := nNd) (sc := relS _ (defScope sNeeded)) (by decide +kernel)) (fun _ _ _ _ _ => pg_name (i := 7) scNeeded.nd rfl (.inl rfl)) (fun _ _ _ _ _ => pts_one (pt_cmpR (r := rNe) op_ne (pv 7) (pv 4) (nomark _)))
            (fun _ _ _ _ _ => (pv 7))))))) pss_nil)))
      (pss_one (ps_ret (pv 3))))), ?_⟩
    have hcs : ∀ d ∈ cd, ClS d := fun d hd => by
      obtain ⟨w', a', b', rfl, hw', ha', hb'⟩ := hcl d hd
      exact ⟨w', a', b', rfl, word_ok hw', (gn.al a' ha').2.1, (gn.al b' hb').2.1⟩
    have hal := allD_len n10
    have hxl := hxs.length
    repeat walk_at "rd"
    refine lcLg (fun a ys H0 => Go G L H H0 ∧ H0 a = some (.lst ys) ∧ StsAt H0 ys (allD ns)) (fun R z => ?_) ?_
    · repeat walk_at "rd"
      exact ⟨an, ns, rfl, hn, n10, fun l H' ys g hl' hs => z l ys H' ⟨g, hl', hs⟩⟩
    rintro a ys H0 ⟨g0, ha, hys⟩
    have hyl := hys.len
    refine ⟨.of ha, fun D i H' => ∃ vs, Go G L H0 H' ∧ H' D = some (.lst vs) ∧ LsAt D H' vs (((allD ns).take i).map (bkD cd)), ?_, ?_, ?_, ?_⟩
    · intro D hD
      exact ⟨[], Go.new hD, upd_same, rfl, fun i v e => by cases e⟩
    · rintro D i H' hD _ ⟨vs, g, _⟩
      exact .of (g.lst ha)
    · rintro D i y H' hD hy ⟨vs, g, eD, hvs⟩
      obtain ⟨S, s0, hs0, rfl, hS⟩ := sts_get hys hy
      have hsub := allD_sub n10 (List.mem_of_getElem? hs0)
      have hil := (List.getElem?_eq_some_iff.mp hy).1
      have gH := g0.trans g
      refine r_gN ⟨rfl, r_yes ?_⟩
      repeat walk_at "rd"
      refine ⟨true, cl, xs, cd, s0.map PyData.str, .ref S, rfl, gH.lst hl, hxs.kt gH.kt, .tup (hS.kt g.kt).seq (dps_strs _), lv_strs fun z hz => (gn.al z (hsub.subset hz)).2.1, by omega, hcs, fun H2 l g2 nl e2 => ?_⟩
      have nlD : l ≠ D := fun z => by rw [z, eD] at nl; cases nl
      have eD2 := g2.lst eD
      have hvl := hvs.1
      rw [List.length_map, List.length_take] at hvl
      refine ⟨vs, eD2, by rw [sizeLine_eq]; omega, vs ++ [.ref l], (g.trans g2).updNew hD eD2, upd_same, ?_⟩
      rw [List.take_succ, hs0, List.map_append]
      exact ((hvs.go g2).snoc nlD e2).upd
    · rintro D H1 hD ⟨vs, g, eD, hvs⟩
      rw [hyl, List.take_length] at hvs
      have g1 := g0.trans g
      generalize hall : (allD ns).map (bkD cd) = all at hvs
      have hal2 : all.length ≤ 2000 := by rw [← hall, List.length_map]; exact hal
      have hbn : ∀ b ∈ all, b.length ≤ 100000 := fun b hb => by
        rw [← hall] at hb
        obtain ⟨s, _, rfl⟩ := List.mem_map.mp hb
        exact Nat.le_trans (broken_len (s.map PyData.str) cd 0) (by omega)
      have hsm : ∀ b ∈ all, ∀ i ∈ b, i < cd.length := fun b hb i hi => by
        rw [← hall] at hb
        obtain ⟨s, _, rfl⟩ := List.mem_map.mp hb
        exact bk_small i hi
      repeat walk_at "rd"
      refine r_listL (.of (g1.lst hl)) fun l2 n2 => ?_
      generalize hH : upd H1 l2 _ = H2; obtain ⟨k2, e2⟩ := new_facts hH n2; clear hH
      have g2 : Go G L H H2 := g1.trans (Go.same k2)
      have nl2 : l2 ≠ cl := fun z => by rw [z, g1.lst hl] at n2; cases n2
      repeat walk_at "rd"
      refine forRev (n := cd.length) (H0 := H2) (fun R z => ?_) (by omega) (fun m σ H' => ∃ (x4 x5 x6 x7 : Option V) (B : Addr) (bs : List V) (t : List Nat) (ls : List V), σ = [some (.ref an), some (.ref cl), some (.ref B), some (.ref l2), x4, x5, x6, x7] ∧ Go G L H H' ∧ H' l2 = some (.lst ls) ∧ ls = leftD xs (cd.length - m) t ∧ l2 ≠ B ∧ H' B = some (.lst bs) ∧ LsAt l2 H' bs (all.map fun b => b.filter fun i => decide (i < cd.length - m) || decide (i ∈ t)) ∧ needI all cd.length [] = needI all (cd.length - m) t ∧ (∀ i ∈ t, cd.length - m ≤ i ∧ i < cd.length)) ?_ ?_ ?_
      · repeat walk_at "rd"
        refine r_lenL (.of (g2.lst hl)) ?_
        rw [hxl]
        exact z
      · have nlD : l2 ≠ D := fun z => by rw [z, eD] at n2; cases n2
        refine ⟨none, none, none, none, D, vs, [], _, rfl, g2, e2, ?_, nlD, k2 _ _ eD, ?_, rfl, fun i hi => by cases hi⟩
        · unfold leftD
          rw [Nat.sub_zero, ← hxl, List.take_length]
          simp
        · have e : (all.map fun b => b.filter fun i => decide (i < cd.length - 0) || decide (i ∈ ([] : List Nat))) = all := by
            refine (List.map_congr_left fun b hb => ?_).trans (List.map_id _)
            refine List.filter_eq_self.mpr fun i hi => ?_
            have z := hsm b hb i hi
            rw [Nat.sub_zero, decide_eq_true z]
            rfl
          rw [e]
          refine ⟨hvs.1, fun i v ev => ?_⟩
          obtain ⟨p, l, f1, f2, f3, f4⟩ := hvs.2 i v ev
          exact ⟨p, l, f1, f2, (fun z => by rw [z, n2] at f4; cases f4), k2 _ _ f4⟩
      · rintro m σ H3 hm ⟨x4, x5, x6, x7, B, bs, t, ls, rfl, g3, el, rfl, nlB, eB, hbs, hne, htt⟩
        have ej : cd.length - m = (cd.length - 1 - m) + 1 := by omega
        have ej2 : cd.length - (m + 1) = cd.length - 1 - m := by omega
        generalize hj : cd.length - 1 - m = j at ej ej2
        have hjl : j < cd.length := by omega
        rw [ej] at hbs hne htt el
        rw [ej2]
        have hjt : j ∉ t := fun h => by have := (htt j h).1; omega
        refine r_gN ?_
        repeat walk_at "rd"
        refine ⟨by show 1 ≤ sizeLine; decide, fun p4 n4 => ?_⟩
        generalize hH : upd _ p4 _ = H4; obtain ⟨k4, e4⟩ := new_facts hH n4; clear hH
        have g4 : Go G L H3 H4 := Go.same k4
        repeat walk_at "rd"
        have ebs : (all.map fun b => b.filter fun i => decide (i < j + 1) || decide (i ∈ t)) = all.map fun b => b.filter fun i => decide (i ≤ j) || decide (i ∈ t) := List.map_congr_left fun b _ => List.filter_congr fun i _ => by
          rw [decide_eq_decide.mpr (by omega : i < j + 1 ↔ i ≤ j)]
        rw [ebs] at hbs
        have hdp := (hbs.go g4).dps (K := K)
        refine ⟨.list [.int (j : Nat)], _, .lst (.of e4) (.cons (.int _) .nil), .lst (.of (k4 _ _ eB)) hdp, shaped_of (n := 1) rfl, shaped_of (n := 3) (lv_lst fun d hd => ?_), ?_⟩
        · obtain ⟨l, _, rfl⟩ := List.mem_map.mp hd
          exact lv_nats 1 l
        rw [any_nats]
        repeat walk_at "rd"
        have eneed : needI all (j + 1) t = if [j] ∈ all.map (fun b => b.filter fun i => decide (i ≤ j) || decide (i ∈ t)) then needI all j (j :: t) else needI all j t := rfl
        refine r_if (fun cc => ?_) (fun cc => ?_)
        · have cc' : ¬ [j] ∈ all.map (fun b => b.filter fun i => decide (i ≤ j) || decide (i ∈ t)) := by simpa using cc
          rw [eneed, if_neg cc'] at hne
          refine r_seq (r_delL ?_)
          repeat walk_at "rd"
          have hlx : (leftD xs (j + 1) t).length = (j + 1) + (t.filterMap fun i => xs[i]?).length := by
            unfold leftD
            rw [List.length_append, List.length_take, Nat.min_eq_left (by omega)]
          refine ⟨l2, _, _, j, rfl, rfl, k4 _ _ el, by omega, by omega, ?_, ?_⟩
          · exact seqIx (by rw [hlx]; omega)
          rw [left_erase (by omega)]
          have el4 := k4 _ _ el
          have g5 : Go G L H (upd H4 l2 (.lst (leftD xs j t))) := (g3.trans g4).updNw (Nw.backG g1 (.of n2)) el4
          have eB5 : upd H4 l2 (.lst (leftD xs j t)) B = some (.lst bs) := by rw [upd_ne nlB.symm]; exact k4 _ _ eB
          have hbs5 : LsAt l2 (upd H4 l2 (.lst (leftD xs j t))) bs _ := (hbs.go g4).upd
          have el5 : upd H4 l2 (.lst (leftD xs j t)) l2 = some (.lst (leftD xs j t)) := upd_same
          generalize upd H4 l2 (.lst (leftD xs j t)) = H5 at g5 eB5 hbs5 el5 ⊢
          repeat walk_at "rd"
          refine lcL (a := B) (xs := bs) (fun R z => ⟨_, rfl, z⟩) (.of eB5) (fun D2 i H6 => ∃ zs, Go G L H5 H6 ∧ H6 D2 = some (.lst zs) ∧ LsAt D2 H6 zs ((all.take i).map fun b => b.filter fun i => decide (i < j) || decide (i ∈ t)) ∧ V.ref l2 ∉ zs) ?_ ?_ ?_ ?_
          · intro D2 hD2
            exact ⟨[], Go.new hD2, upd_same, ⟨rfl, fun i v e => by cases e⟩, List.not_mem_nil⟩
          · rintro D2 i H6 hD2 _ ⟨zs, g6, _⟩
            exact .of (g6.lst eB5)
          · rintro D2 i y H6 hD2 hy ⟨zs, g6, eD2, hzs, hnz⟩
            obtain ⟨p, b1, f1, rfl, f3, f4⟩ := hbs5.2 i y hy
            have hil := (List.getElem?_eq_some_iff.mp f1).1
            rw [List.length_map] at hil
            rw [List.getElem?_map, List.getElem?_eq_getElem hil] at f1
            obtain rfl : (all[i].filter fun i => decide (i ≤ j) || decide (i ∈ t)) = b1 := Option.some.inj f1
            have hbl : (all[i].filter fun i => decide (i ≤ j) || decide (i ∈ t)).length ≤ 100000 := by
              exact Nat.le_trans (List.length_filter_le _ _) (hbn _ (List.getElem_mem hil))
            generalize hb : (all[i].filter fun i => decide (i ≤ j) || decide (i ∈ t)) = b2 at f4 hbl
            refine r_gN ⟨rfl, r_yes ?_⟩
            repeat walk_at "rd"
            refine lcL (a := p) (xs := b2.map fun i => V.int (i : Nat)) (fun R z => ⟨_, rfl, z⟩) (.of (g6.lst f4)) (fun D3 i3 H7 => Go G L H6 H7 ∧ H7 D3 = some (.lst (((b2.take i3).filter fun i => !decide (V.int (i : Nat) = V.int (j : Nat))).map fun i => V.int (i : Nat)))) ?_ ?_ ?_ ?_
            · intro D3 hD3
              exact ⟨Go.new hD3, upd_same⟩
            · rintro D3 i3 H7 hD3 _ ⟨g7, _⟩
              exact .of (g7.lst (g6.lst f4))
            · rintro D3 i3 y3 H7 hD3 hy3 ⟨g7, e7⟩
              rw [List.getElem?_map] at hy3
              cases hz : b2[i3]? with
              | none => rw [hz] at hy3; cases hy3
              | some k3 =>
                rw [hz] at hy3
                obtain rfl : y3 = .int (k3 : Nat) := (Option.some.inj hy3).symm
                refine r_gN ⟨rfl, ?_⟩
                repeat walk_at "rd"
                refine r_ne rfl ?_
                repeat walk_at "rd"
                have hfl : ((b2.take i3).filter fun i => !decide (V.int (i : Nat) = V.int (j : Nat))).length ≤ 100000 := by
                  refine Nat.le_trans (List.length_filter_le _ _) ?_
                  rw [List.length_take]
                  omega
                refine r_if (fun c3 => ?_) (fun c3 => ?_)
                · repeat walk_at "rd"
                  refine ⟨_, e7, by rw [List.length_map, sizeLine_eq]; omega, g7.updNew hD3 e7, ?_⟩
                  rw [upd_same, filter_take hz, if_pos c3, List.map_append]
                  rfl
                · exact ⟨g7, by rw [filter_take hz, if_neg (by rw [c3]; exact Bool.false_ne_true)]; exact e7⟩
            · rintro D3 H7 hD3 ⟨g7, e7⟩
              rw [List.length_map, List.take_length, ← hb, filt_drop hjt] at e7
              have nD : D3 ≠ D2 := fun z => by rw [z, eD2] at hD3; cases hD3
              have eD7 := g7.lst eD2
              have hzl := hzs.1
              rw [List.length_map, List.length_take] at hzl
              refine ⟨zs, eD7, by rw [sizeLine_eq]; omega, zs ++ [.ref D3], (g6.trans g7).updNew hD2 eD7, upd_same, ?_⟩
              refine ⟨?_, fun h => ?_⟩
              · rw [List.take_succ, List.getElem?_eq_getElem hil, List.map_append]
                exact ((hzs.go g7).snoc nD e7).upd
              · rcases List.mem_append.mp h with h | h
                · exact hnz h
                · have e8 : l2 = D3 := V.ref.inj (List.mem_singleton.mp h)
                  rw [← e8, g6.lst el5] at hD3
                  cases hD3
          · rintro D2 H6 hD2 ⟨zs, g6, eD2, hzs, hnz⟩
            have hbl5 := hbs5.1
            rw [List.length_map] at hbl5
            rw [hbl5, List.take_length] at hzs
            have el6 := g6.lst el5
            have nD2 : l2 ≠ D2 := fun z => by rw [← z, el5] at hD2; cases hD2
            refine ⟨_, _, _, _, D2, zs, t, _, rfl, g5.trans g6, el6, rfl, nD2, eD2, ⟨hzs.1, fun i v ev => ?_⟩, hne, fun i hi => ⟨by have := (htt i hi).1; omega, (htt i hi).2⟩⟩
            obtain ⟨p, l, f1, f2, f3, f4⟩ := hzs.2 i v ev
            refine ⟨p, l, f1, f2, fun z => hnz ?_, f4⟩
            rw [← z, ← f2]
            exact List.mem_of_getElem? ev
        · have cc' : [j] ∈ all.map (fun b => b.filter fun i => decide (i ≤ j) || decide (i ∈ t)) := by simpa using cc
          rw [eneed, if_pos cc'] at hne
          refine ⟨_, _, _, _, B, bs, j :: t, _, rfl, g3.trans g4, k4 _ _ el, left_keep (by omega), nlB, k4 _ _ eB, ?_, hne, fun i hi => ?_⟩
          · have e : (all.map fun b => b.filter fun i => decide (i < j) || decide (i ∈ j :: t)) = all.map fun b => b.filter fun i => decide (i ≤ j) || decide (i ∈ t) := List.map_congr_left fun b _ => filt_keep.symm
            rw [e]
            exact hbs.go g4
          · rcases List.mem_cons.mp hi with rfl | hi
            · omega
            · have := htt i hi
              omega
      · rintro σ H3 ⟨x4, x5, x6, x7, B, bs, t, ls, rfl, g3, el, rfl, nlB, eB, hbs, hne, htt⟩
        repeat walk_at "rd"
        rw [Nat.sub_self] at el hne
        have e0 : needI all cd.length [] = t := hne
        refine q l2 _ H3 (Nw.backG g1 (.of n2)) g3 el ?_
        have z := leftD_ims (hxs.kt g3.kt) 0 t
        have e1 : leftD cd 0 t = needD ns cd := by
          unfold leftD needD
          rw [hall, e0]
          rfl
        rw [e1] at z
        exact z
end
section
variable {P : Program} {w : World} {K : PySem.W.Frag} {mg : Str → Option Value} {base : Heap} {G : List Addr} {L : List (Addr × Str)}
theorem com_mem {ns : List Str} {ss : List (List Str)} {d : PyData} (h : d ∈ comD ns ss) : ClD ns d := cand_mem (List.mem_filter.mp h).1
theorem com_len {ns : List Str} {ss : List (List Str)} (h : ns.length ≤ 10) : (comD ns ss).length ≤ 420 := by
  have z := List.length_filter_le (fun d => ss.all fun s => !brk (s.map PyData.str) d) (candD ns)
  have z2 := cand_len ns h
  unfold comD
  omega
def spCommon (K : PySem.W.Frag) (G : List Addr) (L : List (Addr × Str)) : SpG := fun vs H Q _ => ∃ (an sl : Addr) (ns : List Str) (xs : List V) (ss : List (List Str)), vs = [.ref an, .ref sl] ∧ NT H an (ns.map V.str) ∧ GoodN ns ∧ 0 < ns.length ∧ ns.length ≤ 10 ∧ H sl = some (.lst xs) ∧ StsAt H xs ss ∧ GoodSS ns ss ∧ TBS G L H ∧
  ∀ ys H', Go G L H H' → Ims H' ys (comD ns ss) → Q ys H'
abbrev nCc : List Str := ["names", "states", "clause"]
theorem gscCommon : GScope nCc ["names", "states"] (defScope sCommonCl) := ⟨rfl, rfl, rfl, by decide +kernel, rfl, by decide +kernel, by decide +kernel⟩
theorem ok_common {f : Addr} {fd : FuncData} (F : Fun K "common_clauses" "common_clauses" sCommonCl f fd) (AC : Fd (L2.CX P w) P w K mg base "_all_common" 5 (spAllCommon K G L)) :
    GFn P w K mg base 7 f fd ["names", "states"] (spCommon K G L) := by
  obtain ⟨oc, od, kV, doc, pm, an, cdv, ct, osl, efd, lk, hcd⟩ := F.ex
  subst efd
  refine gfn_of (k := 6) lk hcd gscCommon (fun vs H Q E h => ?_) (fun A outer s H vs Q E pn hr h => ?_)
  · obtain ⟨an, sl, ns, xs, ss, e, _⟩ := h
    rw [e]
    rfl
  · obtain ⟨an, sl, ns, xs, ss, e, hn, gn, n0, n10, hl, hss, gss, ht, q⟩ := h
    subst e
    refine ⟨_, gss_cons (gs_for (passes_of rfl) rfl (pi_list (pe_fd (E := E0) AC hr passN (pa_cons (pv 0) (pa_cons (pv 1) pa_nil)))) (pg_name (i := 2) gscCommon.nd rfl (.inl rfl))
      (gss_cons (gs_yield (pv 2)) gss_nil)) gss_nil, ?_⟩
    refine r_gthen (gforL (fun a ys H0 => Go G L H H0 ∧ H0 a = some (.lst ys) ∧ Ims H0 ys (comD ns ss)) (fun R z => ?_) ?_)
    · repeat walk_at "rd"
      exact ⟨an, sl, ns, xs, ss, rfl, hn, gn, n0, n10, hl, hss, gss, ht, fun l ys H' _ g hl' hs => z l ys H' ⟨g, hl', hs⟩ (.of hl')⟩
    · rintro a ys H0 ⟨g0, ha, hys⟩
      have hyl := hys.length
      have hcl := com_len (ss := ss) n10
      refine ⟨.of ha, fun i zs σ H' => ∃ x2, σ = [some (.ref an), some (.ref sl), x2] ∧ Go G L H0 H' ∧ zs = ys.take i, ⟨none, rfl, Go.refl H0, rfl⟩, ?_, ?_, ?_⟩
      · rintro i zs σ H' _ ⟨x1, rfl, g, _⟩
        exact .of (g.lst ha)
      · rintro i y zs σ H' ey ⟨x1, rfl, g, rfl⟩
        refine r_gN ?_
        dsimp only
        refine r_gthen (r_gy (by rw [sizeLine_eq, List.length_take]; omega) ?_)
        repeat walk_at "rd"
        refine r_g0 ⟨_, rfl, g, ?_⟩
        rw [List.take_succ, ey]
        rfl
      · rintro zs σ H' ⟨x1, rfl, g, rfl⟩
        rw [List.take_length]
        exact r_g0 (q ys H' (g0.trans g) (hys.kt g.kt))
abbrev nLr : List Str := ["names", "states", "clauses"]
theorem scLearn : FnScope nLr ["names", "states"] (defScope sLearnRules) := C8.fnScope_by (by decide +kernel)
end
section
variable {P : Program} {w : World} {K : PySem.W.Frag} {mg : Str → Option Value} {base : Heap} {G : List Addr} {L : List (Addr × Str)}
theorem pmkN_err {X : Cx} {x : Str} {k : Nat} {sp : Sp} {ta : TA} {p pos : Pos} {e : Expr} {es : List Expr} (T : Err X.prog X.w X.K X.mg X.base x sp) (hr : Room k X.A) (ha : PA X (e :: es) ta) (hk : 2 ≤ k := by decide) (hg : Gl X x := by rfl)
    (hdb : (x == ("__debug__" : Str)) = false := by decide) (he : starEach (e :: es) X.env = (false, eval e X.env) :: starEach es X.env := by rfl) (hpl : (backTo pos (starEach es X.env)).any (·.1) = false := by rfl) :
    L2N.PMk X (.Call (.Name x p) (e :: es) [] pos) (tMkO (He.ga X.K x) sp [] ta) := by
  obtain ⟨f, fd, ps, h1, h2, F, b⟩ := T.ini
  exact pmkN_oex T.oex h1 h2 F (hr.mono hk) b pass0 hg T.g ha hdb he hpl
/-- an own error that is made in an except's suite -/
structure ErrH (P : Program) (w : World) (K : PySem.W.Frag) (mg : Str → Option Value) (base : Heap) (x : Str) (sp : Sp) : Prop where
  oex : OexC K (He.ga K x)
  g : mg x = some (.ref (He.ga K x))
  ini : ∃ f fd ps, PySem.W.findIn K (.ref (He.ga K x)) "__init__" = some (some (.ref f)) ∧ PySem.W.typeIn K (.ref f) = some (.type "function") ∧ L2H.FnH P w K mg base CX0 1 f fd ps sp ∧ Binds K fd ps []
theorem pmkH_err {X : Cx} {x : Str} {k : Nat} {sp : Sp} {ta : TA} {p pos : Pos} {e : Expr} {es : List Expr} (T : ErrH X.prog X.w X.K X.mg X.base x sp) (hr : L2H.RoomH k X.A) (hc : L2H.HotC X) (ha : PA X (e :: es) ta) (hk : 2 ≤ k := by decide) (hg : Gl X x := by rfl)
    (hdb : (x == ("__debug__" : Str)) = false := by decide) (he : starEach (e :: es) X.env = (false, eval e X.env) :: starEach es X.env := by rfl) (hpl : (backTo pos (starEach es X.env)).any (·.1) = false := by rfl) :
    L2H.PMk5 X (.Call (.Name x p) (e :: es) [] pos) (tMkO (He.ga X.K x) sp [] ta) := by
  obtain ⟨f, fd, ps, h1, h2, F, b⟩ := T.ini
  exact L2H.pmk5_oexH T.oex h1 h2 F (hr.mono hk) hc b pass0 hg T.g ha hdb he hpl
theorem ok_ISsH {f C S : Addr} {fd : FuncData} (F : Fun K "__init__" "InvalidStates.__init__" (sErr iISs) f fd) (B : BaseC K mg S) (T : OexC K C) (n2 : PySem.W.findIn K (.ref C) "index" = some none) : L2H.FnH P w K mg base CX0 1 f fd ["self", "index"] (spIS K C) := by
  refine okHot F scISs (fun vs H Q E h => ?_) (fun cdv A outer s H vs Q E p hr h => ?_)
  · obtain ⟨a, i, e, _⟩ := h
    rw [e]
    rfl
  · obtain ⟨a, i, e, ha, hi, q⟩ := h
    subst e
    refine ⟨_, pss_cons (ps_expr (pe_baseinit rfl B.g B.rd B.fv (pa_cons (pv 0) (pa_cons (pe_joined (.cons pe_str (.cons (pe_fmt (pv 1)) .nil))) pa_nil))))
      (pss_one (ps_ost (pv 0) (pv 1))), ?_⟩
    refine r_seq (r_drop (r_cons (r_var (v := .ref a) rfl (r_cons ?_))))
    refine j_str (by decide) (j_fmtI (k := i) rfl hi (by decide) fun out ho => ?_)
    refine j_nil (r_nil ?_)
    refine ⟨a, C, [.str out], rfl, (by show 1 ≤ 1000; decide), T, ha, ?_⟩
    repeat walk_at "rd"
    exact r_ostV (y := .int (i : Nat)) (a := a) rfl rfl T n2 (.inl ⟨ha, fun d hd hne => q d hd hne⟩)
theorem ok_chkStateN {f : Addr} {fd : FuncData} (F : Fun K "check_state" "check_state" sChkState f fd) (zI : mg "isinstance" = none) (z1 : mg "tuple" = none) (zE : mg "enumerate" = none) (T : Err P w K mg base "InvalidState" (spIS K (He.ga K "InvalidState"))) :
    FnOk P w K mg base (L2N.CX P w) 3 f fd ["names", "state"] (spChkState K G L) := by
  refine okCt F scChkState (fun vs H Q E h => ?_) (fun cdv A outer s H vs Q E hr h => ?_)
  · obtain ⟨an, v, ns, d, e, _⟩ := h
    rw [e]
    rfl
  · obtain ⟨an, v, ns, d, e, hn, hd, gs, l1, hl, qE, q⟩ := h
    subst e
    refine ⟨_, pss_cons (ps_if (pt_not (pt_val (pe_callB call_isi rfl zI boot_isinstance (pa_cons (pv 1) (pa_cons (pe_bltn (v := .ty "tuple") rfl z1 boot_tuple rfl) pa_nil)))))
        (pss_one (L2N.ps_raise rfl (L2N.takes_of rfl rfl rfl rfl) (pmkN_err T hr (pa_cons pe_int pa_nil)))) pss_nil)
      (pss_cons (ps_set (i := 2) scChkState.nd rfl (Or.inl rfl) (pv 0))
      (pss_one (ps_for (passes_of rfl) rfl (pi_enumT rfl zE (pa_cons (pv 1) pa_nil)) (pg_tup rfl (pgs_cons (pg_name (i := 3) scChkState.nd rfl (.inl rfl)) (pgs_cons (pg_name (i := 4) scChkState.nd rfl (.inl rfl)) pgs_nil)))
        (pss_cons (ps_if (pt_cmpR (op_notInT (u65 hr)) (pv 4) (pv 2) rfl) (pss_one (L2N.ps_raise rfl (L2N.takes_of rfl rfl rfl rfl) (pmkN_err T hr (pa_cons (pv 3) pa_nil)))) pss_nil)
        (pss_one (ps_set (i := 2) scChkState.nd rfl (Or.inl rfl) (pe_slice sl_tupD (pv 2) (po_some (pe_op op_add (pe_tm PySem.F.plainAttrs_tuple PySem.F.slot_tuple_index PySem.F.type_tuple_index mt_tup_index (pv 2) (pa_cons (pv 4) pa_nil)) pe_int)) po_none))))))), ?_⟩
    repeat walk_at "rd"
    refine r_isi (m := "tuple") (Dp.kd hd) (by decide) ?_
    repeat walk_at "rd"
    by_cases hz : ∃ ds, d = .tuple ds
    · obtain ⟨ds, rfl⟩ := hz
      cases hd with
      | @tup a xs _ ha hxs =>
        refine r_if (fun cc => absurd cc (by simp [tyOf])) (fun _ => ?_)
        repeat walk_at "rd"
        have hlen := Dps.length hxs
        have hs60 := hl ds rfl
        have m := lv_mem l1
        refine forET (a := a) (xs := xs) (fun R z => ⟨_, rfl, z⟩) ha (fun i σ H' => ∃ (lt : List Str) (al : Addr) (x3 x4 : Option V), σ = [some (.ref an), some (.ref a), some (.ref al), x3, x4] ∧ Go G L H H' ∧ NT H' al (lt.map V.str) ∧ goodS lt ∧ scanS ns 0 ds = scanS lt i (ds.drop i)) ?_ ?_ ?_ ?_
        · exact ⟨ns, an, none, none, rfl, Go.refl H, hn, gs, rfl⟩
        · rintro i σ H' _ ⟨_, _, _, _, _, g, _⟩
          exact sqT_go ha g.1
        · rintro i y T2 σ H1 H2 ey hT rfl ⟨lt, al, x3, x4, rfl, g, hal, gl, hsc⟩
          have g2 : Go G L H (upd H1 T2 (.tup [.int (i : Nat), y])) := g.trans (Go.new hT)
          refine r_pair (.of upd_same) ?_
          obtain ⟨dy, hdy, hy⟩ := Dps.get hxs ey
          have hy2 := Dp.go g2.1 hy
          have hal2 : NT (upd H1 T2 (.tup [.int (i : Nat), y])) al (lt.map V.str) := hal.kt (Go.kt (G := G) (L := L) (Go.new hT))
          generalize upd H1 T2 (.tup [.int (i : Nat), y]) = H3 at g2 hy2 hal2
          have hil := (List.getElem?_eq_some_iff.mp hdy).1
          have hdrop : ds.drop i = dy :: ds.drop (i + 1) := by
            obtain ⟨hl1, e1⟩ := List.getElem?_eq_some_iff.mp hdy
            rw [← e1]
            exact List.drop_eq_getElem_cons hl1
          rw [hdrop] at hsc
          repeat walk_at "rd"
          refine r_ninT (ds := lt.map PyData.str) hy2 (.tup hal2.seq (dps_strs lt)) (lv_succ (lv_succ (m dy (List.mem_of_getElem? hdy)))) (lv_tup fun d hd => ?_) ?_
          · obtain ⟨z, hz, e⟩ := List.mem_map.mp hd
            rw [← e]
            exact gl.1 z hz
          repeat walk_at "rd"
          refine r_if (fun c1 => ?_) (fun c1 => ?_)
          · repeat walk_at "rd"
            refine r_mkIS ?_ (m_cons (m_var) m_nil _)
            repeat walk_at "rd"
            have e3 : stateBad ns (.tuple ds) = some i := by
              show scanS ns 0 ds = some i
              rw [hsc]
              cases dy with
              | str z =>
                rw [inD_strs] at c1
                have nz : ¬ z ∈ lt := by simpa using c1
                exact if_neg nz
              | _ => rfl
            exact ⟨i, rfl, by omega, fun dd Hx k hx => qE i e3 _ _ Hx (g2.trans (Go.same k)) (.inr (.inl ⟨dd, _, rfl, rfl, hx, rfl⟩))⟩
          · have hin : ∃ z, dy = .str z ∧ z ∈ lt := by
              cases dy with
              | str z =>
                rw [inD_strs] at c1
                exact ⟨z, rfl, by simpa using c1⟩
              | _ =>
                rw [inD_no (fun z => by intro q; cases q)] at c1
                exact absurd c1 (by decide)
            obtain ⟨z, rfl, hzl⟩ := hin
            cases hy2
            have hj : lt[lt.idxOf z]? = some z := idxOf_get hzl
            have hlt : lt.idxOf z < lt.length := (List.getElem?_eq_some_iff.mp hj).1
            repeat walk_at "rd"
            refine ⟨⟨al, _, rfl, hal2⟩, ?_⟩
            repeat walk_at "rd"
            refine ⟨al, lt, z, lt.idxOf z, rfl, rfl, hal2.seq, hj, fun m hm e => idxOf_least hm e, ?_⟩
            repeat walk_at "rd"
            have ecut : cutV (lt.map V.str) (some ((lt.idxOf z : Nat) + 1 : Int)) none = (lt.drop (lt.idxOf z + 1)).map V.str := by
              have e0 : (((lt.idxOf z : Nat) : Int) + 1) = ((lt.idxOf z + 1 : Nat) : Int) := by omega
              rw [e0, cut_from, List.map_drop]
              rw [List.length_map]
              omega
            have gl' : goodS (lt.drop (lt.idxOf z + 1)) := ⟨fun y hy => gl.1 y (List.mem_of_mem_drop hy), Nat.le_trans (by rw [List.length_drop]; omega) gl.2⟩
            have hsc' : scanS ns 0 ds = scanS (lt.drop (lt.idxOf z + 1)) (i + 1) (ds.drop (i + 1)) := by
              rw [hsc]
              exact if_pos hzl
            refine ⟨al, _, rfl, hal2, fun e => ?_, fun p o hp h1 h2 => ?_⟩
            · rw [ecut] at e
              have e2 := congrArg List.length e
              rw [List.length_map, List.length_map, List.length_drop] at e2
              omega
            · repeat walk_at "rd"
              rw [ecut]
              exact ⟨_, p, _, _, rfl, g2.trans (Go.new hp), .of h1 h2, gl', hsc'⟩
        · rintro σ H' ⟨lt, al, x3, x4, rfl, g, hal, gl, hsc⟩
          refine q ?_ H' g
          show scanS ns 0 ds = none
          rw [hsc, hlen, List.drop_length]
          rfl
    · have e1 : (!(tyOf d == "tuple" || tyOf d == "bool" && "tuple" == "int")) = true := by
        cases d <;> first | rfl | exact absurd ⟨_, rfl⟩ hz
      have e2 : stateBad ns d = some 0 := by
        cases d <;> first | rfl | exact absurd ⟨_, rfl⟩ hz
      rw [if_pos e1]
      repeat walk_at "rd"
      refine r_mkIS ?_ (m_cons (m_c) m_nil _)
      repeat walk_at "rd"
      exact ⟨0, rfl, by decide, fun dd Hx k hx => qE 0 e2 _ _ Hx (Go.same k) (.inr (.inl ⟨dd, _, rfl, rfl, hx, rfl⟩))⟩

theorem pe_fdS {X : Cx} {CX : CXT} {x : Str} {k j : Nat} {sp : Sp} {E : L2.St → XK} {p pos : Pos} {e : Expr} {es : List Expr} {t : TA} (c : Fd CX X.prog X.w X.K X.mg X.base x k sp) (hr : Room j X.A) (hx : ∀ σ, PassesAt CX X σ (E σ)) (ha : PA X (e :: es) t) (hk : k ≤ j := by decide) (hg : Gl X x := by rfl)
    (hdb : (x == ("__debug__" : Str)) = false := by decide) (he : starEach (e :: es) X.env = (false, eval e X.env) :: starEach es X.env := by rfl) (hpl : (backTo pos (starEach es X.env)).any (·.1) = false := by rfl) :
    PE X (.Call (.Name x p) (e :: es) [] pos) (tCallS sp E t) := by
  obtain ⟨f, fd, ps, h1, h2, F, b⟩ := c.ex
  exact pe_callS F (hr.mono hk) hg h1 h2 b hx ha hdb he hpl
theorem r_callS {σ : L2.St} {H : Hp} {Q : VK} {sp : Sp} {E : L2.St → XK} {t : TA} (h : t σ H fun vs H1 => sp vs H1 Q (E σ)) : tCallS sp E t σ H Q := h
theorem sqL_go {K : PySem.W.Frag} {H H' : Hp} {a : Addr} {xs : List V} (h : SqL K H a xs) (e : LamX.ExtN H H') : SqL K H' a xs := by
  rcases h with (h | ⟨o, h⟩) | h
  · exact .inl (.inl (e _ _ h fun _ z => by cases z))
  · exact .inl (.inr ⟨o, e _ _ h fun _ z => by cases z⟩)
  · exact .inr h
/-- the number of the first that is no state -/
def badAt (ns : List Str) : Nat → List PyData → Option Nat
  | _, [] => none
  | i, d :: ds => if (stateBad ns d).isSome then some i else badAt ns (i + 1) ds
def badSs (ns : List Str) : PyData → Option Nat
  | .list [] => some 0
  | .list ds => badAt ns 0 ds
  | _ => some 0
theorem badAt_step {ns : List Str} {ds : List PyData} {i : Nat} {d : PyData} (h : ds[i]? = some d) : badAt ns i (ds.drop i) = if (stateBad ns d).isSome then some i else badAt ns (i + 1) (ds.drop (i + 1)) := by
  obtain ⟨hl, e⟩ := List.getElem?_eq_some_iff.mp h
  rw [List.drop_eq_getElem_cons hl, e]
  rfl
/-- of any data -/
def spChkSs (K : PySem.W.Frag) (G : List Addr) (L : List (Addr × Str)) : Sp := fun vs H Q E => ∃ (an : Addr) (v : V) (ns : List Str) (d : PyData), vs = [.ref an, v] ∧ NT H an (ns.map V.str) ∧ goodS ns ∧ Dp K H v d ∧ (∀ ds, d = .list ds → ds.length ≤ 90 ∧ ∀ y ∈ ds, lv 7 y = true ∧ ∀ es, y = .tuple es → es.length ≤ 60) ∧
  (∀ i, badSs ns d = some i → ∀ dd H', Go G L H H' → H' dd = some (.xd [("index", .int (i : Nat))]) → E (.ref (He.ga K "InvalidStates")) (some dd) H') ∧ (badSs ns d = none → ∀ H', Go G L H H' → Q .non H')
theorem ok_chkSs {f : Addr} {fd : FuncData} (F : Fun K "_check_states" "_check_states" sChkStates f fd) (zI : mg "isinstance" = none) (zl : mg "list" = none) (zL : mg "len" = none) (zE : mg "enumerate" = none) (CHSN : Fd (L2N.CX P w) P w K mg base "check_state" 3 (spChkState K G L)) (T : Err P w K mg base "InvalidStates" (spIS K (He.ga K "InvalidStates"))) (TH : ErrH P w K mg base "InvalidStates" (spIS K (He.ga K "InvalidStates"))) (E2 : Ec2 K mg) :
    FnOk P w K mg base (L2.CX P w) 4 f fd ["names", "states"] (spChkSs K G L) := by
  refine F.okX scChkStates (fun vs H Q E h => ?_) (fun cdv A outer s H vs Q E hr h => ?_)
  · obtain ⟨an, v, ns, d, e, _⟩ := h
    rw [e]
    rfl
  · obtain ⟨an, v, ns, d, e, hn, gs, hd, hds, qE, q⟩ := h
    subst e
    refine ⟨_, pss_cons (ps_if (PW.pt (pw_or (pt_not (pt_val (pe_callB call_isi rfl zI boot_isinstance (pa_cons (pv 1) (pa_cons (pe_bltn (v := .ty "list") rfl zl (by decide +kernel) rfl) pa_nil))))) (pw_or1 (pt_cmpR op_eq (pe_callB (r := cLen K) c_len rfl zL boot_len (pa_cons (pv 1) pa_nil)) pe_int (nomark _)))))
        (pss_one (ps_raise rfl (takes_of rfl rfl rfl rfl) (pmk_err T hr (pa_cons pe_int pa_nil)))) pss_nil)
      (pss_one (ps_for (passes_of rfl) rfl (pi_enum rfl zE (pa_cons (pv 1) pa_nil)) (pg_tup rfl (pgs_cons (pg_name (i := 2) scChkStates.nd rfl (.inl rfl)) (pgs_cons (pg_name (i := 3) scChkStates.nd rfl (.inl rfl)) pgs_nil)))
        (pss_one (L2H.ps_try_onlyX (X := (cxOf (L2.CX P w) P w K mg base nCst "_check_states" (defScope sChkStates) f cdv A outer s H E)) (c := .ref (He.ga K "InvalidState")) (Wout := fun cls d _ H => E cls d H)
            (tb := fun W => tDrop (tCallS (spChkState K G L) (fun σ cls d H' => W cls d σ H') (tCons (tVar 0) (tCons (tVar 3) tNil))))
            (ts := fun _ _ _ _ σ H1 => tMkO (He.ga K "InvalidStates") (spIS K (He.ga K "InvalidStates")) [] (tCons (tVar 2) tNil) σ H1 fun cls d H' => E cls d H')
            rfl rfl ⟨rfl, by decide, .inl (E2.g _ (by decide))⟩ (L2H.passesAt_of rfl) (takes_of rfl rfl rfl rfl)
            (fun W pn xe tk _ _ => pss_one (ps_expr (pe_fdS CHSN hr (L2N.passAt tk) (pa_cons (pv 0) (pa_cons (pv 3) pa_nil)))))
            (fun a oe cls d pn hz hf tk hot => pss_one (L2H.ps_raiseHN hot tk (pmkH_err TH (L2H.roomH_mark hr _) hot (pa_cons (pv 2) pa_nil)))))))), ?_⟩
    have raise0 : badSs ns d = some 0 → tMkO (He.ga K "InvalidStates") (spIS K (He.ga K "InvalidStates")) [] (tCons (tC (.int 0)) tNil) (L2.start nCst [.ref an, v]) H (fun cls d H' => E cls d H') := fun hb => by
      refine r_mkIS ?_ (m_cons (m_c) m_nil _)
      repeat walk_at "rd"
      exact ⟨0, rfl, by decide, fun dd Hx k hx => qE 0 hb dd Hx (Go.same k) hx⟩
    repeat walk_at "rd"
    by_cases hz : ∃ ds, d = .list ds
    · obtain ⟨ds, rfl⟩ := hz
      obtain ⟨hl90, hit⟩ := hds ds rfl
      refine r_isB (b := true) (Dp.kd hd) rfl (by decide) ?_
      cases hd with
      | @lst a xs _ ha hxs =>
        have hxl := Dps.length hxs
        repeat walk_at "rd"
        refine r_lenL ha ?_
        repeat walk_at "rd"
        refine r_eq rfl ?_
        by_cases hz : ds = []
        · have e0 : decide (V.int (xs.length : Nat) = V.int 0) = true := decide_eq_true (by rw [hz] at hxl; rw [hxl]; rfl)
          rw [e0]
          refine ⟨true, rfl, ?_⟩
          rw [if_pos rfl]
          exact raise0 (by rw [hz]; rfl)
        have hb : badSs ns (.list ds) = badAt ns 0 ds := by
          cases ds with
          | nil => exact absurd rfl hz
          | cons _ _ => rfl
        have e0 : decide (V.int (xs.length : Nat) = V.int 0) = false := decide_eq_false fun y => by
          have y2 := V.int.inj y
          exact hz (List.length_eq_zero_iff.mp (by omega))
        rw [e0]
        refine ⟨false, rfl, ?_⟩
        rw [if_neg Bool.false_ne_true]
        repeat walk_at "rd"
        refine forEL (a := a) (xs := xs) (fun R z => ⟨_, rfl, z⟩) ha (fun i σ H' => ∃ x2 x3, σ = [some (.ref an), some (.ref a), x2, x3] ∧ Go G L H H' ∧ badAt ns 0 ds = badAt ns i (ds.drop i)) ?_ ?_ ?_ ?_
        · exact ⟨none, none, rfl, Go.refl H, rfl⟩
        · rintro i σ H' _ ⟨x2, x3, rfl, g, _⟩
          exact sqL_go ha g.1
        · rintro i y T2 σ H2 H3 hy hT rfl ⟨x2, x3, rfl, g, hba⟩
          have g3 : Go G L H (upd H2 T2 (.tup [.int (i : Nat), y])) := g.trans (Go.new hT)
          refine r_pair (.of upd_same) ?_
          generalize upd H2 T2 (.tup [.int (i : Nat), y]) = H3 at g3 ⊢
          obtain ⟨dy, hdy, hyd⟩ := Dps.get hxs hy
          have hil := (List.getElem?_eq_some_iff.mp hdy).1
          obtain ⟨l7, hl60⟩ := hit dy (List.mem_of_getElem? hdy)
          rw [badAt_step hdy] at hba
          repeat walk_at "rd"
          refine r_callS ?_
          repeat walk_at "rd"
          refine ⟨an, y, ns, dy, rfl, hn.kt g3.kt, Dp.go g3.1 hyd, gs, l7, hl60, fun k hk cls dd H4 g4 t => ?_, fun hk H4 g4 => ⟨_, _, rfl, g3.trans g4, by rw [hba, hk]; rfl⟩⟩
          have em : PySem.W.exmOne K cls (.ref (He.ga K "InvalidState")) = some true := by
            rw [told_inv t]
            exact E2.m _ (by decide) _ (by decide)
          refine ⟨true, em, fun _ a0 ha0 => ?_, fun z => by cases z⟩
          refine r_mkIS ?_ (m_cons (m_var) m_nil _)
          repeat walk_at "rd"
          exact ⟨i, rfl, by omega, fun d2 Hx kx hx => qE i (by rw [hb, hba, hk]; rfl) d2 Hx ((g3.trans g4).trans (Go.same kx)) hx⟩
        · rintro σ H' ⟨x2, x3, rfl, g, hba⟩
          rw [hxl, List.drop_length] at hba
          exact q (by rw [hb, hba]; rfl) H' g
    · have hb : badSs ns d = some 0 := by
        cases d <;> first | rfl | exact absurd ⟨_, rfl⟩ hz
      refine r_isB (b := false) (Dp.kd hd) (by cases d <;> first | rfl | exact absurd ⟨_, rfl⟩ hz) (by decide) ?_
      repeat walk_at "rd"
      exact raise0 hb
end
section
variable {P : Program} {w : World} {K : PySem.W.Frag} {mg : Str → Option Value} {base : Heap} {G : List Addr} {L : List (Addr × Str)}
/-- names or states that are refused -/
def Refused (K : PySem.W.Frag) (G : List Addr) (L : List (Addr × Str)) (vs : List V) (H : Hp) (E : XK) : Prop := ∃ (v u : V) (dn : PyData), vs = [v, u] ∧ Dp K H v dn ∧ lv 7 dn = true ∧ TBS G L H ∧ (∀ ds, dn = .tuple ds → ds.length ≤ 60 ∧ ∀ x ∈ ds, smallS x) ∧
  (∀ i, namesBad dn = some i → ∀ cls dd H', Go G L H H' → Told K cls dd H' (rulesE "names" i) → E cls dd H') ∧
  (namesBad dn = none → ∃ (an : Addr) (ns : List Str) (du : PyData) (i : Nat), v = .ref an ∧ NT H an (ns.map V.str) ∧ goodS ns ∧ Dp K H u du ∧ (∀ ds, du = .list ds → ds.length ≤ 90 ∧ ∀ y ∈ ds, lv 7 y = true ∧ ∀ es, y = .tuple es → es.length ≤ 60) ∧ badSs ns du = some i ∧
    ∀ dd H', Go G L H H' → H' dd = some (.xd [("index", .int (i : Nat))]) → E (.ref (He.ga K "InvalidStates")) (some dd) H')
def spRefused (K : PySem.W.Frag) (G : List Addr) (L : List (Addr × Str)) : Sp := fun vs H _ E => Refused K G L vs H E
theorem ok_allCommonE {f : Addr} {fd : FuncData} (F : Fun K "_all_common" "_all_common" sAllCommon f fd) (zA : mg "all" = none) (CHN : Fd (L2.CX P w) P w K mg base "check_names" 3 (spChkNames K G L)) (CST : Fd (L2.CX P w) P w K mg base "_check_states" 4 (spChkSs K G L)) (CA : Fd CX0 P w K mg base "_candidates" 1 (spCand K G L)) (FUL : Fd CX0 P w K mg base "fulfils" 1 (spFul K)) :
    FnOk P w K mg base (L2.CX P w) 5 f fd ["names", "states"] (spRefused K G L) := by
  refine F.okX scAllCommon (fun vs H Q E h => ?_) (fun cdv A outer s H vs Q E hr h => ?_)
  · obtain ⟨v, u, dn, e, _⟩ := h
    rw [e]
    rfl
  · obtain ⟨v, u, dn, e, hd, l7, ht, hsm, q1, q2⟩ := h
    subst e
    refine ⟨_, pss_cons (ps_expr (pe_fd CHN hr (passes_call (takes_of rfl rfl rfl rfl) fun _ _ _ _ z => z) (pa_cons (pv 0) pa_nil)))
      (pss_cons (ps_expr (pe_fd CST hr (passes_call (takes_of rfl rfl rfl rfl) fun _ _ _ _ z => z) (pa_cons (pv 0) (pa_cons (pv 1) pa_nil))))
      (pss_one (ps_ret (pe_lc (own := [("clause", 2)]) (g := gName 2) rfl scAllCommon.nd (pi_list (pe_fd (E := E0) CA hr pass0 (pa_cons (pv 0) pa_nil)))
            (blkOk_by (own := [("clause", 2)]) (N := nAc) (sc := defScope sAllCommon) (by decide +kernel)) (fun _ _ _ _ _ => pg_name (i := 2) scAllCommon.nd rfl (.inr rfl)) (fun _ _ _ _ _ => pts_one (pt_val (pe_callB (r := rAll K) (cr_all rfl) rfl zA (by decide +kernel) (pa_cons (pe_lc (own := [("state", 3)]) (g := gName 3) (tt := tYes) (wi := iList K (tVar 1)) rfl scAllCommon.nd (pi_list (pv 1))
            (blkOk_by (own := [("state", 3)]) (N := nAc) (sc := relS _ (defScope sAllCommon)) (by decide +kernel)) (fun _ _ _ _ _ => pg_name (i := 3) scAllCommon.nd rfl (.inl rfl)) (fun _ _ _ _ _ => pts_nil)
            (fun _ _ _ _ _ => (pe_fd (E := E0) FUL hr pass0 (pa_cons (pv 3) (pa_cons (pv 2) pa_nil))))) pa_nil))))
            (fun _ _ _ _ _ => (pv 2)))))), ?_⟩
    repeat walk_at "rd"
    refine ⟨v, dn, rfl, hd, l7, ht, hsm, q1, fun hnone H1 g1 => ?_⟩
    obtain ⟨an, ns, du, i, ev, hn, gs, hu, hcu, hb, qE⟩ := q2 hnone
    subst ev
    repeat walk_at "rd"
    exact ⟨an, u, ns, du, rfl, hn.kt g1.kt, gs, Dp.go g1.1 hu, hcu, fun k hk dd H2 g2 hx => (by rw [hb] at hk; cases hk; exact qE dd H2 (g1.trans g2) hx), fun hno => (by rw [hb] at hno; cases hno)⟩
theorem ok_learnE {f : Addr} {fd : FuncData} {t40 : Tok} (F : Fun K "learn_rules" "learn_rules" sLearnRules f fd) (zL : mg "len" = none) (zT : mg "tuple" = none) (g40 : mg "MOST_CLAUSES" = some (.int 40 t40)) (AC : Fd (L2.CX P w) P w K mg base "_all_common" 5 (spRefused K G L)) (ND : Fd CX0 P w K mg base "_needed" 4 (spNeeded K G L)) (M : Mkr P w K mg base G L) (ETM : Er0 K mg "TooManyClauses") :
    FnOk P w K mg base (L2.CX P w) 6 f fd ["names", "states"] (spRefused K G L) := by
  refine F.okX scLearn (fun vs H Q E h => ?_) (fun cdv A outer s H vs Q E hr h => ?_)
  · obtain ⟨v, u, dn, e, _⟩ := h
    rw [e]
    rfl
  · obtain ⟨v, u, dn, e, q⟩ := id h
    subst e
    refine ⟨_, pss_cons (ps_set (i := 2) scLearn.nd rfl (Or.inl rfl) (pe_fd (E := E0) ND hr pass0 (pa_cons (pv 0) (pa_cons (pe_fd AC hr (passes_call (takes_of rfl rfl rfl rfl) fun _ _ _ _ z => z) (pa_cons (pv 0) (pa_cons (pv 1) pa_nil))) pa_nil))))
(pss_cons (ps_if (pt_cmpR op_gt (pe_callB (r := cLen K) c_len rfl zL boot_len (pa_cons (pv 2) pa_nil)) (pe_glob (v := .int 40) rfl g40 ⟨_, rfl⟩) (nomark _))
  (pss_one (ps_raise rfl (takes_of rfl rfl rfl rfl) (pmk_er0 ETM))) pss_nil)
(pss_one (ps_ret (pe_rules (E := E0) M hr passN (pa_cons (pv 0) (pa_cons (pe_callTy c_tup rfl zT (by decide +kernel) (pa_cons (pv 2) pa_nil)) pa_nil)))))), ?_⟩
    repeat walk_at "rd"
    exact h
def spGRefused (K : PySem.W.Frag) (G : List Addr) (L : List (Addr × Str)) : SpG := fun vs H _ E => Refused K G L vs H E
theorem ok_commonE {f : Addr} {fd : FuncData} (F : Fun K "common_clauses" "common_clauses" sCommonCl f fd) (AC : Fd (L2.CX P w) P w K mg base "_all_common" 5 (spRefused K G L)) :
    GFn P w K mg base 7 f fd ["names", "states"] (spGRefused K G L) := by
  obtain ⟨oc, od, kV, doc, pm, an, cdv, ct, osl, efd, lk, hcd⟩ := F.ex
  subst efd
  refine gfn_of (k := 6) lk hcd gscCommon (fun vs H Q E h => ?_) (fun A outer s H vs Q E pn hr h => ?_)
  · obtain ⟨v, u, dn, e, _⟩ := h
    rw [e]
    rfl
  · obtain ⟨v, u, dn, e, q⟩ := id h
    subst e
    refine ⟨_, gss_cons (gs_for (passes_of rfl) rfl (pi_list (pe_fd AC hr (passes_call takes_gcx fun _ _ _ _ z => z) (pa_cons (pv 0) (pa_cons (pv 1) pa_nil)))) (pg_name (i := 2) gscCommon.nd rfl (.inl rfl))
      (gss_cons (gs_yield (pv 2)) gss_nil)) gss_nil, ?_⟩
    refine r_gthen ?_
    show tCall (spRefused K G L) [] E (tCons (tVar 0) (tCons (tVar 1) tNil)) _ _ _
    repeat walk_at "rd"
    exact h
abbrev nClo : List Str := ["names", "states", "clauses", "state"]
theorem gscClosure : GScope nClo ["names", "states"] (defScope sClosure) := ⟨rfl, rfl, rfl, by decide +kernel, rfl, by decide +kernel, by decide +kernel⟩
theorem ok_closureE {f : Addr} {fd : FuncData} (F : Fun K "closure" "closure" sClosure f fd) (AC : Fd (L2.CX P w) P w K mg base "_all_common" 5 (spRefused K G L)) (ALS : Fd CX0 P w K mg base "all_states" 1 (spAllStates K G L)) (AM : Fd CX0 P w K mg base "broken_among" 2 (spAmong K G L)) :
    GFn P w K mg base 7 f fd ["names", "states"] (spGRefused K G L) := by
  obtain ⟨oc, od, kV, doc, pm, an, cdv, ct, osl, efd, lk, hcd⟩ := F.ex
  subst efd
  refine gfn_of (k := 6) lk hcd gscClosure (fun vs H Q E h => ?_) (fun A outer s H vs Q E pn hr h => ?_)
  · obtain ⟨v, u, dn, e, _⟩ := h
    rw [e]
    rfl
  · obtain ⟨v, u, dn, e, q⟩ := id h
    subst e
    refine ⟨_, gss_cons (gs_ps (ps_set (i := 2) gscClosure.nd rfl (Or.inl rfl) (pe_fd AC hr (passes_call takes_gcx fun _ _ _ _ z => z) (pa_cons (pv 0) (pa_cons (pv 1) pa_nil)))))
      (gss_cons (gs_for (passes_of rfl) rfl (pi_list (pe_fd (E := E0) ALS hr pass0 (pa_cons (pv 0) pa_nil))) (pg_name (i := 3) gscClosure.nd rfl (.inl rfl))
        (gss_cons (gs_if (pt_not (pt_truth (pe_fd (E := E0) AM hr pass0 (pa_cons (pv 2) (pa_cons (pv 3) pa_nil))) (by intro _; rfl))) (gss_cons (gs_yield (pv 3)) gss_nil) gss_nil) gss_nil)) gss_nil), ?_⟩
    refine r_gthen (r_gp ?_)
    repeat walk_at "rd"
    exact h
end
section
variable {X : Cx}
/-- an error that stops no walk -/
def noStp (K : PySem.W.Frag) (E : XK) : XK := fun cls d H => E cls d H ∧ PySem.W.subIn K cls (.type "StopIteration") = some false
theorem pe_lgdX {x : Str} {k j : Nat} {sp : SpG} {E : XK} {p pos p2 pos2 : Pos} {e : Expr} {es : List Expr} {t : TA} (c : Gd X.prog X.w X.K X.mg X.base x k sp) (hr : Room j X.A) (zl : X.mg "list" = none) (hx : Passes (L2.CX X.prog X.w) X (noStp X.K E)) (ha : PA X (e :: es) t) (hk : k + 3 ≤ j := by decide) (hg : Gl X x := by rfl) (hgl : Gl X "list" := by rfl)
    (hdb : (x == ("__debug__" : Str)) = false := by decide) (he : starEach (e :: es) X.env = (false, eval e X.env) :: starEach es X.env := by rfl) (hpl : (backTo pos (starEach es X.env)).any (·.1) = false := by rfl)
    (he2 : starEach [.Call (.Name x p) (e :: es) [] pos] X.env = (false, eval (.Call (.Name x p) (e :: es) [] pos) X.env) :: starEach [] X.env := by rfl) :
    PE X (.Call (.Name "list" p2) [.Call (.Name x p) (e :: es) [] pos] [] pos2) (tListG (tCallG sp [] (noStp X.K E) t)) := by
  obtain ⟨f, fd, ps, h1, h2, F, b⟩ := c.ex
  exact pe_listG (pgen_call F (hr.mono (by omega)) hg h1 h2 b .nil ha hdb he hpl) hx (fun _ _ _ h => h.2) (hr.mono hk) hgl zl (by decide +kernel) (by decide) (by decide) he2
theorem r_lgdX {K : PySem.W.Frag} {E : XK} {sp : SpG} {ta : TA} {σ : L2.St} {H : Hp} {Q : VK} (h : ta σ H fun vs H1 => sp (vs ++ []) H1 (fun out H2 => ∀ p, H2 p = none → Q (.ref p) (upd H2 p (.lst out))) (noStp K E)) : tListG (tCallG sp [] (noStp K E) ta) σ H Q := h
variable {A : Around} {outer : List Env} {s : Shared} {H : Hp} {E : XK} {sc : Scope} {fL c' : Addr} {j : Nat}
/-- list(g(..)) as a lambda's body -/
theorem pe_lgL {x : Str} {k : Nat} {sp : SpG} {p pos p2 pos2 : Pos} {e : Expr} {es : List Expr} {t : TA} (c : Gd X.prog X.w X.K X.mg X.base x k sp) (hr : Room j (A.deeper (LamX.lamEnv X sc s.heap.objs.size fL c'))) (zl : X.mg "list" = none) (ha : PA (LamX.lamCx X A outer s H E sc fL c') (e :: es) t) (hk : k + 3 ≤ j := by decide) (hg : Gl (LamX.lamCx X A outer s H E sc fL c') x := by rfl) (hgl : Gl (LamX.lamCx X A outer s H E sc fL c') "list" := by rfl)
    (hdb : (x == ("__debug__" : Str)) = false := by decide) (he : starEach (e :: es) (LamX.lamCx X A outer s H E sc fL c').env = (false, eval e (LamX.lamCx X A outer s H E sc fL c').env) :: starEach es (LamX.lamCx X A outer s H E sc fL c').env := by rfl) (hpl : (backTo pos (starEach es (LamX.lamCx X A outer s H E sc fL c').env)).any (·.1) = false := by rfl)
    (he2 : starEach [.Call (.Name x p) (e :: es) [] pos] (LamX.lamCx X A outer s H E sc fL c').env = (false, eval (.Call (.Name x p) (e :: es) [] pos) (LamX.lamCx X A outer s H E sc fL c').env) :: starEach [] (LamX.lamCx X A outer s H E sc fL c').env := by rfl) :
    PE (LamX.lamCx X A outer s H E sc fL c') (.Call (.Name "list" p2) [.Call (.Name x p) (e :: es) [] pos] [] pos2) (tListG (tCallG sp [] (noStp X.K E) t)) :=
  pe_lgdX (X := LamX.lamCx X A outer s H E sc fL c') (E := E) c hr zl (passes_call (takes_of rfl rfl rfl rfl) fun _ _ _ _ z => z.1) ha hk hg hgl hdb he hpl he2
end
section
variable {P : Program} {w : World} {K : PySem.W.Frag} {mg : Str → Option Value} {base : Heap} {G : List Addr} {L : List (Addr × Str)}
abbrev nCandL : List Str := ["_law_names_here", "_law_found", "_law_k", "_law_other"]
theorem scCandL : FnScope nCandL ["_law_names_here"] (defScope sCandL) := C8.fnScope_by (by decide +kernel)
theorem ok_candL {f : Addr} {fd : FuncData} (F : Fun K "_law_candidates" "_law_candidates" sCandL f fd) (zR : mg "range" = none) (zL : mg "len" = none) : FnOk P w K mg base CX0 1 f fd ["_law_names_here"] (spCand K G L) := by
  refine F.ok scCandL (fun vs H Q E h => ?_) (fun cdv A outer s H vs Q E hr h => ?_)
  · obtain ⟨an, ns, e, _⟩ := h
    rw [e]
    rfl
  · obtain ⟨an, ns, e, hn, hlen, q⟩ := h
    subst e
    refine ⟨_, pss_cons (ps_set (i := 1) scCandL.nd rfl (Or.inl rfl) (pe_lst pa_nil))
(pss_cons (ps_for PassesOwn.never rfl (pi_range1 rfl zR (pa_cons (pe_callB (r := cLen K) c_len rfl zL boot_len (pa_cons (pv 0) pa_nil)) pa_nil)) (pg_name (i := 2) scCandL.nd rfl (.inl rfl))
  (pss_cons (ps_set (i := 1) scCandL.nd rfl (Or.inl rfl) (pe_op op_cat (pv 1) (pe_lst (pa_cons (pe_tup (pa_cons pe_str (pa_cons (pe_ix (r := rIxT K) ix_tup (pv 0) (pv 2) (fun _ _ => rfl)) (pa_cons (pe_ix (r := rIxT K) ix_tup (pv 0) (pv 2) (fun _ _ => rfl)) pa_nil)))) (pa_cons (pe_tup (pa_cons pe_str (pa_cons (pe_ix (r := rIxT K) ix_tup (pv 0) (pv 2) (fun _ _ => rfl)) (pa_cons (pe_ix (r := rIxT K) ix_tup (pv 0) (pv 2) (fun _ _ => rfl)) pa_nil)))) pa_nil)))))
  (pss_one (ps_for PassesOwn.never rfl (pi_tup (pe_slice sl_tupA (pv 0) (po_some (pe_op op_add (pv 2) pe_int)) po_none)) (pg_name (i := 3) scCandL.nd rfl (.inl rfl))
    (pss_cons (ps_set (i := 1) scCandL.nd rfl (Or.inl rfl) (pe_op op_cat (pv 1) (pe_lst (pa_cons (pe_tup (pa_cons pe_str (pa_cons (pe_ix (r := rIxT K) ix_tup (pv 0) (pv 2) (fun _ _ => rfl)) (pa_cons (pv 3) pa_nil)))) (pa_cons (pe_tup (pa_cons pe_str (pa_cons (pv 3) (pa_cons (pe_ix (r := rIxT K) ix_tup (pv 0) (pv 2) (fun _ _ => rfl)) pa_nil)))) pa_nil)))))
    (pss_one (ps_set (i := 1) scCandL.nd rfl (Or.inl rfl) (pe_op op_cat (pv 1) (pe_lst (pa_cons (pe_tup (pa_cons pe_str (pa_cons (pe_ix (r := rIxT K) ix_tup (pv 0) (pv 2) (fun _ _ => rfl)) (pa_cons (pv 3) pa_nil)))) (pa_cons (pe_tup (pa_cons pe_str (pa_cons (pe_ix (r := rIxT K) ix_tup (pv 0) (pv 2) (fun _ _ => rfl)) (pa_cons (pv 3) pa_nil)))) pa_nil)))))))))))
(pss_one (ps_ret (pv 1)))), ?_⟩
    repeat walk_at "rd"
    refine ⟨by show 0 ≤ sizeLine; decide, fun p0 n0 => ?_⟩
    generalize hH : upd _ p0 _ = H0; obtain ⟨k0, e0⟩ := new_facts hH n0; clear hH
    have g00 : Go G L H H0 := Go.same k0
    have nw0 : Nw H p0 := .of n0
    repeat walk_at "rd"
    refine forR (n := ns.length) (H0 := H0) (fun R z => ?_) (by omega) (fun i σ H' => ∃ (D : Addr) (x2 x3 : Option V) (xs : List V) (ds : List PyData), σ = [some (.ref an), some (.ref D), x2, x3] ∧ Go G L H H' ∧ Nw H D ∧ H' D = some (.lst xs) ∧ Ims H' xs ds ∧ candD ns = ds ++ candD (ns.drop i)) ?_ ?_ ?_
    · repeat walk_at "rd"
      refine r_lenT (hn.kt g00.kt).seq ?_
      rw [List.length_map]
      exact z
    · exact ⟨p0, none, none, [], [], rfl, g00, nw0, e0, .nil, rfl⟩
    · rintro i σ H2 hil ⟨D, x2, x3, xs, ds, rfl, g, nD, e2, hxs, hcd⟩
      have ezi : ns[i]? = some ns[i] := List.getElem?_eq_getElem hil
      generalize hfs : ns[i] = fs at ezi
      have hdrop : ns.drop i = fs :: ns.drop (i + 1) := by
        rw [← hfs]
        exact List.drop_eq_getElem_cons hil
      have ev : (ns.map V.str)[i]? = some (.str fs) := by rw [List.getElem?_map, ezi]; rfl
      have tn : ∀ {H5 : Hp}, Go G L H H5 → ∀ {R : VK}, R (.str fs) H5 → rIxT K (.ref an) (.int (i : Nat)) H5 R := fun {H5} g5 {R} z => r_ixT (i := (i : Nat)) (hn.kt g5.kt).seq (atI_nat (j := i) ev) z
      refine r_gN ?_
      refine r_seq ?_
      repeat walk_at "rd"
      refine tn g ?_
      repeat walk_at "rd"
      refine tn g ?_
      repeat walk_at "rd"
      refine ⟨by show 3 ≤ sizeLine; decide, fun p4 n4 => ?_⟩
      generalize hH : upd _ p4 _ = H4; obtain ⟨k4, e4⟩ := new_facts hH n4; clear hH
      repeat walk_at "rd"
      refine tn (g.trans (Go.same k4)) ?_
      repeat walk_at "rd"
      refine tn (g.trans (Go.same k4)) ?_
      repeat walk_at "rd"
      refine ⟨by show 3 ≤ sizeLine; decide, fun p5 n5 => ?_⟩
      generalize hH : upd _ p5 _ = H5; obtain ⟨k5, e5⟩ := new_facts hH n5; clear hH
      repeat walk_at "rd"
      refine ⟨by show 2 ≤ sizeLine; decide, fun p6 n6 => ?_⟩
      generalize hH : upd _ p6 _ = H6; obtain ⟨k6, e6⟩ := new_facts hH n6; clear hH
      have g26 : Go G L H2 H6 := ((Go.same k4).trans (Go.same k5)).trans (Go.same k6)
      have i4 : Im H6 (.ref p4) (clD "either" fs fs) := im_cl (k6 _ _ (k5 _ _ e4))
      have i5 : Im H6 (.ref p5) (clD "excludes" fs fs) := im_cl (k6 _ _ e5)
      have hxl := hxs.length
      have hdl : ds.length ≤ 420 := by
        have z := cand_len ns hlen
        rw [hcd, List.length_append] at z
        omega
      refine r_cat (g26.lst e2) e6 (by show xs.length + 2 ≤ 5000; omega) fun p7 H7 k7 n7 e7 => ?_
      have g67 : Go G L H6 H7 := Go.same k7
      have g7 : Go G L H H7 := (g.trans g26).trans g67
      have h7 := ((hxs.kt g26.kt).app (.cons i4 (.cons i5 .nil))).kt g67.kt
      have nD7 : Nw H p7 := Nw.backG (g.trans g26) (.of n7)
      repeat walk_at "rd"
      refine forTg (fun a0 H0 => Go G L H7 H0 ∧ Tp H0 a0 ((ns.drop (i + 1)).map V.str)) (fun R z => ?_) (fun a0 H0 ⟨g0, ha0⟩ => ⟨(ns.drop (i + 1)).map V.str, ha0.seq, fun j σ H' => ∃ (D : Addr) (x3 : Option V) (zs : List V) (es : List PyData), σ = [some (.ref an), some (.ref D), some (.int (i : Nat)), x3] ∧ Go G L H H' ∧ Tp H' a0 ((ns.drop (i + 1)).map V.str) ∧ Nw H D ∧ H' D = some (.lst zs) ∧ Ims H' zs es ∧ es = (ds ++ [clD "either" fs fs, clD "excludes" fs fs]) ++ ((ns.drop (i + 1)).take j).flatMap (fourD fs), ?_, ?_, ?_, ?_⟩)
      · repeat walk_at "rd"
        refine r_slT (hn.kt g7.kt) fun p8 H8 k8 t8 => ?_
        rw [show ((i : Nat) : Int) + 1 = ((i + 1 : Nat) : Int) by omega, cut_from (by rw [List.length_map]; omega), ← List.map_drop] at t8
        exact z p8 H8 ⟨Go.same k8, t8⟩
      · exact ⟨_, _, _, _, rfl, g7.trans g0, ha0, nD7, g0.lst e7, h7.kt g0.kt, by rw [List.take_zero, List.flatMap_nil, List.append_nil]⟩
      · rintro j σ H' _ ⟨D8, x3, zs, es, rfl, g8, ha8, _⟩
        exact ha8.seq
      · rintro j y2 σ H8 hy2 ⟨D8, x3, zs, es, rfl, g8, ha8, nD8, e8, h8, ees⟩
        rw [List.getElem?_map] at hy2
        cases hz2 : (ns.drop (i + 1))[j]? with
        | none => rw [hz2] at hy2; cases hy2
        | some sd =>
          rw [hz2] at hy2
          obtain rfl : y2 = .str sd := (Option.some.inj hy2).symm
          have hjl := (List.getElem?_eq_some_iff.mp hz2).1
          rw [List.length_drop] at hjl
          have hzl := h8.length
          have hel : es.length ≤ 480 := by
            rw [ees, List.length_append, List.length_append, fm_len, List.length_take, List.length_drop]
            show _ + 2 + _ ≤ 480
            omega
          refine r_gN ?_
          refine r_seq ?_
          repeat walk_at "rd"
          refine tn g8 ?_
          repeat walk_at "rd"
          refine ⟨by show 3 ≤ sizeLine; decide, fun p9 n9 => ?_⟩
          generalize hH : upd _ p9 _ = H9; obtain ⟨k9, e9⟩ := new_facts hH n9; clear hH
          repeat walk_at "rd"
          refine tn (g8.trans (Go.same k9)) ?_
          repeat walk_at "rd"
          refine ⟨by show 3 ≤ sizeLine; decide, fun pA nA => ?_⟩
          generalize hH : upd _ pA _ = HA; obtain ⟨kA, eA⟩ := new_facts hH nA; clear hH
          repeat walk_at "rd"
          refine ⟨by show 2 ≤ sizeLine; decide, fun pB nB => ?_⟩
          generalize hH : upd _ pB _ = HB; obtain ⟨kB, eB⟩ := new_facts hH nB; clear hH
          have g9B : Go G L H8 HB := ((Go.same k9).trans (Go.same kA)).trans (Go.same kB)
          refine r_cat (g9B.lst e8) eB (by show zs.length + 2 ≤ 5000; omega) fun pC HC kC nC eC => ?_
          have g8C : Go G L H8 HC := g9B.trans (Go.same kC)
          have gC := g8.trans g8C
          have hC := ((h8.kt g9B.kt).app (.cons (im_cl (kB _ _ (kA _ _ e9))) (.cons (im_cl (kB _ _ eA)) .nil))).kt (kp_kt kC)
          repeat walk_at "rd"
          refine tn gC ?_
          repeat walk_at "rd"
          refine ⟨by show 3 ≤ sizeLine; decide, fun pE nE => ?_⟩
          generalize hH : upd _ pE _ = HE; obtain ⟨kE, eE⟩ := new_facts hH nE; clear hH
          repeat walk_at "rd"
          refine tn (gC.trans (Go.same kE)) ?_
          repeat walk_at "rd"
          refine ⟨by show 3 ≤ sizeLine; decide, fun pF nF => ?_⟩
          generalize hH : upd _ pF _ = HF; obtain ⟨kF, eF⟩ := new_facts hH nF; clear hH
          repeat walk_at "rd"
          refine ⟨by show 2 ≤ sizeLine; decide, fun pI nI => ?_⟩
          generalize hH : upd _ pI _ = HI; obtain ⟨kI, eI⟩ := new_facts hH nI; clear hH
          have gCI : Go G L HC HI := ((Go.same kE).trans (Go.same kF)).trans (Go.same kI)
          refine r_cat (gCI.lst eC) eI (by rw [List.length_append]; show zs.length + 2 + 2 ≤ 5000; omega) fun pM HM kM nM eM => ?_
          have gCM : Go G L HC HM := gCI.trans (Go.same kM)
          have hM := ((hC.kt gCI.kt).app (.cons (im_cl (kI _ _ (kF _ _ eE))) (.cons (im_cl (kI _ _ eF)) .nil))).kt (kp_kt kM)
          refine r_gN ⟨pM, _, _, _, rfl, gC.trans gCM, ha8.kt (g8C.trans gCM).kt, Nw.backG (gC.trans gCI) (.of nM), eM, hM, ?_⟩
          rw [ees, List.take_succ, hz2, List.flatMap_append]
          show _ = _ ++ (_ ++ [sd].flatMap (fourD fs))
          rw [List.flatMap_cons, List.flatMap_nil, List.append_nil]
          simp only [List.append_assoc]
          rfl
      · rintro σ H8 ⟨D8, x3, zs, es, rfl, g8, ha8, nD8, e8, h8, ees⟩
        rw [List.length_map, List.take_length] at ees
        refine ⟨D8, _, _, zs, es, rfl, g8, nD8, e8, h8, ?_⟩
        rw [hcd, hdrop, ees]
        show ds ++ ([clD "either" fs fs, clD "excludes" fs fs] ++ ((ns.drop (i + 1)).flatMap (fourD fs) ++ candD (ns.drop (i + 1)))) = _
        simp only [List.append_assoc]
    · rintro σ H' ⟨D, x2, x3, xs, ds, rfl, g, nD, e2, hxs, hcd⟩
      rw [List.drop_length] at hcd
      have e : candD ns = ds := by rw [hcd]; exact List.append_nil _
      repeat walk_at "rd"
      exact q D xs H' nD g e2 (by rw [e]; exact hxs)
end
section
variable {P : Program} {w : World} {K : PySem.W.Frag} {mg : Str → Option Value} {base : Heap} {G : List Addr} {L : List (Addr × Str)}
end
section
variable {G : List Addr} {L : List (Addr × Str)}
theorem pe_toldV {X : Cx} {k j : Nat} {e : Expr} {te : TE} {p pos : Pos} (C : TzD X.K X.mg) (hr : Room j X.A) (he : PE X e te) (hk : k + 2 ≤ j := by decide) (hg : Gl X "_law_told" := by rfl)
    (hst : starEach [e] X.env = (false, eval e X.env) :: starEach [] X.env := by rfl) (hpl : (backTo pos (starEach [] X.env)).any (·.1) = false := by rfl) :
    PE X (.Call (.Name "_law_told" p) [e] [] pos) (tGive X k te (TR5 X.K G L)) := by
  obtain ⟨g, fd, F, hm, b⟩ := C.ex
  obtain ⟨oc, od, kV, doc, pm, an, cdv, ct, osl, efd, lk, hcd⟩ := F.ex
  subst efd
  exact pe_give hg hm F.kp lk hcd b scTold rfl (.inl rfl) (told5_gives C.rz) (hr.mono hk) he hst hpl
theorem pe_lamW0 {X : Cx} {c P : Addr} {ps : Arguments} {b : Expr} {sc : Scope} {pos : Pos} (TB : LamX.TabB X.base X.mg c P) (hcode : X.env.code = .ref c) (Lm : LamS1 X.N X.env.scope sc) (hdef : defaultsOf ps X.env = ([], []) := by rfl) :
    PE X (.Lambda ps b sc pos) (tLamV X ps b sc none P) := ⟨fun pins s σ H Q I h => (pe_lamV0 TB hcode (Lm.has I.ok) hdef).run pins s σ H Q I h⟩
theorem pe_lamW1 {X : Cx} {c P : Addr} {ps : Arguments} {b e : Expr} {sc : Scope} {pos : Pos} {i : Int} (TB : LamX.TabB X.base X.mg c P) (hcode : X.env.code = .ref c) (Lm : LamS1 X.N X.env.scope sc) (he : PE X e (tC (.int i))) (hd : ps.defaults = [e] := by rfl) (hk : ps.kw_defaults = [] := by rfl) :
    PE X (.Lambda ps b sc pos) (tLamV X ps b sc (some i) P) := ⟨fun pins s σ H Q I h => (pe_lamV1 TB hcode (Lm.has I.ok) hd hk he).run pins s σ H Q I h⟩
theorem r_lamV {X : Cx} {ps : Arguments} {b : Expr} {sc : Scope} {df : Option Int} {σ : L2.St} {H : Hp} {Q : VK} {Pn : Addr} {q : Str} (eq : X.env.qual ++ "<lambda>" = q) (A : Apart G L) (hp : (Pn, q) ∈ L) (ht : TBS G L H) (h : ∀ f c' H1, Go G L H H1 → LamAt X ps b sc df H1 f c' → Q (.ref f) H1) : tLamV X ps b sc df Pn σ H Q := by
  subst eq
  exact ⟨ht.2 _ hp, fun f c' H1 bt ts la _ => h f c' H1 (Go.but A hp ht bt ts) la⟩
theorem lamAt_go {X : Cx} {ps : Arguments} {b : Expr} {sc : Scope} {df : Option Int} {H H' : Hp} {f c' : Addr} (h : LamAt X ps b sc df H f c') (g : Go G L H H') : LamAt X ps b sc df H' f c' := h.kept fun d o n1 n2 e => g.kt d o n2 n1 e
end
section
theorem scanS_sub : ∀ {ds : List PyData} {later : List Str} {i : Nat}, scanS later i ds = none → ∃ s : List Str, ds = s.map PyData.str ∧ s.Sublist later
  | [], later, i, _ => ⟨[], rfl, List.nil_sublist _⟩
  | d :: ds, later, i, h => by
    cases d with
    | str z =>
      by_cases hz : z ∈ later
      · have h' : scanS (later.drop (later.idxOf z + 1)) (i + 1) ds = none := by
          have e : scanS later i (.str z :: ds) = if z ∈ later then scanS (later.drop (later.idxOf z + 1)) (i + 1) ds else some i := rfl
          rw [e, if_pos hz] at h
          exact h
        obtain ⟨s, e, hs⟩ := scanS_sub h'
        refine ⟨z :: s, by rw [e]; rfl, ?_⟩
        have il := List.idxOf_lt_length_of_mem hz
        have ed : later = later.take (later.idxOf z) ++ z :: later.drop (later.idxOf z + 1) := by
          have z1 := List.drop_eq_getElem_cons il
          rw [List.getElem_idxOf il] at z1
          rw [← z1, List.take_append_drop]
        rw [ed]
        refine List.Sublist.trans ?_ (List.sublist_append_right _ _)
        exact List.Sublist.cons_cons _ hs
      · have e : scanS later i (.str z :: ds) = if z ∈ later then scanS (later.drop (later.idxOf z + 1)) (i + 1) ds else some i := rfl
        rw [e, if_neg hz] at h
        cases h
    | _ => exact absurd h (fun z => by cases z)
theorem stateBad_sub {ns : List Str} {d : PyData} (h : stateBad ns d = none) : ∃ s : List Str, d = .tuple (s.map PyData.str) ∧ s.Sublist ns := by
  cases d with
  | tuple ds =>
    obtain ⟨s, e, hs⟩ := scanS_sub (show scanS ns 0 ds = none from h)
    exact ⟨s, by rw [e], hs⟩
  | _ => cases h
theorem odd_bad {ns : List Str} {d : PyData} (h : ∀ s : List Str, d = .tuple (s.map PyData.str) → ¬ s.Sublist ns) : (stateBad ns d).isSome = true := by
  cases hb : stateBad ns d with
  | none =>
    obtain ⟨s, e, hs⟩ := stateBad_sub hb
    exact absurd hs (h s e)
  | some _ => rfl
theorem str_inj {s t : List Str} (h : s.map PyData.str = t.map PyData.str) : s = t := List.map_inj_right (fun _ _ e => PyData.str.inj e) |>.mp h
theorem odd_two {ns : List Str} (hn : ns.Nodup) (s t : List Str) (z : Str) : (stateBad ns (.tuple ((s ++ z :: (t ++ [z])).map PyData.str))).isSome = true := odd_bad fun u e hs => by
  rw [← str_inj (PyData.tuple.inj e)] at hs
  have nd := hs.nodup hn
  have z1 := (List.nodup_append.mp nd).2.1
  exact (List.nodup_cons.mp z1).1 (List.mem_append_right _ (List.mem_singleton.mpr rfl))
theorem odd_new {ns : List Str} {z : Str} (h : z ∉ ns) : (stateBad ns (.tuple [.str z])).isSome = true := odd_bad fun u e hs => by
  have e1 : u = [z] := (str_inj (s := [z]) (PyData.tuple.inj e)).symm
  rw [e1] at hs
  exact h (List.singleton_sublist.mp hs)
theorem odd_int {ns : List Str} (z : Str) (i : Int) : (stateBad ns (.tuple [.str z, .int i])).isSome = true := odd_bad fun u e hs => by
  have z1 := PyData.tuple.inj e
  match u with
  | [] => cases z1
  | [_] => cases z1
  | _ :: _ :: _ => cases z1
theorem badAt_pre {ns : List Str} {rest : List PyData} : ∀ {ss : List (List Str)} {i : Nat}, (∀ s ∈ ss, s.Sublist ns) → badAt ns i (ss.map (fun s => PyData.tuple (s.map PyData.str)) ++ rest) = badAt ns (i + ss.length) rest
  | [], i, _ => rfl
  | s :: ss, i, h => by
    have z := badAt_pre (rest := rest) (i := i + 1) (fun t ht => h t (List.mem_cons_of_mem _ ht))
    have e : badAt ns i ((s :: ss).map (fun s => PyData.tuple (s.map PyData.str)) ++ rest) = if (stateBad ns (.tuple (s.map PyData.str))).isSome then some i else badAt ns (i + 1) (ss.map (fun s => PyData.tuple (s.map PyData.str)) ++ rest) := rfl
    rw [e, st_none (h s List.mem_cons_self), if_neg (by decide), z, List.length_cons]
    congr 1
    omega
theorem badSs_odd {ns : List Str} {ss : List (List Str)} {k : Nat} {d : PyData} {rest : List PyData} (h : ∀ s ∈ ss, s.Sublist ns) (hk : k ≤ ss.length) (hd : (stateBad ns d).isSome = true) : badSs ns (.list ((ss.take k).map (fun s => PyData.tuple (s.map PyData.str)) ++ d :: rest)) = some k := by
  have z := badAt_pre (ns := ns) (rest := d :: rest) (i := 0) (ss := ss.take k) (fun s hs => h s (List.mem_of_mem_take hs))
  have e1 : badAt ns (0 + (ss.take k).length) (d :: rest) = some k := by
    have e : badAt ns (0 + (ss.take k).length) (d :: rest) = if (stateBad ns d).isSome then some (0 + (ss.take k).length) else badAt ns (0 + (ss.take k).length + 1) rest := rfl
    rw [e, if_pos hd, List.length_take, Nat.min_eq_left hk, Nat.zero_add]
  rw [e1] at z
  cases hl : (ss.take k).map (fun s => PyData.tuple (s.map PyData.str)) ++ d :: rest with
  | nil => exact absurd hl (by simp)
  | cons y ys =>
    rw [hl] at z
    exact z
theorem scanN_pre : ∀ {ns pre : List Str} {rest : List PyData}, (∀ z ∈ ns, nameOk (.str z) = true) → (pre ++ ns).Nodup → pre.length + ns.length ≤ 10 → scanN (pre.map PyData.str) (ns.map PyData.str ++ rest) = scanN ((pre ++ ns).map PyData.str) rest
  | [], pre, rest, _, _, _ => by rw [List.append_nil]; rfl
  | z :: ns, pre, rest, hok, nd, hl => by
    have h1 : decide ((10 : Int) ≤ ((pre.map PyData.str).length : Nat)) = false := decide_eq_false (by rw [List.length_map]; rw [List.length_cons] at hl; omega)
    have hz : z ∉ pre := fun q => (List.nodup_append.mp nd).2.2 z q z List.mem_cons_self rfl
    have h2 : inD (.str z) (pre.map PyData.str) = false := by rw [inD_strs]; exact decide_eq_false hz
    have e : scanN (pre.map PyData.str) ((z :: ns).map PyData.str ++ rest) = if (decide ((10 : Int) ≤ ((pre.map PyData.str).length : Nat)) || (!nameOk (.str z) || inD (.str z) (pre.map PyData.str))) then some (pre.map PyData.str).length else scanN (pre.map PyData.str ++ [.str z]) (ns.map PyData.str ++ rest) := rfl
    have e2 : pre.map PyData.str ++ [PyData.str z] = (pre ++ [z]).map PyData.str := by rw [List.map_append]; rfl
    have e3 : pre ++ z :: ns = (pre ++ [z]) ++ ns := by rw [List.append_assoc]; rfl
    rw [e, h1, h2, hok z List.mem_cons_self, if_neg (by decide), e2, e3]
    rw [e3] at nd
    exact scanN_pre (fun y hy => hok y (List.mem_cons_of_mem _ hy)) nd (by rw [List.length_append]; rw [List.length_cons] at hl; simp only [List.length_cons, List.length_nil]; omega)
theorem names_odd {ns : List Str} {k : Nat} {d : PyData} {rest : List PyData} (gn : GoodN ns) (hl : ns.length ≤ 10) (hk : k ≤ ns.length) (hd : nameOk d = false ∨ ∃ z, d = .str z ∧ z ∈ ns.take k) : namesBad (.tuple ((ns.take k).map PyData.str ++ d :: rest)) = some k := by
  have hsub := List.take_sublist k ns
  have z := scanN_pre (pre := []) (ns := ns.take k) (rest := d :: rest) (fun y hy => (gn.al y (hsub.subset hy)).1) (by rw [List.nil_append]; exact hsub.nodup gn.nd) (by rw [List.length_take]; show 0 + _ ≤ 10; omega)
  rw [List.nil_append] at z
  have hc : (!nameOk d || inD d ((ns.take k).map PyData.str)) = true := by
    rcases hd with h | ⟨y, rfl, hy⟩
    · rw [h]; rfl
    · rw [inD_strs, decide_eq_true hy, Bool.or_true]
  have e : scanN ((ns.take k).map PyData.str) (d :: rest) = if (decide ((10 : Int) ≤ (((ns.take k).map PyData.str).length : Nat)) || (!nameOk d || inD d ((ns.take k).map PyData.str))) then some ((ns.take k).map PyData.str).length else scanN ((ns.take k).map PyData.str ++ [d]) rest := rfl
  rw [e, hc, Bool.or_true, if_pos rfl, List.length_map, List.length_take, Nat.min_eq_left hk] at z
  cases hx : (ns.take k).map PyData.str ++ d :: rest with
  | nil => exact absurd hx (by simp)
  | cons y ys =>
    rw [hx] at z
    exact z
end
/-- what _law_told wants of an error -/
def TE5 (K : PySem.W.Frag) (G : List Addr) (L : List (Addr × Str)) (Q : VK) : XK := fun cls d H' => ∃ D, Told5 K cls d H' D ∧ ∀ v H2, Go G L H' H2 → Im H2 v D → Q v H2
section
variable {G : List Addr} {L : List (Addr × Str)}
theorem pe_toldVB {X : Cx} {k j : Nat} {e : Expr} {te : TE} {p pos : Pos} {s0 : Shared} {H0 : Hp} {bs : Scope} {cl : List (Str × Addr)} {C0 : Addr} {fp : List Addr} {pz : List (Addr × Obj)} {σo : L2.St} (I0 : Inv X pz σo H0 s0) (off : CellsOff X fp) (C : TzD X.K X.mg) (hr : Room j X.A) (he : PE (cX X s0 H0 bs cl C0 fp) e te) (hk : k + 2 ≤ j := by decide) (hg : Gl (cX X s0 H0 bs cl C0 fp) "_law_told" := by rfl)
    (hst : starEach [e] (cX X s0 H0 bs cl C0 fp).env = (false, eval e (cX X s0 H0 bs cl C0 fp).env) :: starEach [] (cX X s0 H0 bs cl C0 fp).env := by rfl) (hpl : (backTo pos (starEach [] (cX X s0 H0 bs cl C0 fp).env)).any (·.1) = false := by rfl) :
    PE (cX X s0 H0 bs cl C0 fp) (.Call (.Name "_law_told" p) [e] [] pos) (tGiveO X σo k te (TR5 X.K G L)) := by
  obtain ⟨g, fd, F, hm, b⟩ := C.ex
  obtain ⟨oc, od, kV, doc, pm, an, cdv, ct, osl, efd, lk, hcd⟩ := F.ex
  subst efd
  exact pe_giveB I0 off hg hm F.kp lk hcd b scTold rfl (.inl rfl) (told5_gives C.rz) (hr.mono hk) he hst hpl
/-- a lambda given to a def that calls it -/
theorem give_at {X : Cx} {k : Nat} {TT : (XK → Hp → VK → Prop) → Hp → VK → Prop} {σ : L2.St} {H : Hp} {Q : VK} {ps : Arguments} {b : Expr} {sc : Scope} {df : Option Int} {f c' : Addr} (la : LamAt X ps b sc df H f c') (Lm : LamS1 X.N X.env.scope sc) (bd : LamBind ps b sc df) (t : XK → TE)
    (body : ∀ (A : Around) (outer : List Env) (s : Shared) (H : Hp) (E : XK) (f c' : Addr), Room k (A.deeper (LamX.lamEnv X sc s.heap.objs.size f c')) → PE (LamX.lamCx X A outer s H E sc f c') b (t E)) (h : TT (fun E H' Q' => t E σ H' Q') H Q) :
    ∃ (l : LamK X k) (g c0 : Addr), V.ref f = .ref g ∧ LamAt X l.ps l.b l.sc l.df H g c0 ∧ TT (fun E H' Q' => l.t E σ H' Q') H Q := ⟨⟨ps, b, sc, df, t, Lm, bd, body⟩, f, c', rfl, la, h⟩
theorem r_give {X : Cx} {k : Nat} {te : TE} {TT : (XK → Hp → VK → Prop) → Hp → VK → Prop} {σ : L2.St} {H : Hp} {Q : VK} (h : te σ H fun v H1 => ∃ (l : LamK X k) (f c' : Addr), v = .ref f ∧ LamAt X l.ps l.b l.sc l.df H1 f c' ∧ TT (fun E H' Q' => l.t E σ H' Q') H1 Q) : tGive X k te TT σ H Q := h
theorem r_giveO {X : Cx} {k : Nat} {te : TE} {TT : (XK → Hp → VK → Prop) → Hp → VK → Prop} {σ σo : L2.St} {H : Hp} {Q : VK} (h : te σ H fun v H1 => ∃ (l : LamK X k) (f c' : Addr), v = .ref f ∧ LamAt X l.ps l.b l.sc l.df H1 f c' ∧ TT (fun E H' Q' => l.t E σo H' Q') H1 Q) : tGiveO X σo k te TT σ H Q := h
theorem r_tr5 {K : PySem.W.Frag} {tl : XK → Hp → VK → Prop} {H : Hp} {Q : VK} (h : tl (TE5 K G L Q) H Q) : TR5 K G L tl H Q := h
theorem lamBind1 {ps : Arguments} {b : Expr} {sc : Scope} {i : Int} (x0 : Str) (h0 : sc.names.lookup x0 = some .local) (h : ∀ (q : Str) (cl : List (Str × Addr)) (T : Addr) (doc pm cv ct u : Value), ∃ r, bindArgs (PySem.W.kdv_fn "<lambda>" q ps (.expr b) sc cl (.ref T) doc pm cv ct) ⟨[], []⟩ = (seqItems? (.ref T) >>= r) ∧ r (some #[u]) = pure [(x0, u)]) : LamBind ps b sc (some i) := ⟨x0, h0, h⟩
end
section
variable {K : PySem.W.Frag} {mg : Str → Option Value} {G : List Addr} {L : List (Addr × Str)}
def errIS (i : Nat) : PyData := .tuple [.str "error", .str "InvalidStates", .int (i : Nat)]
def errIR (i : Nat) : PyData := .tuple [.str "error", .str "InvalidRules", .str "names", .int (i : Nat)]
theorem lv_errIS (i : Nat) : lv 7 (errIS i) = true := lv_tup fun x hx => by
  rcases List.mem_cons.mp hx with rfl | hx
  · decide +kernel
  rcases List.mem_cons.mp hx with rfl | hx
  · decide +kernel
  rw [List.mem_singleton.mp hx]
  rfl
theorem lv_errIR (i : Nat) : lv 7 (errIR i) = true := lv_tup fun x hx => by
  rcases List.mem_cons.mp hx with rfl | hx
  · decide +kernel
  rcases List.mem_cons.mp hx with rfl | hx
  · decide +kernel
  rcases List.mem_cons.mp hx with rfl | hx
  · decide +kernel
  rw [List.mem_singleton.mp hx]
  rfl
theorem lv_reps {n m : Nat} {d : PyData} (h : lv n d = true) : lv (n + 1) (.list (List.replicate m d)) = true := lv_lst fun x hx => by
  rw [List.eq_of_mem_replicate hx]
  exact h
theorem told5_IS {H : Hp} {dd : Addr} {i : Nat} (h : H dd = some (.xd [("index", .int (i : Nat))])) : Told5 K (.ref (He.ga K "InvalidStates")) (some dd) H (errIS i) :=
  ⟨"InvalidStates", [.int (i : Nat)], by decide, rfl, rfl, (by show ∃ dd' kv v e es, _; exact ⟨dd, _, _, _, _, rfl, rfl, h, rfl, .int _, rfl⟩), .inr ⟨dd, _, rfl, h⟩⟩
theorem told5_IR {H : Hp} {dd : Addr} {i : Nat} (h : H dd = some (.xd [("index", .int (i : Nat)), ("part", .str "names")])) : Told5 K (.ref (He.ga K "InvalidRules")) (some dd) H (errIR i) :=
  ⟨"InvalidRules", [.str "names", .int (i : Nat)], by decide, rfl, rfl, (by show ∃ dd' kv v e es, _; exact ⟨dd, _, _, _, _, rfl, rfl, h, rfl, .str _, dd, _, _, _, _, rfl, rfl, h, rfl, .int _, rfl⟩), .inr ⟨dd, _, rfl, h⟩⟩
/-- Refused, the states -/
theorem refused_states {E : XK} {an : Addr} {ns : List Str} {u : V} {du : PyData} {i : Nat} {H : Hp} (hn : NT H an (ns.map V.str)) (gn : GoodN ns) (n0 : 0 < ns.length) (n10 : ns.length ≤ 10) (hu : Dp K H u du) (hcu : ∀ ds, du = .list ds → ds.length ≤ 90 ∧ ∀ y ∈ ds, lv 7 y = true ∧ ∀ es, y = .tuple es → es.length ≤ 60) (hb : badSs ns du = some i) (ht : TBS G L H)
    (hE : ∀ dd H', Go G L H H' → H' dd = some (.xd [("index", .int (i : Nat))]) → E (.ref (He.ga K "InvalidStates")) (some dd) H') : Refused K G L [.ref an, u] H E := by
  have okn := okN_of (gn.okNb n10)
  exact ⟨.ref an, u, .tuple (ns.map PyData.str), rfl, .tup hn.tp.seq (dps_strs _), okn.1, ht, okn.2, fun j hj => (by rw [gn.names n0 n10] at hj; cases hj), fun _ => ⟨an, ns, du, i, rfl, hn, gn.good n10, hu, hcu, hb, hE⟩⟩
/-- Refused, the names -/
theorem refused_names {E : XK} {v u : V} {dn : PyData} {i : Nat} {H : Hp} (hd : Dp K H v dn) (l7 : lv 7 dn = true) (ht : TBS G L H) (hsm : ∀ ds, dn = .tuple ds → ds.length ≤ 60 ∧ ∀ x ∈ ds, smallS x) (hb : namesBad dn = some i)
    (hE : ∀ dd H', Go G L H H' → H' dd = some (.xd [("index", .int (i : Nat)), ("part", .str "names")]) → E (.ref (He.ga K "InvalidRules")) (some dd) H') : Refused K G L [v, u] H E := by
  refine ⟨v, u, dn, rfl, hd, l7, ht, hsm, fun j hj cls dd H' g hT => ?_, fun h => (by rw [hb] at h; cases h)⟩
  rw [hb] at hj
  cases hj
  rcases hT with ⟨a, p, i, e1, e2, e3, e4⟩ | ⟨a, i, e1, e2, e3, e4⟩ | ⟨e1, e2, e4⟩ | ⟨e1, e2, e4⟩ | ⟨e1, e2, e4⟩ | ⟨a, i, e1, e2, e3, e4⟩ | ⟨a, i, j, e1, e2, e3, e4⟩ | ⟨a, v, e, e1, e2, e3, e4⟩ | ⟨a, v, e, e1, e2, e3, e4⟩
  all_goals first | (unfold rulesE at e4; simp at e4; done) | skip
  unfold rulesE at e4
  simp only [PyData.tuple.injEq, List.cons.injEq, PyData.str.injEq, PyData.int.injEq, and_true, true_and] at e4
  obtain ⟨rfl, rfl⟩ := e4
  subst e1 e2
  exact hE _ H' g e3
theorem te5_IS {Q : VK} {i : Nat} {H : Hp} (q : ∀ v H', Go G L H H' → Im H' v (errIS i) → Q v H') : ∀ dd H', Go G L H H' → H' dd = some (.xd [("index", .int (i : Nat))]) → TE5 K G L Q (.ref (He.ga K "InvalidStates")) (some dd) H' := fun dd H' g h => ⟨_, told5_IS h, fun v H2 g2 him => q v H2 (g.trans g2) him⟩
theorem te5_IR {Q : VK} {i : Nat} {H : Hp} (q : ∀ v H', Go G L H H' → Im H' v (errIR i) → Q v H') : ∀ dd H', Go G L H H' → H' dd = some (.xd [("index", .int (i : Nat)), ("part", .str "names")]) → TE5 K G L Q (.ref (He.ga K "InvalidRules")) (some dd) H' := fun dd H' g h => ⟨_, told5_IR h, fun v H2 g2 him => q v H2 (g.trans g2) him⟩
theorem noStp_IS {E : XK} {i : Nat} {H : Hp} (hs : PySem.W.subIn K (.ref (He.ga K "InvalidStates")) (.type "StopIteration") = some false) (q : ∀ dd H', Go G L H H' → H' dd = some (.xd [("index", .int (i : Nat))]) → E (.ref (He.ga K "InvalidStates")) (some dd) H') : ∀ dd H', Go G L H H' → H' dd = some (.xd [("index", .int (i : Nat))]) → noStp K E (.ref (He.ga K "InvalidStates")) (some dd) H' := fun dd H' g h => ⟨q dd H' g h, hs⟩
theorem noStp_IR {E : XK} {i : Nat} {H : Hp} (hs : PySem.W.subIn K (.ref (He.ga K "InvalidRules")) (.type "StopIteration") = some false) (q : ∀ dd H', Go G L H H' → H' dd = some (.xd [("index", .int (i : Nat)), ("part", .str "names")]) → E (.ref (He.ga K "InvalidRules")) (some dd) H') : ∀ dd H', Go G L H H' → H' dd = some (.xd [("index", .int (i : Nat)), ("part", .str "names")]) → noStp K E (.ref (He.ga K "InvalidRules")) (some dd) H' := fun dd H' g h => ⟨q dd H' g h, hs⟩
end
/-- a step, generators' lists first -/
local macro_rules | `(tactic| walk_at "rl") => `(tactic| first | (with_reducible refine r_lgd ?_) | (with_reducible refine r_fr ?_) | (with_reducible refine r_un ?_) | (with_reducible refine r_u1 ?_) | walk_at "rd")
section
variable {P : Program} {w : World} {K : PySem.W.Frag} {mg : Str → Option Value} {base : Heap} {G : List Addr} {L : List (Addr × Str)}
theorem ne_row7 {H : Hp} {ρ : Rid} {p : Addr} (hR : Row K H ρ) (hp : H p = none) : p ≠ ρ.r := by
  obtain ⟨zs, z⟩ := hR.lst
  exact (ne_of_none z hp).symm
theorem cls_lnL {ns : List Str} {cd : List PyData} (hok : ∀ z ∈ ns, PyData.strOk z = true) (hc : ∀ d ∈ cd, ClD ns d) (hl : cd.length ≤ 2000) : ln 3 (.list cd) = true := by
  simp only [ln, Bool.and_eq_true, decide_eq_true_eq, List.all_eq_true] at *
  refine ⟨hl, fun d hd => ?_⟩
  obtain ⟨w, a, b, rfl, hw, ha, hb⟩ := hc d hd
  have y := cl_ln hok (hc _ hd)
  simp [ln] at y ⊢
  exact y
theorem r_revN {K : PySem.W.Frag} {te : TE} {σ : L2.St} {H : Hp} {Q : VK} (h : te σ H fun x H1 => ∃ a xs, x = .ref a ∧ SqT K H1 a xs ∧ ∀ p, H1 p = none → Q (.ref p) (upd H1 p (.tup xs.reverse))) : tRevT K te σ H Q := h
theorem r_ifv {b : Bool} {ta tb : TE} {σ : L2.St} {H : Hp} {Q : VK} (x : V) (h1 : b = true → ∀ R : VK, R x H → ta σ H R) (h2 : b = false → ∀ R : VK, R x H → tb σ H R) (q : Q x H) : (if b = true then ta σ H Q else tb σ H Q) := by
  cases b with
  | true => exact h1 rfl Q q
  | false => exact h2 rfl Q q
theorem kept_none {ss : List (List Str)} {d : PyData} : decide ((ss.filter fun s => brk (s.map PyData.str) d).map (fun s => PyData.tuple (s.map PyData.str)) = []) = ss.all fun s => !brk (s.map PyData.str) d := by
  induction ss with
  | nil => rfl
  | cons s ss ih =>
    rw [List.filter_cons, List.all_cons]
    cases h : brk (s.map PyData.str) d with
    | true => simp
    | false => rw [if_neg (by decide), ih]; rfl
/-- the states, one put among them -/
def putD (ss : List (List Str)) (k : Nat) (d : PyData) : List PyData := (ss.take k).map (fun s => PyData.tuple (s.map PyData.str)) ++ d :: (ss.drop k).map (fun s => PyData.tuple (s.map PyData.str))
theorem putD_small {ns : List Str} {ss : List (List Str)} {k : Nat} {d : PyData} (n8 : ns.length ≤ 8) (hok : ∀ z ∈ ns, PyData.strOk z = true) (h6 : ss.length ≤ 6) (hs : ∀ s ∈ ss, s.Sublist ns) (ld : lv 7 d = true) (hd : ∀ es, d = .tuple es → es.length ≤ 60) : ∀ ds, PyData.list (putD ss k d) = .list ds → ds.length ≤ 90 ∧ ∀ y ∈ ds, lv 7 y = true ∧ ∀ es, y = .tuple es → es.length ≤ 60 := fun ds e => by
  rw [← PyData.list.inj e]
  have st : ∀ s ∈ ss, lv 7 (.tuple (s.map PyData.str)) = true ∧ ∀ es, PyData.tuple (s.map PyData.str) = .tuple es → es.length ≤ 60 := fun s h => by
    refine ⟨lv_strs fun z hz => hok z ((hs s h).subset hz), fun es q => ?_⟩
    have z := (hs s h).length_le
    rw [← PyData.tuple.inj q, List.length_map]
    omega
  refine ⟨?_, fun y hy => ?_⟩
  · unfold putD
    rw [List.length_append, List.length_cons, List.length_map, List.length_map, List.length_take, List.length_drop]
    omega
  · rcases List.mem_append.mp hy with h | h
    · obtain ⟨s, hq, rfl⟩ := List.mem_map.mp h
      exact st s (List.mem_of_mem_take hq)
    · rcases List.mem_cons.mp h with rfl | h
      · exact ⟨ld, hd⟩
      · obtain ⟨s, hq, rfl⟩ := List.mem_map.mp h
        exact st s (List.mem_of_mem_drop hq)
theorem putD_dp {K : PySem.W.Frag} {H : Hp} {vs : List V} {ss : List (List Str)} {k : Nat} {v : V} {d : PyData} (h : StsAt H vs ss) (hd : Dp K H v d) : DpAll K H (vs.take k ++ [v] ++ vs.drop k) (putD ss k d) := by
  have z := dps_app (dps_app (Ims.dp (K := K) (Ims.take k h)) (DpAll.cons hd .nil)) (Ims.dp (Ims.drop k h))
  rw [← List.map_take, ← List.map_drop] at z
  have e : putD ss k d = (ss.take k).map (fun s => PyData.tuple (s.map PyData.str)) ++ [d] ++ (ss.drop k).map (fun s => PyData.tuple (s.map PyData.str)) := by
    unfold putD
    rw [List.append_assoc]
    rfl
  rw [e]
  exact z
/-- names, one put among them -/
def putN (ns : List Str) (k : Nat) (d : PyData) : List PyData := (ns.take k).map PyData.str ++ d :: (ns.drop k).map PyData.str
theorem putN_dp {K : PySem.W.Frag} {H : Hp} {ns : List Str} {k : Nat} {v : V} {d : PyData} (hd : Dp K H v d) : DpAll K H ((ns.map V.str).take k ++ [v] ++ (ns.map V.str).drop k) (putN ns k d) := by
  have z := dps_app (dps_app (dps_strs (K := K) (H := H) (ns.take k)) (DpAll.cons hd .nil)) (dps_strs (ns.drop k))
  rw [List.map_take, List.map_drop] at z
  have e : putN ns k d = (ns.take k).map PyData.str ++ [d] ++ (ns.drop k).map PyData.str := by
    unfold putN
    rw [List.append_assoc]
    rfl
  rw [e]
  exact z
theorem putN_small {ns : List Str} {k : Nat} {d : PyData} (gn : GoodN ns) (n8 : ns.length ≤ 8) (l7 : lv 6 d = true) (hs : smallS d) : lv 7 (.tuple (putN ns k d)) = true ∧ ∀ ds, PyData.tuple (putN ns k d) = .tuple ds → ds.length ≤ 60 ∧ ∀ x ∈ ds, smallS x := by
  have st : ∀ z ∈ ns, lv 6 (.str z) = true ∧ smallS (.str z) := fun z hz => ⟨lv_str (gn.al z hz).2.1, by show z.length ≤ sizeLine; rw [sizeLine_eq]; have := (gn.al z hz).2.2; omega⟩
  have all : ∀ x ∈ putN ns k d, lv 6 x = true ∧ smallS x := fun x hx => by
    rcases List.mem_append.mp hx with h | h
    · obtain ⟨s, hq, rfl⟩ := List.mem_map.mp h
      exact st s (List.mem_of_mem_take hq)
    · rcases List.mem_cons.mp h with rfl | h
      · exact ⟨l7, hs⟩
      · obtain ⟨s, hq, rfl⟩ := List.mem_map.mp h
        exact st s (List.mem_of_mem_drop hq)
  refine ⟨lv_tup fun x hx => (all x hx).1, fun ds e => ?_⟩
  rw [← PyData.tuple.inj e]
  refine ⟨?_, fun x hx => (all x hx).2⟩
  unfold putN
  rw [List.length_append, List.length_cons, List.length_map, List.length_map, List.length_take, List.length_drop]
  omega
abbrev nLaw : List Str := ["_law_script", "_law_d", "_law_turn", "_law_names_here", "_law_some", "_law_due", "_law_clause", "_law_k", "_law_odd", "_law_bad", "_law_work", "_law_none", "_law_wrong", "_law_state", "_law_one"]
theorem scLaw : FnScope nLaw ["_law_script"] (defScope sLaw) := C8.fnScope_by (by decide +kernel)
/-- what the lambdas of the law are told -/
theorem ok_law {f c Pn : Addr} {fd : FuncData} (F : Fun K "law" "law" sLaw f fd) (hc : fd.code = .ref c) (TB : LamX.TabB base mg c Pn) (hL : (Pn, lamQ "law") ∈ L) (AP : Apart G L) (zL : mg "len" = none) (zT : mg "tuple" = none) (zR : mg "range" = none) (zl : mg "list" = none) (zi : mg "int" = none)
    (DI : Fd CX0 P w K mg base "_law_dice" 1 (spDice K G L)) (NX : Fd CX0 P w K mg base "_law_next" 1 (spTaken K G L)) (PK : Fd CX0 P w K mg base "_law_pick" 2 (spPick K G L)) (NM : Fd CX0 P w K mg base "_law_names" 2 (spNames K G L))
    (AL : Fd CX0 P w K mg base "_law_all" 1 (spAll5 K G L)) (LK : Fd CX0 P w K mg base "_law_like" 5 (spAlike K G L 4)) (KE : Fd CX0 P w K mg base "_law_keeps" 1 (spKeeps K)) (CAL : Fd CX0 P w K mg base "_law_candidates" 1 (spCand K G L)) (CC : Gd P w K mg base "common_clauses" 7 (spCommon K G L)) (CCE : Gd P w K mg base "common_clauses" 7 (spGRefused K G L)) (CLOE : Gd P w K mg base "closure" 7 (spGRefused K G L)) (LRE : Fd (L2.CX P w) P w K mg base "learn_rules" 6 (spRefused K G L)) (TO : TzD K mg) (sIS : PySem.W.subIn K (.ref (He.ga K "InvalidStates")) (.type "StopIteration") = some false) (sIR : PySem.W.subIn K (.ref (He.ga K "InvalidRules")) (.type "StopIteration") = some false) :
    FnOk P w K mg base CX0 14 f fd ["_law_script"] (spLaw K G L) := by
  obtain ⟨oc, od, kV, doc, pm, an, cdv, ct, osl, efd, lk, hcd⟩ := F.ex
  subst efd
  have ec : cdv = .ref c := hc
  subst ec
  refine fn_of lk hcd scLaw (fun vs H Q E h => ?_) (fun A outer s H vs Q E hr h => ?_)
  · obtain ⟨a, ns, e, _⟩ := h
    rw [e]
    rfl
  · obtain ⟨a, ns, e, hlen, hS, ht, q⟩ := h
    subst e
    refine ⟨_, PSs.nox (pss_cons (ps_set (i := 1) scLaw.nd rfl (Or.inr rfl) (pe_fd (E := E0) DI hr pass0 (pa_cons (pv 0) pa_nil)))
(pss_cons (ps_for PassesOwn.never rfl (pi_range1 rfl zR (pa_cons pe_int pa_nil)) (pg_name (i := 2) scLaw.nd rfl (.inl rfl))
  (pss_cons (ps_set (i := 3) scLaw.nd rfl (Or.inr rfl) (pe_fd (E := E0) NM hr pass0 (pa_cons (pv 1) (pa_cons pe_int pa_nil))))
  (pss_cons (ps_setLc (i := 4) (own := [("_law_k", 7)]) (g := gName 7) (tt := tYes) rfl scLaw.nd rfl rfl (sw_true rfl rfl rfl rfl) (pi_range1 rfl zR (pa_cons (pe_op op_add pe_int (pe_fd (E := E0) NX hr pass0 (pa_cons (pv 1) (pa_cons pe_int pa_nil)))) pa_nil))
            (blkOk_by (own := [("_law_k", 7)]) (N := nLaw) (sc := defScope sLaw) (by decide +kernel)) (fun _ _ _ _ _ => pg_name (i := 7) scLaw.nd rfl (.inl rfl)) (fun _ _ _ _ _ => pts_nil)
            (fun _ _ _ _ _ => (pe_fd (E := E0) PK hr pass0 (pa_cons (pv 1) (pa_cons (pe_fd (E := E0) AL hr pass0 (pa_cons (pv 3) pa_nil)) pa_nil)))))
  (pss_cons (ps_set (i := 5) scLaw.nd rfl (Or.inl rfl) (pe_lst pa_nil))
  (pss_cons (ps_for PassesOwn.never rfl (pi_list (pe_fd (E := E0) CAL hr pass0 (pa_cons (pv 3) pa_nil))) (pg_name (i := 6) scLaw.nd rfl (.inr rfl))
    (pss_one (ps_set (i := 5) scLaw.nd rfl (Or.inl rfl) (pe_op op_cat (pv 5) (pe_op op_rep (pe_lst (pa_cons (pv 6) pa_nil)) (pe_callTy c_int rfl zi boot_int (pa_cons (pe_cmpR (op_eqD (u64 hr)) (pe_lc (own := [("_law_state", 13)]) (g := gName 13) rfl scLaw.nd (pi_list (pv 4))
            (blkOk_by (own := [("_law_state", 13)]) (N := nLaw) (sc := defScope sLaw) (by decide +kernel)) (fun _ _ _ _ _ => pg_name (i := 13) scLaw.nd rfl (.inl rfl)) (fun _ _ _ _ _ => pts_one (pt_not (pt_val (pe_fd (E := E0) KE hr pass0 (pa_cons (pv 6) (pa_cons (pv 13) pa_nil))))))
            (fun _ _ _ _ _ => (pv 13))) (pe_lst pa_nil) rfl) pa_nil)))))))
  (pss_cons (ps_if (pt_not (pt_val (pe_fd (E := E0) LK hr pass0 (pa_cons (pe_lgd CC hr zl (pa_cons (pv 3) (pa_cons (pv 4) pa_nil))) (pa_cons (pv 5) pa_nil)))))
    (pss_one (ps_ret pe_bl)) pss_nil)
  (pss_cons (ps_set (i := 7) scLaw.nd rfl (Or.inl rfl) (pe_fd (E := E0) NX hr pass0 (pa_cons (pv 1) (pa_cons (pe_op op_add (pe_callB (r := cLen K) c_len rfl zL boot_len (pa_cons (pv 4) pa_nil)) pe_int) pa_nil))))
  (pss_cons (ps_set (i := 8) scLaw.nd rfl (Or.inl rfl) (pe_lst (pa_cons (pe_tup (pa_cons (pe_ix (r := rIxT K) ix_tup (pv 3) pe_int (fun _ _ => rfl)) (pa_cons (pe_ix (r := rIxT K) ix_tup (pv 3) pe_int (fun _ _ => rfl)) pa_nil))) (pa_cons (pe_tup (pa_cons pe_str pa_nil)) (pa_cons pe_non (pa_cons (pe_lst (pa_cons (pe_ix (r := rIxT K) ix_tup (pv 3) pe_int (fun _ _ => rfl)) pa_nil)) (pa_cons (pe_tup (pa_cons (pe_ix (r := rIxT K) ix_tup (pv 3) pe_int (fun _ _ => rfl)) (pa_cons pe_int pa_nil))) (pa_cons (pe_op (r := rCatA K) op_catA (pe_revT (pv 3)) (pe_slice sl_tupA (pv 3) po_none (po_some pe_int))) pa_nil))))))))
  (pss_cons (ps_set (i := 9) scLaw.nd rfl (Or.inr rfl) (pe_op op_cat (pe_op op_cat (pe_slice sl_list (pv 4) po_none (po_some (pv 7))) (pe_lst (pa_cons (pe_fd (E := E0) PK hr pass0 (pa_cons (pv 1) (pa_cons (pv 8) pa_nil))) pa_nil))) (pe_slice sl_list (pv 4) (po_some (pv 7)) po_none)))
  (pss_cons (ps_set (i := 10) scLaw.nd rfl (Or.inl rfl) (pe_lst (pa_cons (pe_lamW0 TB rfl (lamS1_by (N := nLaw) (sc0 := defScope sLaw) (by decide +kernel))) (pa_cons (pe_lamW1 TB rfl (lamS1_by (N := nLaw) (sc0 := defScope sLaw) (by decide +kernel)) pe_int) pa_nil))))
  (pss_cons (ps_expr (pe_bm PySem.F.plainAttrs_list PySem.F.slot_list_append PySem.F.type_list_append mt_append (pv 10) (pa_cons (pe_lamW1 TB rfl (lamS1_by (N := nLaw) (sc0 := defScope sLaw) (by decide +kernel)) pe_int) pa_nil)))
  (pss_cons (ps_if (pt_cmpR (op_neD (u64 hr)) (pe_lcV (own := [("_law_one", 14)]) (g := gName 14) rfl scLaw.nd (pi_list (pv 10))
            (blkOk_by (own := [("_law_one", 14)]) (N := nLaw) (sc := defScope sLaw) (by decide +kernel)) (fun _ _ _ _ _ => pg_name (i := 14) scLaw.nd rfl (.inl rfl))
            (fun _ _ _ _ _ _ _ I0 off => (pe_toldVB (G := G) (L := L) (k := 10) I0 off TO hr (pv 14)))) (pe_op op_rep (pe_lst (pa_cons (pe_tup (pa_cons pe_str (pa_cons pe_str (pa_cons (pv 7) pa_nil)))) pa_nil)) pe_int) rfl)
    (pss_one (ps_ret pe_bl)) pss_nil)
  (pss_cons (ps_set (i := 11) scLaw.nd rfl (Or.inr rfl) (pe_fd (E := E0) PK hr pass0 (pa_cons (pv 1) (pa_cons (pe_lst (pa_cons (pe_lst pa_nil) (pa_cons pe_non (pa_cons (pe_callTy c_tup rfl zT (by decide +kernel) (pa_cons (pv 4) pa_nil)) pa_nil)))) pa_nil))))
  (pss_cons (ps_if (pt_cmpR (op_neD (u64 hr)) (pe_toldV (G := G) (L := L) (k := 10) TO hr (pe_lamW1 TB rfl (lamS1_by (N := nLaw) (sc0 := defScope sLaw) (by decide +kernel)) pe_int)) (pe_tup (pa_cons pe_str (pa_cons pe_str (pa_cons pe_int pa_nil)))) rfl)
    (pss_one (ps_ret pe_bl)) pss_nil)
  (pss_cons (ps_if (pt_cmpR (op_neD (u64 hr)) (pe_toldV (G := G) (L := L) (k := 10) TO hr (pe_lamW1 TB rfl (lamS1_by (N := nLaw) (sc0 := defScope sLaw) (by decide +kernel)) pe_int)) (pe_tup (pa_cons pe_str (pa_cons pe_str (pa_cons pe_int pa_nil)))) rfl)
    (pss_one (ps_ret pe_bl)) pss_nil)
  (pss_cons (ps_set (i := 7) scLaw.nd rfl (Or.inl rfl) (pe_fd (E := E0) NX hr pass0 (pa_cons (pv 1) (pa_cons (pe_op op_add (pe_callB (r := cLen K) c_len rfl zL boot_len (pa_cons (pv 3) pa_nil)) pe_int) pa_nil))))
  (pss_cons (ps_set (i := 8) scLaw.nd rfl (Or.inl rfl) (pe_fd (E := E0) PK hr pass0 (pa_cons (pv 1) (pa_cons (pe_lst (pa_cons pe_str (pa_cons pe_str (pa_cons pe_str (pa_cons pe_non (pa_cons (pe_ifExp (pt_cmpR op_gt (pv 7) pe_int (nomark _)) (pe_ix (r := rIxT K) ix_tup (pv 3) pe_int (fun _ _ => rfl)) pe_str) pa_nil)))))) pa_nil))))
  (pss_cons (ps_set (i := 12) scLaw.nd rfl (Or.inr rfl) (pe_op (r := rCatA K) op_catA (pe_op (r := rCatA K) op_catA (pe_slice sl_tupA (pv 3) po_none (po_some (pv 7))) (pe_tup (pa_cons (pv 8) pa_nil))) (pe_slice sl_tupA (pv 3) (po_some (pv 7)) po_none)))
  (pss_cons (ps_set (i := 10) scLaw.nd rfl (Or.inl rfl) (pe_lst (pa_cons (pe_lamW1 TB rfl (lamS1_by (N := nLaw) (sc0 := defScope sLaw) (by decide +kernel)) pe_int) (pa_cons (pe_lamW1 TB rfl (lamS1_by (N := nLaw) (sc0 := defScope sLaw) (by decide +kernel)) pe_int) pa_nil))))
  (pss_one (ps_if (pt_cmpR (op_neD (u64 hr)) (pe_lcV (own := [("_law_one", 14)]) (g := gName 14) rfl scLaw.nd (pi_list (pv 10))
            (blkOk_by (own := [("_law_one", 14)]) (N := nLaw) (sc := defScope sLaw) (by decide +kernel)) (fun _ _ _ _ _ => pg_name (i := 14) scLaw.nd rfl (.inl rfl))
            (fun _ _ _ _ _ _ _ I0 off => (pe_toldVB (G := G) (L := L) (k := 10) I0 off TO hr (pv 14)))) (pe_op op_rep (pe_lst (pa_cons (pe_tup (pa_cons pe_str (pa_cons pe_str (pa_cons pe_str (pa_cons (pv 7) pa_nil))))) pa_nil)) pe_int) rfl)
    (pss_one (ps_ret pe_bl)) pss_nil))))))))))))))))))))) 
(pss_one (ps_ret pe_bl)))), ?_⟩
    repeat walk_at "rl"
    refine ⟨a, ns, rfl, hlen, hS, fun r H1 g1 hr' hR1 => ?_⟩
    have ht1 := g1.2 ht
    generalize hρ : (⟨r, a, ns⟩ : Rid) = ρ at hR1
    have er : r = ρ.r := by rw [← hρ]
    subst er
    clear hS ht hr' hρ g1
    repeat walk_at "rl"
    refine forR (n := 5) (H0 := H1) (fun R z => r_c z) (by decide) (fun i σ H' => ∃ (x2 x3 x4 x5 x6 x7 x8 x9 x10 x11 x12 x13 x14 : Option V), σ = [some (.ref a), some (.ref ρ.r), x2, x3, x4, x5, x6, x7, x8, x9, x10, x11, x12, x13, x14] ∧ TBS G L H' ∧ Row K H' ρ) ?_ ?_ ?_
    · exact ⟨none, none, none, none, none, none, none, none, none, none, none, none, none, rfl, ht1, hR1⟩
    · rintro i' σ H2 hi ⟨x2, x3, x4, x5, x6, x7, x8, x9, x10, x11, x12, x13, x14, rfl, ht2, hR2⟩
      clear hR1 ht1 hlen
      refine r_gN ?_
      dsimp only
      repeat walk_at "rl"
      refine ⟨ρ, 7, rfl, hR2, by decide, by decide, fun ns T H3 n0 nm hns hT g3 hR3 => ?_⟩
      have hn8 : ns.length ≤ 8 := by omega
      have hnok : ∀ z ∈ ns, PyData.strOk z = true := fun z hz => (hns.all hz).2.1
      have ht3 := g3.2 ht2
      clear g3 hR2 ht2
      repeat walk_at "rl"
      -- the states
      refine lcRg (fun n H0 => 1 ≤ n ∧ n ≤ 6 ∧ GoR G L ρ.r H3 H0 ∧ Row K H0 ρ) (fun R z => ?_) (fun n H0 ⟨hn1, hn5, g0, hR0⟩ => ⟨by omega, fun D j H' => ∃ vs ss, D ≠ ρ.r ∧ GoR G L ρ.r H0 H' ∧ Row K H' ρ ∧ H' D = some (.lst vs) ∧ StsAt H' vs ss ∧ (∀ s ∈ ss, s ∈ allD ns) ∧ ss.length = j, ?_, ?_, ?_⟩)
      · repeat walk_at "rl"
        refine r_taken hR3 (by omega) (by omega) fun v H4 hv g4 hR4 => ?_
        repeat walk_at "rl"
        have e : (1 : Int) + (v : Nat) = ((1 + v : Nat) : Int) := by omega
        rw [e]
        exact z (1 + v) H4 ⟨by omega, by omega, g4, hR4⟩
      · intro D hD
        have gN : Go G L H0 (upd H0 D (.lst [])) := Go.new hD
        exact ⟨[], [], ne_row7 hR0 hD, gN.toR, hR0.go gN, upd_same, .nil, fun d hd => (by cases hd), rfl⟩
      · rintro D j H4 hD hj ⟨vs, ss, nD, g4, hR4, eD, hvs, hss, hss2⟩
        refine r_gN ⟨rfl, r_yes ?_⟩
        repeat walk_at "rl"
        have hR34 := hR3.kt (g0.trans g4)
        refine ⟨T, ns, rfl, hT.tp.kt hR34, hn8, fun l xs H5 nl g5 hl5 hxs5 => ?_⟩
        have nlr : l ≠ ρ.r := by
          obtain ⟨zs, z⟩ := hR4.lst
          exact nl.lst z
        have hR5 := hR4.go g5
        have hxl := hxs5.len
        have hap := allD_pos hn8
        have hal := allD_len (by omega : ns.length ≤ 10)
        repeat walk_at "rl"
        refine ⟨ρ, l, xs, rfl, hR5, by omega, by omega, fun H' h => ?_, fun i0 v0 H6 e0 g6 hR6 => ?_⟩
        · rcases h with rfl | h
          · exact .inl (.of hl5)
          · exact .inl (.of (h.lst nlr hl5))
        obtain ⟨S, s0, hs0, rfl, hS5⟩ := sts_get hxs5 e0
        have eD6 := g6.lst nD (g5.lst eD)
        have g46 : GoR G L ρ.r H4 H6 := g5.toR.trans g6
        have hvl := hvs.len
        have gu : GoR G L ρ.r H0 (upd H6 D (.lst (vs ++ [.ref S]))) := (g4.trans g46).updNew hD eD6
        refine ⟨vs, eD6, by rw [sizeLine_eq]; omega, vs ++ [.ref S], ss ++ [s0], nD, gu, hR0.re hR6 gu.1 (by rw [upd_ne nD.symm]), upd_same, ?_, ?_, ?_⟩
        · have kD : KT H6 (upd H6 D (.lst (vs ++ [.ref S]))) := kt_upd eD6
          have z1 := (hvs.kt (hR4.kt g46)).kt kD
          have z2 := (hS5.kt (hR5.kt g6)).kt kD
          unfold StsAt at z1 ⊢
          rw [List.map_append]
          exact z1.app (.cons (.tup z2 (ims_strs s0)) .nil)
        · intro s hs
          rcases List.mem_append.mp hs with z | z
          · exact hss s z
          · rw [List.mem_singleton.mp z]
            exact List.mem_of_getElem? hs0
        · rw [List.length_append, hss2]
          rfl
      · rintro D H4 hD ⟨vs, ss, nD, g4, hR4, eD, hvs, hss, hss2⟩
        repeat walk_at "rl"
        have g34 := g0.trans g4
        have hNT4 := hT.kt (hR3.kt g34)
        have ht4 := g34.2 ht3
        have hsub : ∀ s ∈ ss, s.Sublist ns := fun s hs => allD_sub (by omega) (hss s hs)
        have gss : GoodSS ns ss := ⟨hsub, (fun z => by rw [z] at hss2; simp at hss2; omega), by omega⟩
        have gn := hns.gn
        have hvl := hvs.len
        obtain ⟨z0, ez0⟩ : ∃ z0, ns[0]? = some z0 := ⟨ns[0], List.getElem?_eq_getElem n0⟩
        have hz0 : z0 ∈ ns := List.mem_of_getElem? ez0
        have evz : (ns.map V.str)[0]? = some (.str z0) := by rw [List.getElem?_map, ez0]; rfl
        clear g34 g4 g0 hR3 hR0 hT ht3
        refine ⟨by show 0 ≤ sizeLine; decide, fun p5 n5 => ?_⟩
        generalize hH : upd _ p5 _ = H5; obtain ⟨k5, e5⟩ := new_facts hH n5; clear hH
        have g45 : Go G L H4 H5 := Go.same k5
        repeat walk_at "rl"
        refine forLg (fun l H0 => ∃ cs, Go G L H5 H0 ∧ H0 l = some (.lst cs) ∧ Ims H0 cs (candD ns)) (fun R z => ?_) (fun l H0 ⟨cs, g0, hl, hcs⟩ => ⟨cs, .of hl, fun i σ H' => ∃ (k : Addr) (ks : List V) (x6 x7 x8 x9 x10 x11 x12 x13 x14 : Option V), σ = [some (.ref a), some (.ref ρ.r), some (.int (i' : Nat)), some (.ref T), some (.ref D), some (.ref k), x6, x7, x8, x9, x10, x11, x12, x13, x14] ∧ Go G L H0 H' ∧ H' k = some (.lst ks) ∧ Ims H' ks (((candD ns).take i).filter fun d => ss.all fun s => !brk (s.map PyData.str) d), ?_, ?_, ?_, ?_⟩)
        · repeat walk_at "rl"
          exact ⟨T, ns, rfl, (hNT4.kt g45.kt).tp, by omega, fun l cs H' _ g hl hcs => z l H' ⟨cs, g, hl, hcs⟩⟩
        · exact ⟨p5, [], _, _, _, _, _, _, _, _, _, rfl, Go.refl _, g0.lst e5, .nil⟩
        · rintro i σ H' _ ⟨k, ks, y6, y7, y8, y9, y10, y11, y12, y13, y14, rfl, g, _⟩
          exact .of (g.lst hl)
        · rintro i v σ H' hv ⟨k, ks, y6, y7, y8, y9, y10, y11, y12, y13, y14, rfl, g, hk, hks⟩
          obtain ⟨d, hd, hyd⟩ := hcs.get hv
          obtain ⟨w', a', b', rfl, hw', ha', hb'⟩ := cand_mem (List.mem_of_getElem? hd)
          have gH := (g45.trans g0).trans g
          have hyd' := hyd.kt g.kt
          have hksl : ks.length ≤ 500 := by
            have z := hks.length
            have z2 := List.length_filter_le (fun d => ss.all fun s => !brk (s.map PyData.str) d) ((candD ns).take i)
            have z3 := cand_len ns (by omega)
            rw [List.length_take] at z2
            omega
          refine r_gN ?_
          repeat walk_at "rl"
          refine ⟨by show 1 ≤ sizeLine; decide, fun p6 n6 => ?_⟩
          generalize hH : upd _ p6 _ = H6; obtain ⟨k6, e6⟩ := new_facts hH n6; clear hH
          have g6 : Go G L H' H6 := Go.same k6
          repeat walk_at "rl"
          refine lcL (a := D) (xs := vs) (fun R z => ⟨_, rfl, z⟩) (.of ((gH.trans g6).lst eD)) (fun D2 j H7 => ∃ zs, Go G L H6 H7 ∧ H7 D2 = some (.lst zs) ∧ StsAt H7 zs ((ss.take j).filter fun s => brk (s.map PyData.str) (clD w' a' b'))) ?_ ?_ ?_ ?_
          · intro D2 hD2
            exact ⟨[], Go.new hD2, upd_same, .nil⟩
          · rintro D2 j H7 hD2 _ ⟨zs, g7, _⟩
            exact .of (((gH.trans g6).trans g7).lst eD)
          · rintro D2 j y H7 hD2 hy ⟨zs, g7, eD2, hzs⟩
            obtain ⟨S, s0, hs0, rfl, hS⟩ := sts_get hvs hy
            have hS7 := hS.kt ((gH.trans g6).trans g7).kt
            have hsb := gss.sub _ (List.mem_of_getElem? hs0)
            have hzl : zs.length ≤ 8 := by
              have z := hzs.len
              have z2 := List.length_filter_le (fun s => brk (s.map PyData.str) (clD w' a' b')) (ss.take j)
              rw [List.length_take] at z2
              omega
            refine r_gN ⟨rfl, ?_⟩
            repeat walk_at "rl"
            refine ⟨.ref S, v, s0.map PyData.str, w', .str a', .str b', rfl, .tup hS7.seq (dps_strs _), ((hyd'.kt g6.kt).kt g7.kt).dp, lv_strs fun z hz => hnok z (hsb.subset hz), lv_str (hnok a' ha'), lv_str (hnok b' hb'), ?_⟩
            repeat walk_at "rl"
            refine r_if (fun c => ?_) (fun c => ?_)
            · repeat walk_at "rl"
              refine ⟨zs, eD2, by rw [sizeLine_eq]; omega, zs ++ [.ref S], g7.updNew hD2 eD2, upd_same, ?_⟩
              rw [filter_take hs0, if_pos (by rw [brk_clD]; exact c)]
              exact (hzs.snoc hS7).kt (kt_upd eD2)
            · refine ⟨zs, g7, eD2, ?_⟩
              rw [filter_take hs0, if_neg (by rw [brk_clD, c]; decide)]
              exact hzs
          · rintro D2 H7 hD2 ⟨zs, g7, eD2, hzs⟩
            rw [hvl, List.take_length] at hzs
            repeat walk_at "rl"
            refine ⟨by show 0 ≤ sizeLine; decide, fun p8 n8 => ?_⟩
            generalize hH : upd _ p8 _ = H8; obtain ⟨k8, e8⟩ := new_facts hH n8; clear hH
            refine r_eqD (.lst (.of (k8 _ _ eD2)) (hzs.kt (kp_kt k8)).dps) (.lst (.of e8) .nil) (lv_lst fun d hd => ?_) (by decide) ?_
            · obtain ⟨t, ht, rfl⟩ := List.mem_map.mp hd
              exact lv_strs fun z hz => hnok z ((gss.sub _ (List.mem_filter.mp ht).1).subset hz)
            rw [eqv_nilL, kept_none]
            have g8 : Go G L H6 H8 := g7.trans (Go.same k8)
            have e6' := g8.lst e6
            have hk' := (g6.trans g8).lst hk
            cases hb : ss.all fun s => !brk (s.map PyData.str) (clD w' a' b') with
            | true =>
              repeat walk_at "rl"
              refine ⟨p6, 1, [v], rfl, rfl, e6', by decide, by decide, by show 1 ≤ sizeLine; decide, fun p9 n9 => ?_⟩
              generalize hH : upd _ p9 _ = H9; obtain ⟨k9, e9⟩ := new_facts hH n9; clear hH
              refine r_cat (k9 _ _ hk') e9 (by show ks.length + 1 ≤ 5000; omega) fun pA HA kA nA eA => ?_
              have gA : Go G L H' HA := (g6.trans g8).trans ((Go.same k9).trans (Go.same kA))
              refine r_gN ⟨pA, _, _, _, _, _, _, _, _, _, _, rfl, g.trans gA, eA, ?_⟩
              rw [filter_take hd, if_pos hb]
              exact (hks.kt gA.kt).app (.cons (hyd'.kt gA.kt) .nil)
            | false =>
              repeat walk_at "rl"
              refine ⟨p6, 0, [v], rfl, rfl, e6', by decide, by decide, by show 0 ≤ sizeLine; decide, fun p9 n9 => ?_⟩
              generalize hH : upd _ p9 _ = H9; obtain ⟨k9, e9⟩ := new_facts hH n9; clear hH
              refine r_cat (k9 _ _ hk') e9 (by show ks.length + 0 ≤ 5000; omega) fun pA HA kA nA eA => ?_
              have gA : Go G L H' HA := (g6.trans g8).trans ((Go.same k9).trans (Go.same kA))
              refine r_gN ⟨pA, ks, _, _, _, _, _, _, _, _, _, rfl, g.trans gA, ?_, ?_⟩
              · rw [eA]
                show some (HO.lst (ks ++ [])) = _
                rw [List.append_nil]
              · rw [filter_take hd, if_neg (by rw [hb]; decide)]
                exact hks.kt gA.kt
        · rintro σ H6 ⟨k, ks, y6, y7, y8, y9, y10, y11, y12, y13, y14, rfl, g, hk, hks⟩
          rw [hcs.length, List.take_length] at hks
          have hcm : ∀ d ∈ comD ns ss, ClD ns d := fun d hd => com_mem hd
          have hcl : (comD ns ss).length ≤ 500 := by
            have z2 := List.length_filter_le (fun d => ss.all fun s => !brk (s.map PyData.str) d) (candD ns)
            have z3 := cand_len ns (by omega)
            show ((candD ns).filter _).length ≤ 500
            omega
          change Ims H6 ks (comD ns ss) at hks
          have g46 := (g45.trans g0).trans g
          have hR6 := hR4.go g46
          have hNT6 := hNT4.kt g46.kt
          have eD6 := g46.lst eD
          have hvs6 := hvs.kt g46.kt
          have ht6 := g46.2 ht4
          clear g46 g hcs hl g0 g45 k5 e5 n5 hNT4 hR4 ht4 eD hvs
          repeat walk_at "rl"
          refine ⟨T, D, ns, vs, ss, rfl, hNT6, gn, n0, by omega, eD6, hvs6, gss, ht6, fun ys H7 g7 hys p hp => ?_⟩
          generalize hH : upd H7 p _ = H8; obtain ⟨k8, e8⟩ := new_facts hH hp; clear hH
          have g68 : Go G L H6 H8 := g7.trans (Go.same k8)
          repeat walk_at "rl"
          refine ⟨.ref p, .ref k, .list (comD ns ss), 3, rfl, rfl, .lst (.of e8) (hys.kt (kp_kt k8)).dp, .lst (.of (g68.lst hk)) (hks.kt g68.kt).dp, cls_lnL hnok hcm (by omega), by decide, fun H9 g9 => ?_⟩
          have g69 := g68.trans g9
          have hR9 := hR6.go g69
          have hNT9 := hNT6.kt g69.kt
          have eD9 := g69.lst eD6
          have hvs9 := hvs6.kt g69.kt
          have ht9 := g69.2 ht6
          clear g69 g68 g9 g7 k8 e8 hp hys hks hk hNT6 hR6 ht6 eD6 hvs6
          repeat walk_at "rl"
          refine r_lenL (.of eD9) ?_
          repeat walk_at "rl"
          refine r_taken hR9 (by omega) (by omega) fun kk H1 hkk g1 hR1 => ?_
          have hkl : kk ≤ ss.length := by omega
          have hNT1 := hNT9.kt (hR9.kt g1)
          have eD1 := g1.lst nD eD9
          have hvs1 := hvs9.kt (hR9.kt g1)
          have ht1 := g1.2 ht9
          clear g1 hR9 hNT9 eD9 hvs9 ht9
          have tn : ∀ {H5 : Hp}, Go G L H1 H5 → ∀ {R : VK}, R (.str z0) H5 → rIxT K (.ref T) (.int 0) H5 R := fun {H5} g5 {R} z => r_ixT (i := 0) (hNT1.kt g5.kt).seq (atI_nat (j := 0) evz) z
          repeat walk_at "rl"
          refine tn (Go.refl _) ?_
          repeat walk_at "rl"
          refine tn (Go.refl _) ?_
          repeat walk_at "rl"
          refine ⟨by show 2 ≤ sizeLine; decide, fun p2 n2 => ?_⟩
          generalize hH : upd _ p2 _ = H2; obtain ⟨k2, e2⟩ := new_facts hH n2; clear hH
          repeat walk_at "rl"
          refine ⟨by show 1 ≤ sizeLine; decide, fun p3 n3 => ?_⟩
          generalize hH : upd _ p3 _ = H3; obtain ⟨k3, e3⟩ := new_facts hH n3; clear hH
          repeat walk_at "rl"
          have g13 : Go G L H1 H3 := (Go.same k2).trans (Go.same k3)
          refine tn g13 ?_
          repeat walk_at "rl"
          refine ⟨by show 1 ≤ sizeLine; decide, fun p4 n4 => ?_⟩
          generalize hH : upd _ p4 _ = H4; obtain ⟨k4, e4⟩ := new_facts hH n4; clear hH
          have g14 : Go G L H1 H4 := g13.trans (Go.same k4)
          repeat walk_at "rl"
          refine tn g14 ?_
          repeat walk_at "rl"
          refine ⟨by show 2 ≤ sizeLine; decide, fun p5 n5 => ?_⟩
          generalize hH : upd _ p5 _ = H5; obtain ⟨k5, e5⟩ := new_facts hH n5; clear hH
          have g15 : Go G L H1 H5 := g14.trans (Go.same k5)
          refine r_cons (r_op (r_revN ?_))
          repeat walk_at "rl"
          refine ⟨T, _, rfl, (hNT1.kt g15.kt).seq, fun p6 n6 => ?_⟩
          generalize hH : upd _ p6 _ = H6; obtain ⟨k6, e6⟩ := new_facts hH n6; clear hH
          have g16 : Go G L H1 H6 := g15.trans (Go.same k6)
          repeat walk_at "rl"
          refine r_slT (hNT1.kt g16.kt).tp fun p7 H7 k7 t7 => ?_
          have g17 : Go G L H1 H7 := g16.trans (Go.same k7)
          rw [cut_to1] at t7
          refine r_catT (.inl (k7 _ _ e6)) t7 (by rw [List.length_reverse, List.length_take, List.length_map, sizeLine_eq]; omega) fun p8 H8 k8 t8 => ?_
          have g18 : Go G L H1 H8 := g17.trans (Go.same k8)
          repeat walk_at "rl"
          refine ⟨by show 6 ≤ sizeLine; decide, fun p9 n9 => ?_⟩
          generalize hH : upd _ p9 _ = H9; obtain ⟨k9, e9⟩ := new_facts hH n9; clear hH
          have g28 : Go G L H2 H8 := ((((Go.same k3).trans (Go.same k4)).trans (Go.same k5)).trans (Go.same k6)).trans ((Go.same k7).trans (Go.same k8))
          have g39 : Go G L H1 H9 := g18.trans (Go.same k9)
          have hR9 := hR1.go g39
          have n9r : p9 ≠ ρ.r := ne_row7 (hR1.go g18) n9
          have n4r : p4 ≠ ρ.r := ne_row7 (hR1.go g13) n4
          repeat walk_at "rl"
          refine r_slN (g39.lst eD1) fun pA HA nA kA eA => ?_
          rw [cut_to (by omega)] at eA
          have gA : Go G L H9 HA := Go.same kA
          repeat walk_at "rl"
          refine ⟨ρ, p9, [.ref p2, .ref p3, .non, .ref p4, .ref p5, .ref p8], rfl, hR9.go gA, (by show 0 < 6; decide), (by show 6 < 1000000; decide), fun H' h => ?_, fun i0 v0 HB e0 gB hRB => ?_⟩
          · rcases h with rfl | h
            · exact .inl (.of (gA.lst e9))
            · exact .inl (.of (h.lst n9r (gA.lst e9)))
          have kB : KT HA HB := (hR9.go gA).kt gB
          have k2B : KT H2 HB := fun b o h1 h2 e => kB b o h1 h2 ((g28.trans ((Go.same k9).trans gA)).kt b o h1 h2 e)
          have hod : ∃ od : PyData, (stateBad ns od).isSome = true ∧ lv 7 od = true ∧ (∀ es, od = .tuple es → es.length ≤ 60) ∧ Dp K HB v0 od := by
            have lz : lv 6 (.str z0) = true := lv_str (hnok z0 hz0)
            match i0, e0 with
            | 0, e0 =>
              obtain rfl := Option.some.inj e0
              exact ⟨.tuple [.str z0, .str z0], odd_two gn.nd [] [] z0, lv_tup fun d hd => (by simp at hd; rw [hd]; exact lz), fun es e => (by rw [← PyData.tuple.inj e]; show 2 ≤ 60; decide), (Im.tup (Tp.kt (.inl e2) k2B) (.cons (.str _) (.cons (.str _) .nil))).dp⟩
            | 1, e0 =>
              obtain rfl := Option.some.inj e0
              have k3B : KT H3 HB := fun b o h1 h2 e => kB b o h1 h2 ((((((Go.same (G := G) (L := L) k4).trans (Go.same k5)).trans (Go.same k6)).trans ((Go.same k7).trans (Go.same k8))).trans ((Go.same k9).trans gA)).kt b o h1 h2 e)
              refine ⟨.tuple [.str "?"], odd_new (fun q => ?_), by decide +kernel, fun es e => (by rw [← PyData.tuple.inj e]; show 1 ≤ 60; decide), (Im.tup (Tp.kt (.inl e3) k3B) (.cons (.str _) .nil)).dp⟩
              have y := (gn.al _ q).1
              revert y
              decide +kernel
            | 2, e0 =>
              obtain rfl := Option.some.inj e0
              exact ⟨.none, rfl, by decide, fun es e => (by cases e), .non⟩
            | 3, e0 =>
              obtain rfl := Option.some.inj e0
              have e4B : HB p4 = some (.lst [.str z0]) := gB.lst n4r (((((Go.same k5).trans (Go.same k6)).trans ((Go.same k7).trans (Go.same k8))).trans ((Go.same k9).trans gA)).lst (G := G) (L := L) e4)
              exact ⟨.list [.str z0], rfl, lv_lst fun d hd => (by rw [List.mem_singleton.mp hd]; exact lz), fun es e => (by cases e), .lst (.of e4B) (.cons (.str _) .nil)⟩
            | 4, e0 =>
              obtain rfl := Option.some.inj e0
              have k5B : KT H5 HB := fun b o h1 h2 e => kB b o h1 h2 ((((Go.same (G := G) (L := L) k6).trans ((Go.same k7).trans (Go.same k8))).trans ((Go.same k9).trans gA)).kt b o h1 h2 e)
              exact ⟨.tuple [.str z0, .int 5], odd_int z0 5, lv_tup fun d hd => (by rcases List.mem_cons.mp hd with rfl | hd; exact lz; rw [List.mem_singleton.mp hd]; decide), fun es e => (by rw [← PyData.tuple.inj e]; show 2 ≤ 60; decide), (Im.tup (Tp.kt (.inl e5) k5B) (.cons (.str _) (.cons (.int _) .nil))).dp⟩
            | 5, e0 =>
              obtain rfl := Option.some.inj e0
              obtain ⟨zt, rfl⟩ : ∃ zt, ns = z0 :: zt := by
                cases ns with
                | nil => cases ez0
                | cons x t => exact ⟨t, by rw [Option.some.inj ez0]⟩
              have k8B : KT H8 HB := fun b o h1 h2 e => kB b o h1 h2 (((Go.same (G := G) (L := L) k9).trans gA).kt b o h1 h2 e)
              have t8' := t8.kt k8B
              have ed : ((z0 :: zt).map V.str).reverse ++ ((z0 :: zt).map V.str).take 1 = (zt.reverse ++ z0 :: ([] ++ [z0])).map V.str := by simp
              rw [ed] at t8'
              refine ⟨.tuple ((zt.reverse ++ z0 :: ([] ++ [z0])).map PyData.str), odd_two gn.nd _ [] z0, lv_strs fun y hy => hnok y ?_, fun es e => ?_, (Im.tup t8' (ims_strs _)).dp⟩
              · simp at hy ⊢
                rcases hy with h | h
                · exact .inr h
                · exact .inl h
              · rw [← PyData.tuple.inj e]
                simp at hn8 ⊢
                omega
            | n + 6, e0 => simp at e0
          obtain ⟨od, ob, ol, ot, hdB⟩ := hod
          clear e0
          have g1A := g39.trans gA
          have nAr : pA ≠ ρ.r := ne_row7 hR9 nA
          have eAB := gB.lst nAr eA
          have eDB := gB.lst nD (gA.lst (g39.lst eD1))
          have hNTB := (hNT1.kt g1A.kt).kt kB
          have hvsB := (hvs1.kt g1A.kt).kt kB
          have htB := gB.2 (g1A.2 ht1)
          clear g1A nAr n9r n4r kB k2B gB nA kA eA gA hR9 g39 g28 k9 e9 n9 g18 t8 k8 g17 t7 k7 g16 e6 k6 n6 g15 e5 k5 n5 g14 e4 k4 n4 g13 e3 k3 n3 e2 k2 n2 hR1 hNT1 eD1 hvs1 ht1 tn
          repeat walk_at "rl"
          refine ⟨by show 1 ≤ sizeLine; decide, fun p2 n2 => ?_⟩
          generalize hH : upd _ p2 _ = H2; obtain ⟨k2, e2⟩ := new_facts hH n2; clear hH
          refine r_cat (k2 _ _ eAB) e2 (by rw [List.length_take]; show _ + 1 ≤ 5000; omega) fun p3 H3 k3 n3 e3 => ?_
          repeat walk_at "rl"
          refine r_slN (k3 _ _ (k2 _ _ eDB)) fun p4 H4 n4 k4 e4 => ?_
          rw [cut_from (by omega)] at e4
          refine r_cat (k4 _ _ e3) e4 (by rw [List.length_append, List.length_take, List.length_drop]; show _ + 1 + _ ≤ 5000; omega) fun p5 H5 k5 n5 e5 => ?_
          have gB5 : Go G L HB H5 := ((Go.same k2).trans (Go.same k3)).trans ((Go.same k4).trans (Go.same k5))
          have hR5 := hRB.go gB5
          have hNT5 := hNTB.kt gB5.kt
          have eD5 := gB5.lst eDB
          have hvs5 := hvsB.kt gB5.kt
          have ht5 := gB5.2 htB
          have hd5 : Dp K H5 (.ref p5) (.list (putD ss kk od)) := .lst (.of e5) (putD_dp hvs5 (Dp.go gB5.1 hdB))
          have hsm := putD_small hn8 hnok (by omega) hsub ol ot (k := kk)
          have hbad := badSs_odd (rest := (ss.drop kk).map (fun s => PyData.tuple (s.map PyData.str))) hsub hkl ob
          change badSs ns (.list (putD ss kk od)) = some kk at hbad
          have hn10 : ns.length ≤ 10 := by omega
          clear gB5 hdB e5 e4 k5 n5 k4 n4 e3 k3 n3 e2 k2 n2 hRB hNTB eDB hvsB htB eAB
          repeat walk_at "rl"
          refine r_lamV rfl AP hL ht5 fun f0 c0 H6 g6 la0 => ?_
          have ht6 := g6.2 ht5
          repeat walk_at "rl"
          refine r_lamV rfl AP hL ht6 fun f1 c1 H7 g7 la1 => ?_
          have ht7 := g7.2 ht6
          repeat walk_at "rl"
          refine ⟨by show 2 ≤ sizeLine; decide, fun p8 n8 => ?_⟩
          generalize hH : upd _ p8 _ = H8; obtain ⟨k8, e8⟩ := new_facts hH n8; clear hH
          have g58 : Go G L H5 H8 := (g6.trans g7).trans (Go.same k8)
          have ht8 := g58.2 ht5
          repeat walk_at "rl"
          refine ⟨.inl ⟨rfl, _, .of e8⟩, ?_⟩
          repeat walk_at "rl"
          refine r_lamV rfl AP hL ht8 fun f2 c2 H9 g9 la2 => ?_
          repeat walk_at "rl"
          refine r_append (g9.lst e8) (by show 2 ≤ 5000; decide) ?_
          have g7u : Go G L H7 (upd H9 p8 (.lst ([.ref f0, .ref f1] ++ [.ref f2]))) := ((Go.same k8).trans g9).updNew n8 (g9.lst e8)
          have la2' : LamAt _ _ _ _ _ (upd H9 p8 (.lst ([.ref f0, .ref f1] ++ [.ref f2]))) f2 c2 := la2.kept fun d o n1 n2 e => by
            rw [upd_ne (fun q => by rw [q, g9.lst e8] at e; exact n2 _ (Option.some.inj e).symm)]
            exact e
          have e1u : upd H9 p8 (.lst ([.ref f0, .ref f1] ++ [.ref f2])) p8 = some (.lst [.ref f0, .ref f1, .ref f2]) := upd_same
          generalize upd H9 p8 (.lst ([.ref f0, .ref f1] ++ [.ref f2])) = H1 at g7u la2' e1u
          have g51 : Go G L H5 H1 := (g6.trans g7).trans g7u
          have la0' := lamAt_go la0 (g7.trans g7u)
          have la1' := lamAt_go la1 g7u
          have hR1 := hR5.go g51
          have hNT1 := hNT5.kt g51.kt
          have eD1 := g51.lst eD5
          have hvs1 := hvs5.kt g51.kt
          have ht1 := g51.2 ht5
          have hd1 : Dp K H1 (.ref p5) (.list (putD ss kk od)) := Dp.go g51.1 hd5
          clear g51 hd5 ht5 hvs5 eD5 hNT5 hR5 la0 la1 la2 g7u g9 ht8 g58 k8 n8 e8 ht7 ht6 g6 g7
          repeat walk_at "rl"
          refine lcL (a := p8) (xs := [.ref f0, .ref f1, .ref f2]) (fun R z => ⟨_, rfl, z⟩) (.of e1u) (fun D2 j H' => ∃ zs, Go G L H1 H' ∧ H' D2 = some (.lst zs) ∧ Ims H' zs (List.replicate j (errIS kk))) ?_ ?_ ?_ ?_
          · intro D2 hD2
            exact ⟨[], Go.new hD2, upd_same, .nil⟩
          · rintro D2 j H' hD2 _ ⟨zs, g, _⟩
            exact .of (g.lst e1u)
          · rintro D2 j y H' hD2 hy ⟨zs, g, eD2, hzs⟩
            have hj : j < 3 := (List.getElem?_eq_some_iff.mp hy).1
            have hzl := hzs.length
            rw [List.length_replicate] at hzl
            have fin : ∀ v H2, Go G L H' H2 → Im H2 v (errIS kk) → ∃ acc, H2 D2 = some (.lst acc) ∧ acc.length < sizeLine ∧ ∃ zs', Go G L H1 (upd H2 D2 (.lst (acc ++ [v]))) ∧ upd H2 D2 (.lst (acc ++ [v])) D2 = some (.lst zs') ∧ Ims (upd H2 D2 (.lst (acc ++ [v]))) zs' (List.replicate (j + 1) (errIS kk)) := fun v H2 g2 him => by
              have e2 := g2.lst eD2
              refine ⟨zs, e2, by rw [sizeLine_eq]; omega, zs ++ [v], (g.trans g2).updNew hD2 e2, upd_same, ?_⟩
              rw [List.replicate_succ']
              exact Ims.kt (kt_upd e2) ((hzs.kt g2.kt).app (.cons him .nil))
            have hd' := Dp.go g.1 hd1
            have hNT' := hNT1.kt g.kt
            have ht' := g.2 ht1
            refine r_gN ⟨rfl, r_yes ?_⟩
            refine r_giveO ?_
            repeat walk_at "rl"
            match j, hy with
            | 0, hy =>
              obtain rfl := Option.some.inj hy
              refine give_at (lamAt_go la0' g) (lamS1_by (N := nLaw) (sc0 := defScope sLaw) (by decide +kernel)) (fun _ _ _ _ _ _ => rfl) _ (fun A outer s H E f c' hr2 => pe_lgL CCE hr2 zl (pa_cons (pv 3) (pa_cons (pv 9) pa_nil))) ?_
              refine r_tr5 (r_lgdX ?_)
              repeat walk_at "rl"
              exact refused_states hNT' gn n0 hn10 hd' hsm hbad ht' (noStp_IS sIS (te5_IS fin))
            | 1, hy =>
              obtain rfl := Option.some.inj hy
              refine give_at (lamAt_go la1' g) (lamS1_by (N := nLaw) (sc0 := defScope sLaw) (by decide +kernel)) (lamBind1 "_law_a" rfl fun _ _ _ _ _ _ _ _ => ⟨_, rfl, rfl⟩) _ (fun A outer s H E f c' hr2 => pe_fdL LRE hr2 (pa_cons (pv 3) (pa_cons (pv 9) pa_nil))) ?_
              refine r_tr5 ?_
              repeat walk_at "rl"
              exact refused_states hNT' gn n0 hn10 hd' hsm hbad ht' (te5_IS fin)
            | 2, hy =>
              obtain rfl := Option.some.inj hy
              refine give_at (la2'.kept fun d o n1 n2 e => g.kt d o n2 n1 e) (lamS1_by (N := nLaw) (sc0 := defScope sLaw) (by decide +kernel)) (lamBind1 "_law_b" rfl fun _ _ _ _ _ _ _ _ => ⟨_, rfl, rfl⟩) _ (fun A outer s H E f c' hr2 => pe_lgL CLOE hr2 zl (pa_cons (pv 3) (pa_cons (pv 9) pa_nil))) ?_
              refine r_tr5 (r_lgdX ?_)
              repeat walk_at "rl"
              exact refused_states hNT' gn n0 hn10 hd' hsm hbad ht' (noStp_IS sIS (te5_IS fin))
          · rintro D2 H2 hD2 ⟨zs, g2, eD2, hzs⟩
            repeat walk_at "rl"
            refine ⟨by show 3 ≤ sizeLine; decide, fun p3 n3 => ?_⟩
            generalize hH : upd _ p3 _ = H3; obtain ⟨k3, e3⟩ := new_facts hH n3; clear hH
            repeat walk_at "rl"
            refine ⟨by show 1 ≤ sizeLine; decide, fun p4 n4 => ?_⟩
            generalize hH : upd _ p4 _ = H4; obtain ⟨k4, e4⟩ := new_facts hH n4; clear hH
            repeat walk_at "rl"
            refine r_repL (n := 3) e4 (by decide) (by show 1 * 3 ≤ 5000; decide) fun p6 H6 n6 k6 e6 => ?_
            have g26 : Go G L H2 H6 := ((Go.same k3).trans (Go.same k4)).trans (Go.same k6)
            have i3 : Im H6 (.ref p3) (errIS kk) := (Im.tup (.inl e3) (.cons (.str _) (.cons (.str _) (.cons (.int _) .nil)))).kt ((Go.same (G := G) (L := L) k4).trans (Go.same k6)).kt
            refine r_neI (D := .list (List.replicate 3 (errIS kk))) (.lst (.of (g26.lst eD2)) (hzs.kt g26.kt).dp) (.lst (.of e6) (Ims.dp (.cons i3 (.cons i3 (.cons i3 .nil))))) (lv_reps (lv_errIS _)) ?_
            have g16 := g2.trans g26
            have hR6 := hR1.go g16
            have hNT6 := hNT1.kt g16.kt
            have eD6 := g16.lst eD1
            have hvs6 := hvs1.kt g16.kt
            have ht6 := g16.2 ht1
            clear g16 i3 g26 k6 e6 n6 k4 e4 n4 k3 e3 n3 hzs eD2 g2 hd1 ht1 hvs1 eD1 hNT1 hR1 la0' la1' la2' e1u hbad hsm ob ol ot
            repeat walk_at "rl"
            -- no list of states at all
            refine ⟨by show 0 ≤ sizeLine; decide, fun p7 n7 => ?_⟩
            generalize hH : upd _ p7 _ = H7; obtain ⟨k7, e7⟩ := new_facts hH n7; clear hH
            repeat walk_at "rl"
            have g67 : Go G L H6 H7 := Go.same k7
            refine r_tupL2 (g67.lst eD6) fun U H8 k8 hU => ?_
            have g78 : Go G L H7 H8 := Go.same k8
            repeat walk_at "rl"
            refine ⟨by show 3 ≤ sizeLine; decide, fun p9 n9 => ?_⟩
            generalize hH : upd _ p9 _ = H9; obtain ⟨k9, e9⟩ := new_facts hH n9; clear hH
            have g89 : Go G L H8 H9 := Go.same k9
            have g79 := g78.trans g89
            have g69 := g67.trans g79
            have hR9 := hR6.go g69
            have n9r : p9 ≠ ρ.r := ne_row7 (hR6.go (g67.trans g78)) n9
            have n7r : p7 ≠ ρ.r := ne_row7 hR6 n7
            repeat walk_at "rl"
            refine ⟨ρ, p9, [.ref p7, .non, .ref U], rfl, hR9, (by show 0 < 3; decide), (by show 3 < 1000000; decide), fun H' h => ?_, fun i0 v0 HB e0 gB hRB => ?_⟩
            · rcases h with rfl | h
              · exact .inl (.of e9)
              · exact .inl (.of (h.lst n9r e9))
            have kB : KT H9 HB := hR9.kt gB
            have hvs9 := hvs6.kt g69.kt
            have hod : ∃ du : PyData, (∀ ds, du = .list ds → ds.length ≤ 90 ∧ ∀ y ∈ ds, lv 7 y = true ∧ ∀ es, y = .tuple es → es.length ≤ 60) ∧ badSs ns du = some 0 ∧ Dp K HB v0 du := by
              match i0, e0 with
              | 0, e0 =>
                obtain rfl := Option.some.inj e0
                exact ⟨.list [], fun ds e => (by rw [← PyData.list.inj e]; exact ⟨by decide, fun y hy => (by cases hy)⟩), rfl, .lst (.of (gB.lst n7r (g79.lst e7))) .nil⟩
              | 1, e0 =>
                obtain rfl := Option.some.inj e0
                exact ⟨.none, fun ds e => (by cases e), rfl, .non⟩
              | 2, e0 =>
                obtain rfl := Option.some.inj e0
                exact ⟨.tuple (ss.map fun s => .tuple (s.map PyData.str)), fun ds e => (by cases e), rfl, .tup ((hU.kt g89.kt).kt kB).seq (hvs9.kt kB).dps⟩
              | n + 3, e0 => simp at e0
            obtain ⟨du, hcu, hbad, hdB⟩ := hod
            have hNTB := (hNT6.kt g69.kt).kt kB
            have htB := gB.2 (g69.2 ht6)
            clear e0 kB gB n7r n9r hR9 g69 g79 g89 g78 g67 k9 e9 n9 k8 hU k7 e7 n7 hR6 hNT6 eD6 hvs6 ht6 hvs9
            have say : ∀ {H' : Hp}, Go G L HB H' → ∀ {Q : VK}, (∀ v H2, Go G L H' H2 → Im H2 v (errIS 0) → Q v H2) → ∀ {E : XK}, (∀ dd H2, Go G L H' H2 → H2 dd = some (.xd [("index", .int (0 : Nat))]) → TE5 K G L Q (.ref (He.ga K "InvalidStates")) (some dd) H2 → E (.ref (He.ga K "InvalidStates")) (some dd) H2) → Refused K G L [.ref T, v0] H' E := fun {H'} g {Q} q {E} hE =>
              refused_states (hNTB.kt g.kt) gn n0 hn10 (Dp.go g.1 hdB) hcu hbad (g.2 htB) fun dd H2 g2 h2 => hE dd H2 g2 h2 (te5_IS q dd H2 g2 h2)
            repeat walk_at "rl"
            refine r_give ?_
            refine r_lamV rfl AP hL htB fun f0 c0 H1 g1 la0 => ?_
            refine give_at la0 (lamS1_by (N := nLaw) (sc0 := defScope sLaw) (by decide +kernel)) (lamBind1 "_law_c" rfl fun _ _ _ _ _ _ _ _ => ⟨_, rfl, rfl⟩) _ (fun A outer s H E f c' hr2 => pe_fdL LRE hr2 (pa_cons (pv 3) (pa_cons (pv 11) pa_nil))) ?_
            refine r_tr5 ?_
            repeat walk_at "rl"
            refine say g1 (fun v H2 g2 him => ?_) fun dd H2 _ _ h => h
            repeat walk_at "rl"
            refine ⟨by show 3 ≤ sizeLine; decide, fun p3 n3 => ?_⟩
            generalize hH : upd _ p3 _ = H3; obtain ⟨k3, e3⟩ := new_facts hH n3; clear hH
            have g23 : Go G L H2 H3 := Go.same k3
            refine r_neI (D := errIS 0) (him.kt g23.kt).dp (Im.tup (.inl e3) (.cons (.str _) (.cons (.str _) (.cons (.int _) .nil)))).dp (lv_up (lv_errIS 0) (by decide)) ?_
            have g13 := (g1.trans g2).trans g23
            repeat walk_at "rl"
            refine r_give ?_
            refine r_lamV rfl AP hL (g13.2 htB) fun f4 c4 H4 g4 la4 => ?_
            have g14 := g13.trans g4
            refine give_at la4 (lamS1_by (N := nLaw) (sc0 := defScope sLaw) (by decide +kernel)) (lamBind1 "_law_e" rfl fun _ _ _ _ _ _ _ _ => ⟨_, rfl, rfl⟩) _ (fun A outer s H E f c' hr2 => pe_lgL CLOE hr2 zl (pa_cons (pv 3) (pa_cons (pv 11) pa_nil))) ?_
            refine r_tr5 (r_lgdX ?_)
            repeat walk_at "rl"
            refine say g14 (fun v H5 g5 him5 => ?_) fun dd H2 _ _ h => ⟨h, sIS⟩
            repeat walk_at "rl"
            refine ⟨by show 3 ≤ sizeLine; decide, fun p6 n6 => ?_⟩
            generalize hH : upd _ p6 _ = H6; obtain ⟨k6, e6⟩ := new_facts hH n6; clear hH
            have g56 : Go G L H5 H6 := Go.same k6
            refine r_neI (D := errIS 0) (him5.kt g56.kt).dp (Im.tup (.inl e6) (.cons (.str _) (.cons (.str _) (.cons (.int _) .nil)))).dp (lv_up (lv_errIS 0) (by decide)) ?_
            have g16 := (g14.trans g5).trans g56
            have hR6 := hRB.go g16
            have hNT6 := hNTB.kt g16.kt
            have ht6 := g16.2 htB
            clear g16 g56 k6 e6 n6 him5 g5 la4 g14 g4 g13 g23 k3 e3 n3 him g2 la0 g1 say hdB hcu hbad hRB hNTB htB
            -- names
            repeat walk_at "rl"
            refine r_lenT hNT6.seq ?_
            repeat walk_at "rl"
            refine r_taken hR6 (by omega) (by rw [List.length_map]; omega) fun kk2 H1 hkk2 g1 hR1 => ?_
            rw [List.length_map] at hkk2
            have hk2 : kk2 ≤ ns.length := by omega
            have hNT1 := hNT6.kt (hR6.kt g1)
            have ht1 := g1.2 ht6
            repeat walk_at "rl"
            refine r_ifv (.str (if 0 < kk2 then z0 else "a b")) (fun h R z => ?_) (fun h R z => ?_) ?_
            · rw [if_pos (by have := of_decide_eq_true h; omega)] at z
              repeat walk_at "rl"
              exact r_ixT (i := 0) hNT1.seq (atI_nat (j := 0) evz) z
            · rw [if_neg (by have := of_decide_eq_false h; omega)] at z
              exact z
            repeat walk_at "rl"
            refine ⟨by show 5 ≤ sizeLine; decide, fun p2 n2 => ?_⟩
            generalize hH : upd _ p2 _ = H2; obtain ⟨k2, e2⟩ := new_facts hH n2; clear hH
            have g12 : Go G L H1 H2 := Go.same k2
            have hR2 := hR1.go g12
            have n2r : p2 ≠ ρ.r := ne_row7 hR1 n2
            repeat walk_at "rl"
            refine ⟨ρ, p2, [.str "", .str "A", .str "abcdefghi", .non, .str (if 0 < kk2 then z0 else "a b")], rfl, hR2, (by show 0 < 5; decide), (by show 5 < 1000000; decide), fun H' h => ?_, fun i0 v0 H3 e0 g3 hR3 => ?_⟩
            · rcases h with rfl | h
              · exact .inl (.of e2)
              · exact .inl (.of (h.lst n2r e2))
            have hod : ∃ od : PyData, (nameOk od = false ∨ ∃ z, od = .str z ∧ z ∈ ns.take kk2) ∧ lv 6 od = true ∧ smallS od ∧ Dp K H3 v0 od ∧ ∀ H' : Hp, Im H' v0 od := by
              match i0, e0 with
              | 0, e0 =>
                obtain rfl := Option.some.inj e0
                exact ⟨.str "", .inl (by decide +kernel), by decide +kernel, by show _ ≤ sizeLine; rw [sizeLine_eq]; decide +kernel, .str _, fun _ => .str _⟩
              | 1, e0 =>
                obtain rfl := Option.some.inj e0
                exact ⟨.str "A", .inl (by decide +kernel), by decide +kernel, by show _ ≤ sizeLine; rw [sizeLine_eq]; decide +kernel, .str _, fun _ => .str _⟩
              | 2, e0 =>
                obtain rfl := Option.some.inj e0
                exact ⟨.str "abcdefghi", .inl (by decide +kernel), by decide +kernel, by show _ ≤ sizeLine; rw [sizeLine_eq]; decide +kernel, .str _, fun _ => .str _⟩
              | 3, e0 =>
                obtain rfl := Option.some.inj e0
                exact ⟨.none, .inl rfl, by decide, trivial, .non, fun _ => .non⟩
              | 4, e0 =>
                obtain rfl := Option.some.inj e0
                by_cases h : 0 < kk2
                · rw [if_pos h]
                  refine ⟨.str z0, .inr ⟨z0, rfl, ?_⟩, lv_str (hnok z0 hz0), ?_, .str _, fun _ => .str _⟩
                  · have z : (ns.take kk2)[0]? = some z0 := by rw [List.getElem?_take, if_pos h, ez0]
                    exact List.mem_of_getElem? z
                  · show z0.length ≤ sizeLine
                    have := (gn.al z0 hz0).2.2
                    rw [sizeLine_eq]
                    omega
                · rw [if_neg h]
                  exact ⟨.str "a b", .inl (by decide +kernel), by decide +kernel, by show _ ≤ sizeLine; rw [sizeLine_eq]; decide +kernel, .str _, fun _ => .str _⟩
              | n + 5, e0 => simp at e0
            obtain ⟨od, hbo, l6, hsm, hdo, himo⟩ := hod
            have hbad := names_odd (rest := (ns.drop kk2).map PyData.str) gn hn10 hk2 hbo
            change namesBad (.tuple (putN ns kk2 od)) = some kk2 at hbad
            have hsn := putN_small (k := kk2) gn hn8 l6 hsm
            have hNT3 := (hNT1.kt g12.kt).kt (hR2.kt g3)
            have ht3 := g3.2 (g12.2 ht1)
            clear e0 n2r hR2 g12 k2 e2 n2 hR1 g1 hR6 hNT6 ht6 hNT1 ht1 g3
            repeat walk_at "rl"
            refine r_slT hNT3.tp fun p4 H4 k4 t4 => ?_
            rw [cut_to (by rw [List.length_map]; exact hk2)] at t4
            repeat walk_at "rl"
            refine ⟨by show 1 ≤ sizeLine; decide, fun p5 n5 => ?_⟩
            generalize hH : upd _ p5 _ = H5; obtain ⟨k5, e5⟩ := new_facts hH n5; clear hH
            refine r_catT (t4.kt (kp_kt k5)) (.inl e5) (by rw [List.length_take, List.length_map, sizeLine_eq]; show _ + 1 ≤ _; omega) fun p6 H6 k6 t6 => ?_
            have g36 : Go G L H3 H6 := ((Go.same k4).trans (Go.same k5)).trans (Go.same k6)
            repeat walk_at "rl"
            refine r_slT (hNT3.kt g36.kt).tp fun p7 H7 k7 t7 => ?_
            rw [cut_from (by rw [List.length_map]; exact hk2)] at t7
            refine r_catT (t6.kt (kp_kt k7)) t7 (by rw [List.length_append, List.length_take, List.length_drop, List.length_map, sizeLine_eq]; show _ + 1 + _ ≤ _; omega) fun p8' H8 k8 t8 => ?_
            have g38 : Go G L H3 H8 := g36.trans ((Go.same k7).trans (Go.same k8))
            have hR8 := hR3.go g38
            have hNT8 := hNT3.kt g38.kt
            have ht8 := g38.2 ht3
            have hd8 : Dp K H8 (.ref p8') (.tuple (putN ns kk2 od)) := .tup t8.seq (putN_dp (himo H8).dp)
            clear g38 g36 k8 t8 k7 t7 k6 t6 k5 e5 n5 k4 t4 hR3 hNT3 ht3 hdo himo
            repeat walk_at "rl"
            refine r_lamV rfl AP hL ht8 fun f0 c0 H1 g1 la0 => ?_
            have ht1 := g1.2 ht8
            repeat walk_at "rl"
            refine r_lamV rfl AP hL ht1 fun f1 c1 H2 g2 la1 => ?_
            repeat walk_at "rl"
            refine ⟨by show 2 ≤ sizeLine; decide, fun p3 n3 => ?_⟩
            generalize hH : upd _ p3 _ = H3; obtain ⟨k3, e3⟩ := new_facts hH n3; clear hH
            have g23 : Go G L H2 H3 := Go.same k3
            have g83 := (g1.trans g2).trans g23
            have la0' := lamAt_go la0 (g2.trans g23)
            have la1' := lamAt_go la1 g23
            have hd3 : Dp K H3 (.ref p8') (.tuple (putN ns kk2 od)) := Dp.go g83.1 hd8
            have ht3 := g83.2 ht8
            repeat walk_at "rl"
            refine lcL (a := p3) (xs := [.ref f0, .ref f1]) (fun R z => ⟨_, rfl, z⟩) (.of e3) (fun D2 j H' => ∃ zs, Go G L H3 H' ∧ H' D2 = some (.lst zs) ∧ Ims H' zs (List.replicate j (errIR kk2))) ?_ ?_ ?_ ?_
            · intro D2 hD2
              exact ⟨[], Go.new hD2, upd_same, .nil⟩
            · rintro D2 j H' hD2 _ ⟨zs, g, _⟩
              exact .of (g.lst e3)
            · rintro D2 j y H' hD2 hy ⟨zs, g, eD2, hzs⟩
              have hj : j < 2 := (List.getElem?_eq_some_iff.mp hy).1
              have hzl := hzs.length
              rw [List.length_replicate] at hzl
              have fin : ∀ v H2, Go G L H' H2 → Im H2 v (errIR kk2) → ∃ acc, H2 D2 = some (.lst acc) ∧ acc.length < sizeLine ∧ ∃ zs', Go G L H3 (upd H2 D2 (.lst (acc ++ [v]))) ∧ upd H2 D2 (.lst (acc ++ [v])) D2 = some (.lst zs') ∧ Ims (upd H2 D2 (.lst (acc ++ [v]))) zs' (List.replicate (j + 1) (errIR kk2)) := fun v H2 g2 him => by
                have e2 := g2.lst eD2
                refine ⟨zs, e2, by rw [sizeLine_eq]; omega, zs ++ [v], (g.trans g2).updNew hD2 e2, upd_same, ?_⟩
                rw [List.replicate_succ']
                exact Ims.kt (kt_upd e2) ((hzs.kt g2.kt).app (.cons him .nil))
              have hd' := Dp.go g.1 hd3
              have ht' := g.2 ht3
              refine r_gN ⟨rfl, r_yes ?_⟩
              refine r_giveO ?_
              repeat walk_at "rl"
              match j, hy with
              | 0, hy =>
                obtain rfl := Option.some.inj hy
                refine give_at (lamAt_go la0' g) (lamS1_by (N := nLaw) (sc0 := defScope sLaw) (by decide +kernel)) (lamBind1 "_law_f" rfl fun _ _ _ _ _ _ _ _ => ⟨_, rfl, rfl⟩) _ (fun A outer s H E f c' hr2 => pe_lgL CCE hr2 zl (pa_cons (pv 12) (pa_cons pe_non pa_nil))) ?_
                refine r_tr5 (r_lgdX ?_)
                repeat walk_at "rl"
                exact refused_names hd' hsn.1 ht' hsn.2 hbad (noStp_IR sIR (te5_IR fin))
              | 1, hy =>
                obtain rfl := Option.some.inj hy
                refine give_at (lamAt_go la1' g) (lamS1_by (N := nLaw) (sc0 := defScope sLaw) (by decide +kernel)) (lamBind1 "_law_g" rfl fun _ _ _ _ _ _ _ _ => ⟨_, rfl, rfl⟩) _ (fun A outer s H E f c' hr2 => pe_fdL LRE hr2 (pa_cons (pv 12) (pa_cons pe_non pa_nil))) ?_
                refine r_tr5 ?_
                repeat walk_at "rl"
                exact refused_names hd' hsn.1 ht' hsn.2 hbad (te5_IR fin)
            · rintro D2 H4 hD2 ⟨zs, g4, eD2, hzs⟩
              repeat walk_at "rl"
              refine ⟨by show 4 ≤ sizeLine; decide, fun p5 n5 => ?_⟩
              generalize hH : upd _ p5 _ = H5; obtain ⟨k5, e5⟩ := new_facts hH n5; clear hH
              repeat walk_at "rl"
              refine ⟨by show 1 ≤ sizeLine; decide, fun p6 n6 => ?_⟩
              generalize hH : upd _ p6 _ = H6; obtain ⟨k6, e6⟩ := new_facts hH n6; clear hH
              repeat walk_at "rl"
              refine r_repL (n := 2) e6 (by decide) (by show 1 * 2 ≤ 5000; decide) fun p7 H7 n7 k7 e7 => ?_
              have g47 : Go G L H4 H7 := ((Go.same k5).trans (Go.same k6)).trans (Go.same k7)
              have i5 : Im H7 (.ref p5) (errIR kk2) := (Im.tup (.inl e5) (.cons (.str _) (.cons (.str _) (.cons (.str _) (.cons (.int _) .nil))))).kt ((Go.same (G := G) (L := L) k6).trans (Go.same k7)).kt
              refine r_neI (D := .list (List.replicate 2 (errIR kk2))) (.lst (.of (g47.lst eD2)) (hzs.kt g47.kt).dp) (.lst (.of e7) (Ims.dp (.cons i5 (.cons i5 .nil)))) (lv_reps (lv_errIR _)) ?_
              have g87 := (g83.trans g4).trans g47
              repeat walk_at "rl"
              exact ⟨_, _, _, _, _, _, _, _, _, _, _, _, _, rfl, g87.2 ht8, hR8.go g87⟩
    · rintro σ H2 ⟨x2, x3, x4, x5, x6, x7, x8, x9, x10, x11, x12, x13, x14, rfl, ht2, hR2⟩
      repeat walk_at "rl"
      exact q _
end
section
variable {K : PySem.W.Frag} {h : Heap}
def isB (a b : Option Bool) : Bool := decide (a = b)
theorem isB_ok {a b : Option Bool} (h : isB a b = true) : a = b := of_decide_eq_true h
/-- an exception class of its own __init__ -/
def oxB (K : PySem.W.Frag) (C : Addr) : Bool := match K.lookup C with
  | some ⟨.type t, _, .cls cd, sl⟩ => (match cd.mro, sl.toList with
    | .ref D :: bm, [_, _, _, _, some (.builtin n), _] => decide (t = "type") && (decide (D = C) && (decide (n = "ValueError.__new__") && (!cd.hasDel && (cd.hasDict && PySem.HandSPX.refsVE bm))))
    | _, _ => false)
  | _ => false
def oexB (K : PySem.W.Frag) (C : Addr) : Bool := oxB K C && (He.eqO (PySem.W.findIn K (.ref C) "__setattr__") (some (some (.builtin "object.__setattr__"))) && (isB (PySem.W.subIn K (.ref C) (.type "BaseException")) (some true) && (decide (PySem.W.typeIn K (.ref C) = some (.type "type")) && PySem.W.keepIn K (.ref C))))
theorem oexB_ok {C : Addr} (h : oexB K C = true) : OexC K C := by
  obtain ⟨h1, h⟩ := He.ba h
  obtain ⟨h2, h⟩ := He.ba h
  obtain ⟨h3, h⟩ := He.ba h
  obtain ⟨h4, h5⟩ := He.ba h
  refine ⟨?_, He.eqO_ok h2, isB_ok h3, of_decide_eq_true h4, h5⟩
  unfold oxB at h1
  split at h1
  · rename_i t dd cd sl ho
    split at h1
    · rename_i D bm k0 k1 k2 k3 n k5 hm hs
      obtain ⟨a1, h1⟩ := He.ba h1
      obtain ⟨a2, h1⟩ := He.ba h1
      obtain ⟨a3, h1⟩ := He.ba h1
      obtain ⟨a4, h1⟩ := He.ba h1
      obtain ⟨a5, a6⟩ := He.ba h1
      have e1 := of_decide_eq_true a1
      have e2 := of_decide_eq_true a2
      have e3 := of_decide_eq_true a3
      obtain ⟨nm, bs, mro, ns, qn, hd, sn, sub, ab, col, del⟩ := cd
      dsimp only at hm a4 a5
      have e4 : del = false := by
        cases del
        · rfl
        · cases a4
      subst hm e1 e2 e3 e4 a5
      have hsl : sl = #[k0, k1, k2, k3, some (.builtin "ValueError.__new__"), k5] := by
        obtain ⟨l⟩ := sl
        simp only at hs
        rw [hs]
      subst hsl
      exact ⟨nm, qn, ns, bs, bm, sn, sub, ab, col, dd, k0, k1, k2, k3, k5, ho, a6⟩
    · cases h1
  · cases h1
/-- what isinstance(e, ..) looks at -/
def ecB (K : PySem.W.Frag) (C : Addr) : Bool := He.eqO (PySem.W.findIn K (.ref C) "__getattribute__") (some (some (.builtin "BaseException.__getattribute__"))) && (He.eqO (PySem.W.findIn K (.ref C) "__getattr__") (some none) && (isB (PySem.W.subIn K (.ref C) (.type "BaseException")) (some true) && (PySem.W.hasDictIn K C &&
  (He.eqO (PySem.W.findIn K (.ref C) "__class__") (some (some (.builtin "object.__class__"))) && (He.eqO (PySem.W.specialIn K (.builtin "object.__class__") "__get__") (some (some (.builtin "getset_descriptor.__get__"))) && (isB (PySem.W.takesIn K (.builtin "object.__class__")) (some true) && isB (PySem.W.mroIn K C (.type "object")) (some true)))))))
theorem ecB_ok {C : Addr} (h : ecB K C = true) : ExcC K C := by
  obtain ⟨h1, h⟩ := He.ba h
  obtain ⟨h2, h⟩ := He.ba h
  obtain ⟨h3, h⟩ := He.ba h
  obtain ⟨h4, h⟩ := He.ba h
  obtain ⟨h5, h⟩ := He.ba h
  obtain ⟨h6, h⟩ := He.ba h
  obtain ⟨h7, h8⟩ := He.ba h
  exact ⟨He.eqO_ok h1, He.eqO_ok h2, isB_ok h3, h4, He.eqO_ok h5, He.eqO_ok h6, isB_ok h7, isB_ok h8⟩
/-- a class that is read -/
def crB (K : PySem.W.Frag) (C : Addr) : Bool := PySem.W.readsIn K C (.type "type") && He.eqO (PySem.W.specialIn K (.ref C) "__getattribute__") (some (some (.builtin "type.__getattribute__")))
theorem crB_ok {C : Addr} (h : crB K C = true) : ClX.CRead K C (.type "type") := by
  obtain ⟨h1, h2⟩ := He.ba h
  exact ⟨h1, He.eqO_ok h2⟩
def fvB (K : PySem.W.Frag) : Bool := match PySem.W.findCls K (.ref (He.ga K "StepError")) (.type "type") "__init__" with
  | some (.val (.builtin n)) => decide (n = "ValueError.__init__")
  | _ => false
theorem fvB_ok (h : fvB K = true) : PySem.W.findCls K (.ref (He.ga K "StepError")) (.type "type") "__init__" = some (.val (.builtin "ValueError.__init__")) := by
  unfold fvB at h
  split at h
  · rename_i n e
    rw [e, of_decide_eq_true h]
  · cases h
/-- the tables' defs -/
def tfL : List He.Defn := [("is_name", none), ("law", none)]
def tbL (K : PySem.W.Frag) : List Addr := tfL.map fun p => (He.cT K p).2
/-- the rest of the facts, as one Bool -/
def initB (K : PySem.W.Frag) (x : Str) : Bool := oexB K (He.ga K x) && (He.eqO (PySem.W.findIn K (.ref (He.ga K x)) "__init__") (some (some (.ref (He.ma K (He.ga K x) "__init__")))) && decide (PySem.W.typeIn K (.ref (He.ma K (He.ga K x) "__init__")) = some (.type "function")))
/-- an error class without __init__ -/
def erB (K : PySem.W.Frag) (x : Str) : Bool := PySem.W.excIn K (He.ga K x) He.veBase "ValueError.__new__" && (PySem.W.keepIn K (.ref (He.ga K x)) && (isB (PySem.W.subIn K (.ref (He.ga K x)) (.type "BaseException")) (some true) && decide (PySem.W.typeIn K (.ref (He.ga K x)) = some (.type "type"))))
def fldH : List (Str × Str) := [("InvalidRules", "part"), ("InvalidRules", "index"), ("InvalidState", "index"), ("InvalidStates", "index")]
def exL (K : PySem.W.Frag) : List Bool := [
  initB K "InvalidRules",
  initB K "InvalidState",
  initB K "InvalidStates",
  crB K (He.ga K "StepError"),
  fvB K,
  kinds5.all (fun x => ecB K (He.ga K x)),
  kinds5.all (fun x => isB (PySem.W.exmOne K (.ref (He.ga K x)) (.ref (He.ga K "StepError"))) (some true)),
  kinds5.all (fun x => isB (PySem.W.kitOne K (.ref (He.ga K x)) (.type "ValueError")) (some true)),
  kinds5.all (fun x => kinds5.all fun y => isB (PySem.W.kitOne K (.ref (He.ga K x)) (.ref (He.ga K y))) (some (decide (x = y)))),
  kinds5.all (fun x => decide (fldOf x = []) || xfB K (He.ga K x)),
  kinds5.all (fun x => (fldOf x).all fun f => He.eqO (PySem.W.findIn K (.ref (He.ga K x)) f) (some none)),
  erB K "TooManyClauses",
  isB (PySem.W.subIn K (.ref (He.ga K "InvalidStates")) (.type "StopIteration")) (some false),
  isB (PySem.W.subIn K (.ref (He.ga K "InvalidRules")) (.type "StopIteration")) (some false),
  twoN.all (fun x => twoN.all fun y => isB (PySem.W.exmOne K (.ref (He.ga K x)) (.ref (He.ga K y))) (some (decide (x = y)))),
  fldH.all (fun p => He.eqO (PySem.W.findIn K (.ref (He.ga K p.1)) p.2) (some none)),
  He.tupB K "WORDS" [.str "needs", .str "excludes", .str "either"],
  He.eqO (PySem.W.nsIn K mainGlobals "combinations") (some (some (.type "itertools.combinations"))),
  decide ((tbL K).Nodup)]
def exB (K : PySem.W.Frag) : Bool := (exL K).all id
/-- a def of the top, of Rules, of an error -/
def dT (x : Str) (i : Nat) : He5.DefA := ⟨fun K => He.fAd K (x, none), x, x, defArgs (top i), defBody (top i), defScope (top i), [], []⟩
def dR (m q : Str) (j : Nat) : He5.DefA := ⟨fun K => He.ma K (cR K) m, m, q, defArgs (sM j), defBody (sM j), defScope (sM j), [], []⟩
def dE (C q : Str) (i : Nat) : He5.DefA := ⟨fun K => He.ma K (He.ga K C) "__init__", "__init__", q, defArgs (sErr i), defBody (sErr i), defScope (sErr i), [], []⟩
def fnL : List He5.DefA := [
  dT "is_name" 29,
  dT "is_clause" 30,
  dT "fulfils" 35,
  dT "broken_among" 36,
  dE "InvalidRules" "InvalidRules.__init__" 4,
  dE "InvalidState" "InvalidState.__init__" 8,
  dT "check_names" 31,
  dT "check_clauses" 32,
  dT "check_state" 33,
  dR "__init__" "Rules.__init__" 0,
  dT "all_states" 39,
  dT "_law_told" 53,
  dT "_law_dice" 49,
  dT "_law_next" 50,
  dT "_law_like" 51,
  dT "_law_pick" 52,
  dT "_law_names" 54,
  dT "_law_keeps" 55,
  dT "_law_all" 56,
  dE "InvalidStates" "InvalidStates.__init__" 13,
  dT "_check_states" 41,
  dT "_candidates" 42,
  dT "_all_common" 43,
  dT "_needed" 45,
  dT "common_clauses" 44,
  dT "learn_rules" 46,
  dT "closure" 47,
  dT "_law_candidates" 57,
  dT "law" 58]
def defN : List Str := ["is_name", "is_clause", "check_names", "check_clauses", "check_state", "fulfils", "broken_among", "all_states", "_check_states", "_candidates", "_all_common", "common_clauses", "_needed", "learn_rules", "closure", "_law_dice", "_law_next", "_law_like", "_law_pick", "_law_told", "_law_names", "_law_keeps", "_law_all", "_law_candidates"]
def clsN : List Str := ["StepError", "InvalidRules", "InvalidClause", "UnknownClause", "UnknownSwitch", "InvalidState", "IllegalState", "IllegalStep", "NoWay", "NoGoal", "InvalidStates", "TooManyClauses", "DifferentNames", "InvalidOperation", "TooManySwitches", "LastSwitch", "InvalidName", "NotationError", "InvalidCount", "DecodeError", "Rules"]
def gloN : List Str := clsN ++ defN ++ (["WORDS", "law"] : List Str)
def freeN : List Str := ["ValueError", "all", "bool", "classmethod", "enumerate", "int", "isinstance", "len", "list", "property", "range", "reversed", "sorted", "str", "tuple"]
def faL : List He.Fa := [.int "MOST_LETTERS" 8, .int "MOST_NAMES" 10, .int "MOST_CLAUSES" 40, .str "LETTERS" letters, .cls "Rules", .noat "Rules" "_names", .noat "Rules" "_clauses", .mkr "Rules"] ++ gloN.map He.Fa.glo ++ freeN.map He.Fa.free
structure SaysF (h : Heap) (K : PySem.W.Frag) : Prop where
  a : He5.SaysA faL fnL K
  more : exB K = true
  hd : ∀ p ∈ tfL, PySem.W.codeHdIn K (He.cT K p).1 (He.cT K p).2 = true
  out : ∀ p ∈ tfL, K.lookup (He.cT K p).2 = none
  empty : ∀ p ∈ tfL, h.get? (He.cT K p).2 = some { cls := .none, data := .fields #[] }
abbrev AlF : Type := He.AlD × Bool
def obsF (n : Nat) (g : Addr → Option Obj) : AlF := (He5.obsA faL fnL (He.frT g (He5.asA g n)), exB (He.frT g (He5.asA g n)) && He.tabsB g tfL (He.frT g (He5.asA g n)))
def valF : AlF := (He5.valA fnL, true)
theorem saysF_of {n : Nat} {h : Heap} (e : obsF n h.get? = valF) : SaysF h (He.frT h.get? (He5.asA h.get? n)) := by
  have e1 : He5.obsA faL fnL (He.frT h.get? (He5.asA h.get? n)) = He5.valA fnL := congrArg (fun z : AlF => z.1) e
  have e2 : (exB (He.frT h.get? (He5.asA h.get? n)) && He.tabsB h.get? tfL (He.frT h.get? (He5.asA h.get? n))) = true := congrArg (fun z : AlF => z.2) e
  obtain ⟨h1, h2⟩ := He.ba e2
  generalize hK : He.frT h.get? (He5.asA h.get? n) = K at e1 h1 h2
  have key : ∀ p ∈ tfL, PySem.W.codeHdIn K (He.cT K p).1 (He.cT K p).2 = true ∧ ∃ o, h.get? (He.cT K p).2 = some o ∧ He.emptyTab o = true := fun p hp => by
    obtain ⟨h3, h4⟩ := He.ba (List.all_eq_true.mp h2 p hp)
    refine ⟨h3, ?_⟩
    cases q : h.get? (He.cT K p).2 with
    | none =>
      rw [q] at h4
      cases h4
    | some o =>
      rw [q] at h4
      exact ⟨o, rfl, h4⟩
  refine ⟨e1, h1, fun p hp => (key p hp).1, fun p hp => ?_, fun p hp => ?_⟩
  · obtain ⟨_, o, q, z⟩ := key p hp
    have zz : ∀ a, h.get? a = some o → K.lookup a = none := fun a q => by
      rw [← hK]
      exact He.frT_none q z
    exact zz _ q
  · obtain ⟨_, o, q, z⟩ := key p hp
    rw [q, He.emptyTab_eq z]
def hkF : PySem.W.Hook where
  α := AlF
  obs := fun s => obsF 5 s.heap.get?
  val := fun _ => valF
  says := fun _ h => ∃ K : PySem.W.Frag, K.In h ∧ SaysF h K
  of := fun _ _ e => ⟨_, He.frT_in, saysF_of e⟩
  keeps := fun _ _ _ ⟨K, hK, c⟩ k => ⟨K, PySem.W.Frag.In.keeps hK k, ⟨c.a, c.more, c.hd, c.out, fun p hp => k _ _ (c.empty p hp)⟩⟩
def obT (s : PySem.W.SharedT) : AlF := obsF 5 (HandSHeadRun.getT s)
theorem obT_eq (s : PySem.W.SharedT) : obT s = hkF.obs s.abs := by
  have e : HandSHeadRun.getT s = s.abs.heap.get? := funext (HandSHeadRun.getT_eq s)
  unfold obT
  rw [e]
  rfl
end
abbrev RW : PySem.W.OpenRow := PySem.W.OpenLaw.row PySem.Challenge.rw_flagsteps_k53_clauses_learned
abbrev qv : Program := PySem.W.view RW.prog [0, 58]
def looseN : List Str := (["StepError", "InvalidRules", "InvalidClause", "UnknownClause", "UnknownSwitch", "InvalidState", "IllegalState", "IllegalStep", "NoWay", "NoGoal", "InvalidStates", "TooManyClauses", "DifferentNames", "InvalidOperation", "TooManySwitches", "LastSwitch", "InvalidName", "NotationError", "InvalidCount", "DecodeError", "Rules", "_wall", "is_name", "is_clause", "check_names"] : List Str) ++ (["check_clauses", "check_state", "fulfils", "broken_among", "all_states", "_check_states", "_candidates", "_all_common", "common_clauses", "_needed", "learn_rules", "closure", "_law_dice", "_law_next", "_law_like", "_law_pick", "_law_told", "_law_names", "_law_keeps", "_law_all", "_law_candidates", "LETTERS", "WORDS", "MOST_LETTERS", "MOST_NAMES"] : List Str) ++ (["MOST_CLAUSES"] : List Str)
theorem runF (w : World) : HandSHeadRun.RunEqI RW qv hkF obT 12000 looseN w := by
  unfold HandSHeadRun.RunEqI
  kernel_rfl
section
variable {K : PySem.W.Frag} {h : Heap} {mg : Str → Option Value}
theorem SaysF.fa (c : SaysF h K) {f : He.Fa} (hf : f ∈ faL) : f.ok K = true := by
  obtain ⟨i, hi, e⟩ := List.mem_iff_getElem.mp hf
  exact c.a.fact i (f := f) (by rw [List.getElem?_eq_getElem hi, e])
theorem SaysF.glo (c : SaysF h K) (X : K.In h) (G : h.Ns mainGlobals mg) : ∀ x ∈ gloN, mg x = some (.ref (He.ga K x)) := fun x hx =>
  He.glo_ok X G (c.fa (List.mem_append.mpr (.inl (List.mem_append.mpr (.inr (List.mem_map_of_mem hx))))))
theorem SaysF.free (c : SaysF h K) (X : K.In h) (G : h.Ns mainGlobals mg) : ∀ x ∈ freeN, mg x = none := fun x hx =>
  He.free_ok X G (c.fa (List.mem_append.mpr (.inr (List.mem_map_of_mem hx))))
theorem SaysF.ex (c : SaysF h K) (i : Nat) {b : Bool} (e : (exL K)[i]? = some b := by rfl) : b = true := List.all_eq_true.mp c.more b (List.mem_of_getElem? e)
theorem SaysF.dt (c : SaysF h K) (i : Nat) {x : Str} {j : Nat} (e : fnL[i]? = some (dT x j) := by rfl) : ∃ fd, L2.FunD K x x (defArgs (top j)) (defBody (top j)) (defScope (top j)) [] [] (He.ga K x) fd := c.a.def_ i e
theorem SaysF.dr (c : SaysF h K) (i : Nat) {m q : Str} {j : Nat} (e : fnL[i]? = some (dR m q j) := by rfl) : ∃ fd, L2.FunD K m q (defArgs (sM j)) (defBody (sM j)) (defScope (sM j)) [] [] (He.ma K (cR K) m) fd := c.a.def_ i e
theorem SaysF.de (c : SaysF h K) (i : Nat) {C q : Str} {j : Nat} (e : fnL[i]? = some (dE C q j) := by rfl) : ∃ fd, L2.FunD K "__init__" q (defArgs (sErr j)) (defBody (sErr j)) (defScope (sErr j)) [] [] (He.ma K (He.ga K C) "__init__") fd := c.a.def_ i e
theorem code_at {x : Str} {st : Stmt} {fd : FuncData} (F : L2.FunD K x x (defArgs st) (defBody st) (defScope st) [] [] (He.ga K x) fd) : fd.code = .ref (He.cT K (x, none)).1 := by
  obtain ⟨oc, od, dV, kV, doc, pm, an, cdv, ct, osl, e, l, hc, _⟩ := F.ex
  obtain ⟨cc, ec⟩ := He.codeIn_ref hc
  subst e
  have e2 : cdv = .ref cc := ec
  subst e2
  have z : He.codeOf K (x, none) = cc := He.codeOf_eq (p := (x, none)) l rfl
  show Value.ref cc = .ref (He.codeOf K (x, none))
  rw [z]
theorem apart2 {t0 t1 : Addr} {q1 : Str} (h : [t0, t1].Nodup) : Apart [t0] [(t1, q1)] := by
  simp only [List.nodup_cons, List.mem_cons, List.not_mem_nil, or_false, not_false_eq_true, List.nodup_nil, and_true] at h
  refine ⟨fun p hp z => ?_, fun p hp q hq e => ?_⟩
  · have z' := List.mem_singleton.mp z
    rw [List.mem_singleton.mp hp] at z'
    exact h z'.symm
  · rw [List.mem_singleton.mp hp, List.mem_singleton.mp hq]
theorem initB_ok {K : PySem.W.Frag} {x : Str} (h : initB K x = true) : OexC K (He.ga K x) ∧ PySem.W.findIn K (.ref (He.ga K x)) "__init__" = some (some (.ref (He.ma K (He.ga K x) "__init__"))) ∧ PySem.W.typeIn K (.ref (He.ma K (He.ga K x) "__init__")) = some (.type "function") := by
  obtain ⟨h1, h⟩ := He.ba h
  obtain ⟨h2, h3⟩ := He.ba h
  exact ⟨oexB_ok h1, He.eqO_ok h2, of_decide_eq_true h3⟩
theorem tab0 {H : Hp} {P : Addr} (e : H P = some (.tbl #[])) : GxR.TabG H P := ⟨#[], e, trivial⟩
theorem tabS0 {H : Hp} {P : Addr} {q : Str} (e : H P = some (.tbl #[])) : LamX.TabS H P q := ⟨#[], e, trivial, fun _ _ z => by cases z⟩
theorem erB_ok {K : PySem.W.Frag} {x : Str} (h : erB K x = true) : PySem.W.excIn K (He.ga K x) He.veBase "ValueError.__new__" = true ∧ PySem.W.keepIn K (.ref (He.ga K x)) = true ∧ PySem.W.subIn K (.ref (He.ga K x)) (.type "BaseException") = some true ∧ PySem.W.typeIn K (.ref (He.ga K x)) = some (.type "type") := by
  obtain ⟨h1, h⟩ := He.ba h
  obtain ⟨h2, h⟩ := He.ba h
  obtain ⟨h3, h4⟩ := He.ba h
  exact ⟨h1, h2, isB_ok h3, of_decide_eq_true h4⟩
theorem facts (w : World) (X : K.In h) (G : h.Ns mainGlobals mg) {f : Addr} (hfa : mg "law" = some (.ref f)) (c : SaysF h K) : LamX.LawAtS PySem.Challenge.rw_flagsteps_k53_clauses_learned w K CX0 14 63 "_law_script" mg f h := by
  have gg := c.glo X G
  have zz := c.free X G
  obtain ⟨t8, g8⟩ := He.int_ok X G (c.a.fact 0 (f := .int "MOST_LETTERS" 8) rfl)
  obtain ⟨t10, g10⟩ := He.int_ok X G (c.a.fact 1 (f := .int "MOST_NAMES" 10) rfl)
  obtain ⟨t40, g40⟩ := He.int_ok X G (c.a.fact 2 (f := .int "MOST_CLAUSES" 40) rfl)
  obtain ⟨tz, gL⟩ := He.str_ok X G (c.a.fact 3 (f := .str "LETTERS" letters) rfl)
  have kCls := He.cls_ok (c.a.fact 4 (f := .cls "Rules") rfl)
  have kN1 := He.noat_ok (c.a.fact 5 (f := .noat "Rules" "_names") rfl)
  have kN2 := He.noat_ok (c.a.fact 6 (f := .noat "Rules" "_clauses") rfl)
  have kMk := He.mkr_ok (c.a.fact 7 (f := .mkr "Rules") rfl)
  obtain ⟨dxNAM, FxNAM⟩ := c.dt 0 (x := "is_name") (j := 29)
  obtain ⟨dxCLA, FxCLA⟩ := c.dt 1 (x := "is_clause") (j := 30)
  obtain ⟨dxFUL, FxFUL⟩ := c.dt 2 (x := "fulfils") (j := 35)
  obtain ⟨dxAM, FxAM⟩ := c.dt 3 (x := "broken_among") (j := 36)
  obtain ⟨dxER, FxER⟩ := c.de 4 (C := "InvalidRules") (q := "InvalidRules.__init__") (j := 4)
  obtain ⟨dxES, FxES⟩ := c.de 5 (C := "InvalidState") (q := "InvalidState.__init__") (j := 8)
  obtain ⟨dxCHN, FxCHN⟩ := c.dt 6 (x := "check_names") (j := 31)
  obtain ⟨dxCHC, FxCHC⟩ := c.dt 7 (x := "check_clauses") (j := 32)
  obtain ⟨dxCHS, FxCHS⟩ := c.dt 8 (x := "check_state") (j := 33)
  obtain ⟨dxMK, FxMK⟩ := c.dr 9 (m := "__init__") (q := "Rules.__init__") (j := 0)
  obtain ⟨dxALS, FxALS⟩ := c.dt 10 (x := "all_states") (j := 39)
  obtain ⟨dxTO, FxTO⟩ := c.dt 11 (x := "_law_told") (j := 53)
  obtain ⟨dxDI, FxDI⟩ := c.dt 12 (x := "_law_dice") (j := 49)
  obtain ⟨dxNX, FxNX⟩ := c.dt 13 (x := "_law_next") (j := 50)
  obtain ⟨dxLK, FxLK⟩ := c.dt 14 (x := "_law_like") (j := 51)
  obtain ⟨dxPK, FxPK⟩ := c.dt 15 (x := "_law_pick") (j := 52)
  obtain ⟨dxNM, FxNM⟩ := c.dt 16 (x := "_law_names") (j := 54)
  obtain ⟨dxKE, FxKE⟩ := c.dt 17 (x := "_law_keeps") (j := 55)
  obtain ⟨dxLAL, FxLAL⟩ := c.dt 18 (x := "_law_all") (j := 56)
  obtain ⟨dxEIS, FxEIS⟩ := c.de 19 (C := "InvalidStates") (q := "InvalidStates.__init__") (j := 13)
  obtain ⟨dxCST, FxCST⟩ := c.dt 20 (x := "_check_states") (j := 41)
  obtain ⟨dxCA, FxCA⟩ := c.dt 21 (x := "_candidates") (j := 42)
  obtain ⟨dxAC, FxAC⟩ := c.dt 22 (x := "_all_common") (j := 43)
  obtain ⟨dxND, FxND⟩ := c.dt 23 (x := "_needed") (j := 45)
  obtain ⟨dxCC, FxCC⟩ := c.dt 24 (x := "common_clauses") (j := 44)
  obtain ⟨dxLRE, FxLRE⟩ := c.dt 25 (x := "learn_rules") (j := 46)
  obtain ⟨dxCLOE, FxCLOE⟩ := c.dt 26 (x := "closure") (j := 47)
  obtain ⟨dxCAL, FxCAL⟩ := c.dt 27 (x := "_law_candidates") (j := 57)
  obtain ⟨dxLAW, FxLAW⟩ := c.dt 28 (x := "law") (j := 58)
  have FxCHSN := FxCHS
  have FxEISH := FxEIS
  have FxCSTE := FxCST
  have FxACE := FxAC
  have FxCCE := FxCC
  obtain ⟨oER, iER, tER⟩ := initB_ok (c.ex 0)
  obtain ⟨oES, iES, tES⟩ := initB_ok (c.ex 1)
  obtain ⟨oEIS, iEIS, tEIS⟩ := initB_ok (c.ex 2)
  have cS := crB_ok (c.ex 3)
  have fv := fvB_ok (c.ex 4)
  have tec := List.all_eq_true.mp (c.ex 5)
  have txm := List.all_eq_true.mp (c.ex 6)
  have tkv := List.all_eq_true.mp (c.ex 7)
  have tkt := List.all_eq_true.mp (c.ex 8)
  have txf := List.all_eq_true.mp (c.ex 9)
  have tnf := List.all_eq_true.mp (c.ex 10)
  obtain ⟨ETM1, ETM2, ETM3, ETM4⟩ := erB_ok (c.ex 11)
  have e14 := List.all_eq_true.mp (c.ex 15)
  have hW := He.tupB_ok (c.ex 16)
  have mC : mg "combinations" = some (.type "itertools.combinations") := PySem.W.mg_of X G (He.eqO_ok (c.ex 17))
  have nd : (tbL K).Nodup := of_decide_eq_true (c.ex 18)
  have nf : ∀ p ∈ fldH, PySem.W.findIn K (.ref (He.ga K p.1)) p.2 = some none := fun p hp => He.eqO_ok (e14 p hp)
  have sIS : PySem.W.subIn K (.ref (He.ga K "InvalidStates")) (.type "StopIteration") = some false := isB_ok (c.ex 12)
  have sIR : PySem.W.subIn K (.ref (He.ga K "InvalidRules")) (.type "StopIteration") = some false := isB_ok (c.ex 13)
  have eEM := List.all_eq_true.mp (c.ex 14)
  have hf : f = He.ga K "law" := by
    have z := gg "law" (by decide +kernel)
    rw [hfa] at z
    injection z with z
    injection z
  subst hf
  refine ⟨dxLAW, tfL.map (He.cT K), spLaw K [(He.cT K ("is_name", none)).2] [((He.cT K ("law", none)).2, lamQ "law")], fun p hp => ?_, fun p hp => ?_, fun p hp => ?_, fun s u => ?_, fun H a ns hl _ ht hS => ?_, fun base Xb Gb TB => ?_⟩
  · obtain ⟨q, hq, e⟩ := List.mem_map.mp hp
    rw [← e]
    exact c.empty q hq
  · obtain ⟨q, hq, e⟩ := List.mem_map.mp hp
    rw [← e]
    exact c.out q hq
  · obtain ⟨q, hq, e⟩ := List.mem_map.mp hp
    rw [← e]
    exact PySem.W.codeHd_of_K X (c.hd q hq)
  · exact FxLAW.bindsA (ps := ["_law_script"]) (fun _ _ _ _ _ _ us hl => match us, hl with | [_], _ => rfl) s [u] rfl
  · have tt : ∀ x, (x, none) ∈ tfL → H (He.cT K (x, none)).2 = some (.tbl #[]) := fun x hx => ht _ (List.mem_map_of_mem hx)
    refine ⟨a, ns, rfl, hl, hS, ⟨fun p hp => ?_, fun p hp => ?_⟩, fun _ => rfl⟩
    · rw [List.mem_singleton.mp hp]
      exact tab0 (tt _ (by decide +kernel))
    · rw [List.mem_singleton.mp hp]
      exact tabS0 (tt "law" (by decide +kernel))
  · have tb : ∀ x, (x, none) ∈ tfL → LamX.TabB base mg (He.cT K (x, none)).1 (He.cT K (x, none)).2 := fun x hx => TB _ (List.mem_map_of_mem hx)
    have tNam := tb "is_name" (by decide +kernel)
    have tLaw := tb "law" (by decide +kernel)
    have AP : Apart [(He.cT K ("is_name", none)).2] [((He.cT K ("law", none)).2, lamQ "law")] := apart2 nd
    have cNam := code_at FxNAM
    have cLaw := code_at FxLAW
    generalize hG : [(He.cT K ("is_name", none)).2] = GG at AP ⊢
    have hPN : (He.cT K ("is_name", none)).2 ∈ GG := by rw [← hG]; exact List.mem_singleton_self _
    generalize hLL : [((He.cT K ("law", none)).2, lamQ "law")] = LL at AP ⊢
    have hP3 : ((He.cT K ("law", none)).2, lamQ "law") ∈ LL := by rw [← hLL]; exact List.mem_singleton_self _
    clear hG hLL TB tb
    have zVE := zz "ValueError" (by decide +kernel)
    have zA := zz "all" (by decide +kernel)
    have zB := zz "bool" (by decide +kernel)
    have zE := zz "enumerate" (by decide +kernel)
    have zi := zz "int" (by decide +kernel)
    have zI := zz "isinstance" (by decide +kernel)
    have zL := zz "len" (by decide +kernel)
    have zl := zz "list" (by decide +kernel)
    have zR := zz "range" (by decide +kernel)
    have zV := zz "reversed" (by decide +kernel)
    have zS := zz "sorted" (by decide +kernel)
    have zs := zz "str" (by decide +kernel)
    have zT := zz "tuple" (by decide +kernel)
    have BC : BaseC K mg (He.ga K "StepError") := ⟨gg _ (by decide +kernel), cS, fv⟩
    have ETM : Er0 K mg "TooManyClauses" := ⟨ETM1, gg _ (by decide +kernel), ETM2, ETM3, ETM4⟩
    have kg2 : ∀ x ∈ twoN, x ∈ gloN := by decide +kernel
    have EREC : Ec2 K mg := ⟨fun x hx => gg x (kg2 x hx), fun x hx y hy => isB_ok (List.all_eq_true.mp (eEM x hx) y hy)⟩
    have NAM : Fd CX0 PG0 w K mg base "is_name" 1 (spIsName K GG LL) := ⟨_, _, _, gg _ (by decide +kernel), FxNAM.kp, ok_isName (He5.fun_of FxNAM) cNam ⟨tNam.code, tNam.bm, tNam.gP⟩ hPN AP zI zs zL zA gL g8, FxNAM.bindsN fun _ _ _ _ _ _ us hl => match us, hl with | [_], _ => rfl⟩
    have CLA : Fd CX0 PG0 w K mg base "is_clause" 1 (spIsClause K) := ⟨_, _, _, gg _ (by decide +kernel), FxCLA.kp, ok_isClause (He5.fun_of FxCLA) zI zT zL (gg "WORDS" (by decide +kernel)) hW, FxCLA.bindsN fun _ _ _ _ _ _ us hl => match us, hl with | [_, _], _ => rfl⟩
    have FUL : Fd CX0 PG0 w K mg base "fulfils" 1 (spFul K) := ⟨_, _, _, gg _ (by decide +kernel), FxFUL.kp, ok_fulfils (He5.fun_of FxFUL), FxFUL.bindsN fun _ _ _ _ _ _ us hl => match us, hl with | [_, _], _ => rfl⟩
    have AM : Fd CX0 PG0 w K mg base "broken_among" 2 (spAmong K GG LL) := ⟨_, _, _, gg _ (by decide +kernel), FxAM.kp, ok_among (He5.fun_of FxAM) zE FUL, FxAM.bindsN fun _ _ _ _ _ _ us hl => match us, hl with | [_, _], _ => rfl⟩
    have ER : Err PG0 w K mg base "InvalidRules" (spIR K (He.ga K "InvalidRules")) := ⟨oER, gg _ (by decide +kernel), _, _, _, iER, tER, ok_IR (He5.fun_of FxER) BC oER (nf ("InvalidRules", "part") (by decide +kernel)) (nf ("InvalidRules", "index") (by decide +kernel)), FxER.bindsN fun _ _ _ _ _ _ us hl => match us, hl with | [_, _, _], _ => rfl⟩
    have ES : Err PG0 w K mg base "InvalidState" (spIS K (He.ga K "InvalidState")) := ⟨oES, gg _ (by decide +kernel), _, _, _, iES, tES, ok_IS (He5.fun_of FxES) BC oES (nf ("InvalidState", "index") (by decide +kernel)), FxES.bindsN fun _ _ _ _ _ _ us hl => match us, hl with | [_, _], _ => rfl⟩
    have CHN : Fd (L2.CX PG0 w) PG0 w K mg base "check_names" 3 (spChkNames K GG LL) := ⟨_, _, _, gg _ (by decide +kernel), FxCHN.kp, ok_chkNames (He5.fun_of FxCHN) zI zT zL zE g10 ER NAM, FxCHN.bindsN fun _ _ _ _ _ _ us hl => match us, hl with | [_], _ => rfl⟩
    have CHC : Fd (L2.CX PG0 w) PG0 w K mg base "check_clauses" 3 (spChkClauses K GG LL) := ⟨_, _, _, gg _ (by decide +kernel), FxCHC.kp, ok_chkClauses (He5.fun_of FxCHC) zI zT zE g40 ER CLA, FxCHC.bindsN fun _ _ _ _ _ _ us hl => match us, hl with | [_, _], _ => rfl⟩
    have CHS : Fd (L2.CX PG0 w) PG0 w K mg base "check_state" 3 (spChkState K GG LL) := ⟨_, _, _, gg _ (by decide +kernel), FxCHS.kp, ok_chkState (He5.fun_of FxCHS) zI zT zE ES, FxCHS.bindsN fun _ _ _ _ _ _ us hl => match us, hl with | [_, _], _ => rfl⟩
    have RC : RulC K mg := ⟨kCls, kN1, kN2, gg _ (by decide +kernel)⟩
    have MK : Mkr PG0 w K mg base GG LL := ⟨RC, _, _, _, kMk, ok_init (He5.fun_of FxMK) RC CHN CHC, FxMK.bindsN fun _ _ _ _ _ _ us hl => match us, hl with | [_, _, _], _ => rfl⟩
    have ALS : Fd CX0 PG0 w K mg base "all_states" 1 (spAllStates K GG LL) := ⟨_, _, _, gg _ (by decide +kernel), FxALS.kp, ok_allStates (He5.fun_of FxALS) zl zR zL mC, FxALS.bindsN fun _ _ _ _ _ _ us hl => match us, hl with | [_], _ => rfl⟩
    have kg5 : ∀ x ∈ kinds5, x ∈ gloN := by decide +kernel
    have TZ0 : Rz5 K mg := ⟨zI, zVE, gg _ (by decide +kernel), fun x hx => gg x (kg5 x hx), fun x hx => ecB_ok (tec x hx), fun x hx => isB_ok (txm x hx), fun x hx => isB_ok (tkv x hx), fun x hx y hy => isB_ok (List.all_eq_true.mp (tkt x hx) y hy), fun x hx hne => xfB_ok (by have z := txf x hx; rw [decide_eq_false hne, Bool.false_or] at z; exact z), fun x hx f hf => He.eqO_ok (List.all_eq_true.mp (tnf x hx) f hf)⟩
    have TO : TzD K mg := ⟨TZ0, _, _, (He5.fun_of FxTO), gg _ (by decide +kernel), FxTO.bindsN fun _ _ _ _ _ _ us hl => match us, hl with | [_], _ => rfl⟩
    have DI : Fd CX0 PG0 w K mg base "_law_dice" 1 (spDice K GG LL) := ⟨_, _, _, gg _ (by decide +kernel), FxDI.kp, ok_dice (He5.fun_of FxDI) zi zL, FxDI.bindsN fun _ _ _ _ _ _ us hl => match us, hl with | [_], _ => rfl⟩
    have NX : Fd CX0 PG0 w K mg base "_law_next" 1 (spTaken K GG LL) := ⟨_, _, _, gg _ (by decide +kernel), FxNX.kp, ok_next (He5.fun_of FxNX) zi zL, FxNX.bindsN fun _ _ _ _ _ _ us hl => match us, hl with | [_, _], _ => rfl⟩
    have bLK : Binds K dxLK ["_law_found", "_law_due"] [] := FxLK.bindsN fun _ _ _ _ _ _ us hl => match us, hl with | [_, _], _ => rfl
    have LK : Fd CX0 PG0 w K mg base "_law_like" 5 (spAlike K GG LL 4) := ⟨_, _, _, gg _ (by decide +kernel), FxLK.kp, ok_like (He5.fun_of FxLK) (gg _ (by decide +kernel)) bLK zI zT zl zL zR zB zi zs 4, bLK⟩
    have PK : Fd CX0 PG0 w K mg base "_law_pick" 2 (spPick K GG LL) := ⟨_, _, _, gg _ (by decide +kernel), FxPK.kp, ok_pick (He5.fun_of FxPK) zL NX, FxPK.bindsN fun _ _ _ _ _ _ us hl => match us, hl with | [_, _], _ => rfl⟩
    have NM : Fd CX0 PG0 w K mg base "_law_names" 2 (spNames K GG LL) := ⟨_, _, _, gg _ (by decide +kernel), FxNM.kp, ok_names5 (He5.fun_of FxNM) zR zT NX, FxNM.bindsN fun _ _ _ _ _ _ us hl => match us, hl with | [_, _], _ => rfl⟩
    have KE : Fd CX0 PG0 w K mg base "_law_keeps" 1 (spKeeps K) := ⟨_, _, _, gg _ (by decide +kernel), FxKE.kp, ok_keeps (He5.fun_of FxKE), FxKE.bindsN fun _ _ _ _ _ _ us hl => match us, hl with | [_, _], _ => rfl⟩
    have LAL : Fd CX0 PG0 w K mg base "_law_all" 1 (spAll5 K GG LL) := ⟨_, _, _, gg _ (by decide +kernel), FxLAL.kp, ok_all5 (He5.fun_of FxLAL) zL zR zS, FxLAL.bindsN fun _ _ _ _ _ _ us hl => match us, hl with | [_], _ => rfl⟩
    have EIS : Err PG0 w K mg base "InvalidStates" (spIS K (He.ga K "InvalidStates")) := ⟨oEIS, gg _ (by decide +kernel), _, _, _, iEIS, tEIS, ok_ISs (He5.fun_of FxEIS) BC oEIS (nf ("InvalidStates", "index") (by decide +kernel)), FxEIS.bindsN fun _ _ _ _ _ _ us hl => match us, hl with | [_, _], _ => rfl⟩
    have CST : Fd (L2.CX PG0 w) PG0 w K mg base "_check_states" 4 (spChkStates K GG LL) := ⟨_, _, _, gg _ (by decide +kernel), FxCST.kp, ok_chkStates (He5.fun_of FxCST) zI zl zL zE CHS EIS, FxCST.bindsN fun _ _ _ _ _ _ us hl => match us, hl with | [_, _], _ => rfl⟩
    have CA : Fd CX0 PG0 w K mg base "_candidates" 1 (spCand K GG LL) := ⟨_, _, _, gg _ (by decide +kernel), FxCA.kp, ok_cand (He5.fun_of FxCA) zE, FxCA.bindsN fun _ _ _ _ _ _ us hl => match us, hl with | [_], _ => rfl⟩
    have AC : Fd (L2.CX PG0 w) PG0 w K mg base "_all_common" 5 (spAllCommon K GG LL) := ⟨_, _, _, gg _ (by decide +kernel), FxAC.kp, ok_allCommon (He5.fun_of FxAC) zA CHN CST CA FUL, FxAC.bindsN fun _ _ _ _ _ _ us hl => match us, hl with | [_, _], _ => rfl⟩
    have ND : Fd CX0 PG0 w K mg base "_needed" 4 (spNeeded K GG LL) := ⟨_, _, _, gg _ (by decide +kernel), FxND.kp, ok_needed (He5.fun_of FxND) zl zV zR zL ALS AM, FxND.bindsN fun _ _ _ _ _ _ us hl => match us, hl with | [_, _], _ => rfl⟩
    have CC : Gd PG0 w K mg base "common_clauses" 7 (spCommon K GG LL) := ⟨_, _, _, gg _ (by decide +kernel), FxCC.kp, ok_common (He5.fun_of FxCC) AC, FxCC.bindsN fun _ _ _ _ _ _ us hl => match us, hl with | [_, _], _ => rfl⟩
    have CHSN : Fd (L2N.CX PG0 w) PG0 w K mg base "check_state" 3 (spChkState K GG LL) := ⟨_, _, _, gg _ (by decide +kernel), FxCHSN.kp, ok_chkStateN (He5.fun_of FxCHSN) zI zT zE ES, FxCHSN.bindsN fun _ _ _ _ _ _ us hl => match us, hl with | [_, _], _ => rfl⟩
    have EISH : ErrH PG0 w K mg base "InvalidStates" (spIS K (He.ga K "InvalidStates")) := ⟨oEIS, gg _ (by decide +kernel), _, _, _, iEIS, tEIS, ok_ISsH (He5.fun_of FxEISH) BC oEIS (nf ("InvalidStates", "index") (by decide +kernel)), FxEISH.bindsN fun _ _ _ _ _ _ us hl => match us, hl with | [_, _], _ => rfl⟩
    have CSTE : Fd (L2.CX PG0 w) PG0 w K mg base "_check_states" 4 (spChkSs K GG LL) := ⟨_, _, _, gg _ (by decide +kernel), FxCSTE.kp, ok_chkSs (He5.fun_of FxCSTE) zI zl zL zE CHSN EIS EISH EREC, FxCSTE.bindsN fun _ _ _ _ _ _ us hl => match us, hl with | [_, _], _ => rfl⟩
    have ACE : Fd (L2.CX PG0 w) PG0 w K mg base "_all_common" 5 (spRefused K GG LL) := ⟨_, _, _, gg _ (by decide +kernel), FxACE.kp, ok_allCommonE (He5.fun_of FxACE) zA CHN CSTE CA FUL, FxACE.bindsN fun _ _ _ _ _ _ us hl => match us, hl with | [_, _], _ => rfl⟩
    have LRE : Fd (L2.CX PG0 w) PG0 w K mg base "learn_rules" 6 (spRefused K GG LL) := ⟨_, _, _, gg _ (by decide +kernel), FxLRE.kp, ok_learnE (He5.fun_of FxLRE) zL zT g40 ACE ND MK ETM, FxLRE.bindsN fun _ _ _ _ _ _ us hl => match us, hl with | [_, _], _ => rfl⟩
    have CCE : Gd PG0 w K mg base "common_clauses" 7 (spGRefused K GG LL) := ⟨_, _, _, gg _ (by decide +kernel), FxCCE.kp, ok_commonE (He5.fun_of FxCCE) ACE, FxCCE.bindsN fun _ _ _ _ _ _ us hl => match us, hl with | [_, _], _ => rfl⟩
    have CLOE : Gd PG0 w K mg base "closure" 7 (spGRefused K GG LL) := ⟨_, _, _, gg _ (by decide +kernel), FxCLOE.kp, ok_closureE (He5.fun_of FxCLOE) ACE ALS AM, FxCLOE.bindsN fun _ _ _ _ _ _ us hl => match us, hl with | [_, _], _ => rfl⟩
    have CAL : Fd CX0 PG0 w K mg base "_law_candidates" 1 (spCand K GG LL) := ⟨_, _, _, gg _ (by decide +kernel), FxCAL.kp, ok_candL (He5.fun_of FxCAL) zR zL, FxCAL.bindsN fun _ _ _ _ _ _ us hl => match us, hl with | [_], _ => rfl⟩
    exact ok_law (He5.fun_of FxLAW) cLaw tLaw hP3 AP zL zT zR zl zi DI NX PK NM LAL LK KE CAL CC CCE CLOE LRE TO sIS sIR
end
end FS
set_option maxHeartbeats 0
open PySem PySem.W PySem.Calls PyProof.Rows
theorem PySem.Challenge.cw_flagsteps_k53_clauses_learned_holds : PySem.Challenge.rw_flagsteps_k53_clauses_learned.Holds := by
  w_on; o_law
  refine HandSHeadRun.head_imp (r := OpenLaw.row PySem.Challenge.rw_flagsteps_k53_clauses_learned) (q := FS.qv) (H := FS.hkF) (ob := FS.obT) (M := 12000) (loose := FS.looseN) (d := HandSHeadRun.topDef (OpenLaw.row PySem.Challenge.rw_flagsteps_k53_clauses_learned).prog 58) (kwd := []) FS.obT_eq
    FS.runF (by kernel_rfl) (by kernel_rfl) (by kernel_rfl) (by rfl) (by first | assumption | decide +kernel) (by decide +kernel) ⟨rfl, rfl, rfl, rfl, rfl, by decide +kernel⟩ ?hw ?hc
  case hw => w_witness2
  case hc =>
    refine LamX.walk_ofTsE (l := PySem.Challenge.rw_flagsteps_k53_clauses_learned) (n := 63) (k := 14) (x := "_law_script") (CX := fun _ => L2.CX0) rfl (by decide) (by kernel_rfl) ⟨rfl, by decide, by decide⟩ ?F (fun _ _ _ _ _ z => z)
    intro w mg fa h Y G hmg0
    obtain ⟨K, KX, c⟩ := Y
    have hmg : mg ("law" : PySem.Str) = some (.ref fa) := by
      have e : (HandSHeadRun.topDef (OpenLaw.row PySem.Challenge.rw_flagsteps_k53_clauses_learned).prog 58).name = ("law" : PySem.Str) := by kernel_rfl
      rw [← e]
      exact hmg0
    exact ⟨K, KX, FS.facts w KX G hmg c⟩

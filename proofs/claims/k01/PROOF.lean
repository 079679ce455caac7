import PyProof.Rows.All
import Wide.All
import OpenK.AllK
import Wide.FinOn
import KE.KStateDown
import KE.KNestM
import HandS.ForMost
import HandS.TupAny
import HandS.Strs
import HandS.Walk
import HandS.Deep
import HandS.Lambda
import HandS.AnyAll
import KE.GoesEnum
import HandS.SetFor
import HandS.IsInst
import HandS.Exc
import HandS.TryOnly
import HandS.ExcOwn
import HandS.WordsExc
import HandS.Conv
import PyProof.ListStr
import HandS.ExcInit
import HandS.ExcIs
import HandS.ExcField
import HandS.ClsMeth
import HandS.Property
import HandS.Star
import HandS.Style
import HandS.TupMul
import HandS.FStr
import HandS.HeadNt
import HandS.HeadHook4
import HandS.HeadWalk
import HandS.HeadEnd
import HandS.Head0
import HandS.Head1
import HandS.Head2
import PySem.Challenge.RW_flagsteps_k01_invalid_rules_and_states
set_option Elab.async false
set_option linter.all false
set_option maxRecDepth 100000
set_option maxHeartbeats 2000000
/-! tuples of which it is known that they bear no dict: methods may be called on them. -/
namespace FS
open PySem PySem.Spec PyProof.Rows L2
/-- at a: a plain tuple of xs -/
def NT (H : Hp) (a : Addr) (xs : List V) : Prop := ∃ o : Obj, H a = some (.frz o (.tup xs)) ∧ o.cls = .type "tuple" ∧ o.dict = none
theorem NT.seq {K : PySem.W.Frag} {H : Hp} {a : Addr} {xs : List V} (h : NT H a xs) : SqT K H a xs := by
  obtain ⟨o, e, _⟩ := h
  exact .inl (.inr ⟨o, e⟩)
section
variable {X : Cx}
/-- tuple(list) -/
theorem call_tupleD : CallR X (.type "tuple") (fun xs H Q => ∃ p ys, xs = [.ref p] ∧ SqL X.K H p ys ∧ ∀ l o, H l = none → o.cls = .type "tuple" → o.dict = none → Q (.ref l) (upd H l (.frz o (.tup ys)))) := by
  intro pins s σ H xs us Q I r ⟨p, ys, ev, hq, q⟩
  subst ev
  obtain ⟨u, eu, rx⟩ := vals1 r
  subst eu
  cases rx
  obtain ⟨its, r', pl, hz⟩ := I.list hq
  have hlen := r'.length
  refine call_tuple_list pl.isList (fun h' kp => ?_) (by simp only [List.size_toArray] <;> omega)
  have I1 : Inv X pins σ H { s with heap := h' } := I.kept (t' := s.toks) kp
  have new : ObjOk X.prog X.w (upd H h'.objs.size (.frz ({ cls := .type "tuple", data := .seq its.toArray } : Obj) (.tup ys))) (h'.push { cls := .type "tuple", data := .seq its.toArray }) h'.objs.size (.frz ({ cls := .type "tuple", data := .seq its.toArray } : Obj) (.tup ys)) :=
    ⟨Heap.get?_push_size _ rfl, hz, its, r', IsTup.new _ _⟩
  have I2 := I1.laid (t' := s.toks) (fun b o e => Heap.get?_push_of_some _ e) (Nat.le_refl _) new
  exact ⟨.ref h'.objs.size, _, I2, rfl, q _ _ (I1.hok.fresh (Nat.le_refl _)) rfl rfl⟩
/-- t[lo:hi] of such a one -/
def rSlD : V → Option Int → Option Int → Hp → VK → Prop := fun x lo hi H Q => ∃ a xs, x = .ref a ∧ NT H a xs ∧
  (cutV xs lo hi = xs → Q (.ref a) H) ∧ (∀ p o, H p = none → o.cls = .type "tuple" → o.dict = none → Q (.ref p) (upd H p (.frz o (.tup (cutV xs lo hi)))))
theorem sl_tupD : SlR X rSlD := by
  intro pins s σ H x v vl vu lo hi sl Q I rx hs pl pu ⟨a, xs, ev, hx, q1, q2⟩
  subst ev
  cases rx
  obtain ⟨its, r, ht, hz⟩ := I.tuple (hx.seq (K := X.K))
  have hlen : its.toArray.size = xs.length := by rw [List.size_toArray]; exact r.length.symm
  refine ⟨"tuple", _, PyProof.Rows.slot_tuple_getitem.lookup, ht.typeIs, ?_⟩
  by_cases hw : HT.sIx xs.length 0 lo = 0 ∧ HT.sIx xs.length xs.length hi = xs.length
  · refine getItem_tuple_whole ht hs pl pu (by rw [hlen]; exact hw) ⟨.ref a, H, I, rfl, q1 ?_⟩
    unfold cutV
    rw [hw.1, hw.2]
    simp
  · refine HT.getItem_tuple_cut ht hs pl pu (by rw [hlen]; exact hw) ?_ (by rw [hlen]; exact hz)
    rw [hlen]
    refine ⟨.ref s.heap.objs.size, _, I.laid (t' := s.toks) (o := .frz ({ cls := .type "tuple", data := .seq (List.take (HT.sIx xs.length xs.length hi - HT.sIx xs.length 0 lo) (List.drop (HT.sIx xs.length 0 lo) its.toArray.toList)).toArray } : Obj) (.tup (cutV xs lo hi))) (fun b ob q => Heap.get?_push_of_some _ q) (Nat.le_refl _) ?_, rfl, q2 _ _ (I.hok.fresh (Nat.le_refl _)) rfl rfl⟩
    exact ⟨Heap.get?_push_size _ rfl, Nat.le_trans (cutV_length xs lo hi) hz, _, (r.drop (HT.sIx xs.length 0 lo)).take (HT.sIx xs.length xs.length hi - HT.sIx xs.length 0 lo), IsTup.new _ _⟩
/-- t.m(e, ..) -/
def tTM (r : V → List V → Hp → VK → Prop) (to : TE) (t : TA) : TE := fun σ H Q => to σ H fun x H1 => (∃ a xs, x = .ref a ∧ NT H1 a xs) ∧ t σ H1 fun xs H2 => r x xs H2 Q
variable {o e : Expr} {es : List Expr} {to : TE} {t : TA} {name : Str} {apos cpos : Pos} {id : String} {r : V → List V → Hp → VK → Prop}
theorem pe_tm (pa : PlainAttrs "tuple") (slot : Slot "tuple" name id) (hty : typeOf (.builtin id) = pure (.type "method_descriptor")) (hm : MtR X id r) (ho : PE X o to) (ha : PA X (e :: es) t)
    (hbase : attributeBase o name X.env (eval o X.env) = eval o X.env := by rfl)
    (hfew : ((backTo cpos (starEach (e :: es) X.env)).all (fun x => !x.1) && (backToKw cpos (keywordEach [] X.env)).all (fun x => x.1.isSome)
      && decide ((e :: es).length + ([] : List Keyword).length + (if ([] : List Keyword).isEmpty then 0 else 1) < 30)) = true := by rfl)
    (hline : (apos.endLine == cpos.line) = true := by rfl) (hs : starEach (e :: es) X.env = (false, eval e X.env) :: starEach es X.env := by rfl) (hpl : (backTo cpos (starEach es X.env)).any (·.1) = false := by rfl) :
    PE X (.Call (.Attribute o name apos) (e :: es) [] cpos) (tTM r to t) := by
  refine ⟨fun pins s σ H Q I h => ?_⟩
  refine wpAny_Call_method_late hbase hfew hline rfl (thn (ho.run pins s σ H _ I h) fun v s1 ⟨x, H1, I1, r1, ⟨a, xs, ea, ob, hob, hc, hd⟩, q1⟩ => ?_)
  subst ea
  cases r1
  obtain ⟨hget, _⟩ := (show ObjOk X.prog X.w H1 s1.heap a (.frz ob (.tup xs)) from I1.hok a _ hob)
  refine ⟨"tuple", id, pa, slot, hty, ⟨ob, hget, hc⟩, fun b eb => ?_, ?_⟩
  · cases eb
    exact ⟨ob, hget, hd⟩
  · have hA := ha.run cpos pins s1 σ H1 _ I1 q1
    rw [hs] at hA ⊢
    refine Calls.callWith_builtin (by show (false || (backTo cpos (starEach es X.env)).any (·.1)) = false; rw [hpl] <;> rfl) (Calls.evalArgs_plain ?_)
    exact thn hA fun us s2 ⟨vs, H2, I2, r2, q2⟩ => hm pins s2 σ H2 (.ref a) vs _ us Q I2 rfl r2 q2
end
end FS
set_option maxHeartbeats 2000000
/-! what stands through a call; data that never change; readings, step by step. -/
namespace FS
open PySem PySem.Spec PyProof.Rows L2 LamX GxR
/-! ### what stands -/
/-- all but lists and tables -/
def KT (H H' : Hp) : Prop := ∀ b o, (∀ xs, o ≠ .lst xs) → (∀ ps, o ≠ .tbl ps) → H b = some o → H' b = some o
theorem KT.refl (H : Hp) : KT H H := fun _ _ _ _ e => e
theorem KT.trans {H H1 H2 : Hp} (a : KT H H1) (b : KT H1 H2) : KT H H2 := fun c o h1 h2 e => b c o h1 h2 (a c o h1 h2 e)
/-- all but r and tables -/
def Ev (r : Addr) (H H' : Hp) : Prop := ∀ b o, b ≠ r → (∀ ps, o ≠ .tbl ps) → H b = some o → H' b = some o
theorem Ev.refl {r : Addr} (H : Hp) : Ev r H H := fun _ _ _ _ e => e
theorem Ev.trans {r : Addr} {H H1 H2 : Hp} (a : Ev r H H1) (b : Ev r H1 H2) : Ev r H H2 := fun c o h1 h2 e => b c o h1 h2 (a c o h1 h2 e)
theorem ev_of {r : Addr} {H H' : Hp} (e : ExtN H H') : Ev r H H' := fun b o _ n h => e b o h n
theorem kt_of {H H' : Hp} (e : ExtN H H') : KT H H' := fun b o _ n h => e b o h n
theorem Ev.kt {r : Addr} {H H' : Hp} {xs : List V} (e : Ev r H H') (hr : H r = some (.lst xs)) : KT H H' := fun b o n1 n2 h => e b o (fun z => by rw [z, hr] at h; exact n1 xs (Option.some.inj h).symm) n2 h
/-- the tables: those of generator expressions, those of lambdas -/
def TBS (G : List Addr) (L : List (Addr × Str)) (H : Hp) : Prop := (∀ p ∈ G, TabG H p) ∧ ∀ p ∈ L, TabS H p.1 p.2
structure Apart (G : List Addr) (L : List (Addr × Str)) : Prop where
  gl : ∀ p ∈ L, p.1 ∉ G
  ll : ∀ p ∈ L, ∀ q ∈ L, p.1 = q.1 → p = q
section
variable {G : List Addr} {L : List (Addr × Str)} {H H' H1 H2 : Hp} {r : Addr}
theorem tabG_keep {P : Addr} (t : TabG H P) (k : ∀ o, H P = some o → H' P = some o) : TabG H' P := by
  obtain ⟨ps, e, ok⟩ := t
  exact ⟨ps, k _ e, ok⟩
theorem tabS_keep {P : Addr} {q : Str} (t : TabS H P q) (k : ∀ o, H P = some o → H' P = some o) (kc : ∀ c, H c = some (CodeO c q) → H' c = some (CodeO c q)) : TabS H' P q := by
  obtain ⟨ps, e, ok, cs⟩ := t
  refine ⟨ps, k _ e, ok, fun pos cv h => ?_⟩
  obtain ⟨c, e1, e2⟩ := cs pos cv h
  exact ⟨c, e1, kc c e2⟩
theorem code_lst {c : Addr} {q : Str} {xs : List V} : CodeO c q ≠ .lst xs := fun z => by
  have z' : HO.ext _ = HO.lst xs := z
  cases z'
/-- a call that changes nothing but tables -/
def Go (G : List Addr) (L : List (Addr × Str)) (H H' : Hp) : Prop := ExtN H H' ∧ (TBS G L H → TBS G L H')
theorem Go.refl (H : Hp) : Go G L H H := ⟨ExtN.refl H, id⟩
theorem Go.trans (a : Go G L H H1) (b : Go G L H1 H2) : Go G L H H2 := ⟨a.1.trans b.1, fun t => b.2 (a.2 t)⟩
theorem Go.same (e : ∀ b o, H b = some o → H' b = some o) : Go G L H H' :=
  ⟨fun b o h _ => e b o h, fun t => ⟨fun p hp => tabG_keep (t.1 p hp) (e p), fun p hp => tabS_keep (t.2 p hp) (e _) fun c => e c _⟩⟩
theorem Go.new {p : Addr} {o : HO} (n : H p = none) : Go G L H (upd H p o) := Go.same fun b u e => by rw [upd_ne (ne_of_none e n)]; exact e
theorem Go.tabbed {P : Addr} (A : Apart G L) (hP : P ∈ G) (t : TBS G L H) (e : Tabbed P H H') : Go G L H H' := by
  obtain ⟨ps, hps, _⟩ := t.1 P hP
  have k : ∀ b o, b ≠ P → H b = some o → H' b = some o := fun b o n h => (e.2 b n).trans h
  have nP : ∀ b o, (∀ q, o ≠ .tbl q) → H b = some o → b ≠ P := fun b o n h z => by
    rw [z, hps] at h
    exact n ps (Option.some.inj h).symm
  refine ⟨fun b o h n => k b o (nP b o n h) h, fun _ => ⟨fun p hp => ?_, fun p hp => tabS_keep (t.2 p hp) (fun o => k _ o fun z => A.gl p hp (z ▸ hP)) fun c hc => k _ _ (nP c _ codeO_ne hc) hc⟩⟩
  by_cases z : p = P
  · rw [z]
    exact e.1
  · exact tabG_keep (t.1 p hp) fun o => k p o z
theorem Go.but {p : Addr × Str} (A : Apart G L) (hp : p ∈ L) (t : TBS G L H) (e : ∀ b o, b ≠ p.1 → H b = some o → H' b = some o) (ts : TabS H' p.1 p.2) : Go G L H H' := by
  obtain ⟨ps, hps, _⟩ := t.2 p hp
  have nP : ∀ b o, (∀ q, o ≠ .tbl q) → H b = some o → b ≠ p.1 := fun b o n h z => by
    rw [z, hps] at h
    exact n ps (Option.some.inj h).symm
  refine ⟨fun b o h n => e b o (nP b o n h) h, fun _ => ⟨fun q hq => tabG_keep (t.1 q hq) fun o => e q o fun z => A.gl p hp (z ▸ hq), fun q hq => ?_⟩⟩
  by_cases z : q.1 = p.1
  · rw [A.ll q hq p hp z]
    exact ts
  · exact tabS_keep (t.2 q hq) (fun o => e _ o z) fun c hc => e _ _ (nP c _ codeO_ne hc) hc
/-- a call that changes the list at r, too -/
def GoR (G : List Addr) (L : List (Addr × Str)) (r : Addr) (H H' : Hp) : Prop := Ev r H H' ∧ (TBS G L H → TBS G L H')
theorem GoR.refl (H : Hp) : GoR G L r H H := ⟨Ev.refl H, id⟩
theorem GoR.trans (a : GoR G L r H H1) (b : GoR G L r H1 H2) : GoR G L r H H2 := ⟨a.1.trans b.1, fun t => b.2 (a.2 t)⟩
theorem Go.toR (a : Go G L H H') : GoR G L r H H' := ⟨ev_of a.1, a.2⟩
theorem GoR.upd {xs ys : List V} (hr : H r = some (.lst xs)) : GoR G L r H (upd H r (.lst ys)) := by
  have k : ∀ b o, b ≠ r → H b = some o → L2.upd H r (.lst ys) b = some o := fun b o n h => by rw [upd_ne n]; exact h
  have nr : ∀ b o, (∀ zs, o ≠ .lst zs) → H b = some o → b ≠ r := fun b o n h z => by
    rw [z, hr] at h
    exact n xs (Option.some.inj h).symm
  refine ⟨fun b o n _ h => k b o n h, fun t => ⟨fun p hp => ?_, fun p hp => ?_⟩⟩
  · obtain ⟨ps, e, _⟩ := t.1 p hp
    exact tabG_keep (t.1 p hp) fun o => k p o (nr p _ (fun zs q => by cases q) e)
  · obtain ⟨ps, e, _⟩ := t.2 p hp
    exact tabS_keep (t.2 p hp) (fun o => k _ o (nr _ _ (fun zs q => by cases q) e)) fun c hc => k _ _ (nr c _ (fun zs => code_lst) hc) hc
theorem Go.kt (a : Go G L H H') : KT H H' := kt_of a.1
theorem GoR.kt {xs : List V} (a : GoR G L r H H') (hr : H r = some (.lst xs)) : KT H H' := a.1.kt hr
theorem Go.lst {a : Addr} {xs : List V} (g : Go G L H H') (h : H a = some (.lst xs)) : H' a = some (.lst xs) := g.1 a _ h fun ps z => by cases z
theorem GoR.lst {a : Addr} {xs : List V} (g : GoR G L r H H') (n : a ≠ r) (h : H a = some (.lst xs)) : H' a = some (.lst xs) := g.1 a _ n (fun ps z => by cases z) h
theorem GoR.free {b : Addr} {o : HO} (g : GoR G L r H H') (n : b ≠ r) (hn : ∀ ps, o ≠ .tbl ps) (h : H b = some o) : H' b = some o := g.1 b o n hn h
end
/-! ### data that never change -/
def Tp (H : Hp) (a : Addr) (xs : List V) : Prop := H a = some (.tup xs) ∨ ∃ o, H a = some (.frz o (.tup xs))
theorem Tp.seq {K : PySem.W.Frag} {H : Hp} {a : Addr} {xs : List V} (h : Tp H a xs) : SqT K H a xs := .inl h
theorem Tp.kt {H H' : Hp} {a : Addr} {xs : List V} (h : Tp H a xs) (k : KT H H') : Tp H' a xs := by
  rcases h with h | ⟨o, h⟩
  · exact .inl (k a _ (fun _ z => by cases z) (fun _ z => by cases z) h)
  · exact .inr ⟨o, k a _ (fun _ z => by cases z) (fun _ z => by cases z) h⟩
theorem NT.tp {H : Hp} {a : Addr} {xs : List V} (h : NT H a xs) : Tp H a xs := by
  obtain ⟨o, e, _⟩ := h
  exact .inr ⟨o, e⟩
theorem NT.kt {H H' : Hp} {a : Addr} {xs : List V} (h : NT H a xs) (k : KT H H') : NT H' a xs := by
  obtain ⟨o, e, h1, h2⟩ := h
  exact ⟨o, k a _ (fun _ z => by cases z) (fun _ z => by cases z) e, h1, h2⟩
theorem NT.of {H : Hp} {p : Addr} {o : Obj} {xs : List V} (h1 : o.cls = .type "tuple") (h2 : o.dict = none) : NT (upd H p (.frz o (.tup xs))) p xs := ⟨o, upd_same, h1, h2⟩
mutual
inductive Im (H : Hp) : V → PyData → Prop
  | non : Im H .non .none
  | bl (b : Bool) : Im H (.bl b) (.bool b)
  | int (i : Int) : Im H (.int i) (.int i)
  | str (x : Str) : Im H (.str x) (.str x)
  | tup {a : Addr} {xs : List V} {ds : List PyData} : Tp H a xs → Ims H xs ds → Im H (.ref a) (.tuple ds)
inductive Ims (H : Hp) : List V → List PyData → Prop
  | nil : Ims H [] []
  | cons {v : V} {vs : List V} {d : PyData} {ds : List PyData} : Im H v d → Ims H vs ds → Ims H (v :: vs) (d :: ds)
end
mutual
theorem Im.kt {H H' : Hp} (k : KT H H') : ∀ {v : V} {d : PyData}, Im H v d → Im H' v d
  | _, _, .non => .non
  | _, _, .bl b => .bl b
  | _, _, .int i => .int i
  | _, _, .str x => .str x
  | _, _, .tup h t => .tup (h.kt k) (Ims.kt k t)
theorem Ims.kt {H H' : Hp} (k : KT H H') : ∀ {vs : List V} {ds : List PyData}, Ims H vs ds → Ims H' vs ds
  | _, _, .nil => .nil
  | _, _, .cons h t => .cons (Im.kt k h) (Ims.kt k t)
end
mutual
theorem Im.dp {K : PySem.W.Frag} {H : Hp} : ∀ {v : V} {d : PyData}, Im H v d → Dp K H v d
  | _, _, .non => .non
  | _, _, .bl b => .bl b
  | _, _, .int i => .int i
  | _, _, .str x => .str x
  | _, _, .tup h t => .tup h.seq (Ims.dp t)
theorem Ims.dp {K : PySem.W.Frag} {H : Hp} : ∀ {vs : List V} {ds : List PyData}, Ims H vs ds → DpAll K H vs ds
  | _, _, .nil => .nil
  | _, _, .cons h t => .cons (Im.dp h) (Ims.dp t)
end
theorem Ims.length {H : Hp} : ∀ {vs : List V} {ds : List PyData}, Ims H vs ds → vs.length = ds.length
  | _, _, .nil => rfl
  | _, _, .cons _ t => congrArg (· + 1) t.length
theorem Ims.get {H : Hp} : ∀ {vs : List V} {ds : List PyData} {i : Nat} {v : V}, Ims H vs ds → vs[i]? = some v → ∃ d, ds[i]? = some d ∧ Im H v d
  | _, _, _, _, .nil, e => by simp at e
  | _, _, 0, _, .cons h _, e => by simp at e; subst e; exact ⟨_, rfl, h⟩
  | _, _, i + 1, v, .cons _ t, e => by
    obtain ⟨d, h1, h2⟩ := Ims.get (i := i) (v := v) t (by simpa using e)
    exact ⟨d, by simpa using h1, h2⟩
theorem Ims.app {H : Hp} : ∀ {vs ws : List V} {ds es : List PyData}, Ims H vs ds → Ims H ws es → Ims H (vs ++ ws) (ds ++ es)
  | _, _, _, _, .nil, s => s
  | _, _, _, _, .cons h t, s => .cons h (t.app s)
theorem Ims.take {H : Hp} : ∀ {vs : List V} {ds : List PyData} (n : Nat), Ims H vs ds → Ims H (vs.take n) (ds.take n)
  | _, _, 0, _ => .nil
  | _, _, _ + 1, .nil => .nil
  | _, _, n + 1, .cons h t => .cons h (Ims.take n t)
theorem Ims.drop {H : Hp} : ∀ {vs : List V} {ds : List PyData} (n : Nat), Ims H vs ds → Ims H (vs.drop n) (ds.drop n)
  | _, _, 0, r => r
  | _, _, _ + 1, .nil => .nil
  | _, _, n + 1, .cons _ t => Ims.drop n t
theorem ims_strs {H : Hp} : ∀ xs : List Str, Ims H (xs.map V.str) (xs.map PyData.str)
  | [] => .nil
  | x :: xs => .cons (.str x) (ims_strs xs)
mutual
theorem Dp.go {K : PySem.W.Frag} {H H' : Hp} (e : ExtN H H') : ∀ {v : V} {d : PyData}, Dp K H v d → Dp K H' v d
  | _, _, .non => .non
  | _, _, .bl b => .bl b
  | _, _, .int i => .int i
  | _, _, .str x => .str x
  | _, _, .lst h t => .lst (by
      rcases h with (h | ⟨o, h⟩) | h
      · exact .inl (.inl (e _ _ h fun _ z => by cases z))
      · exact .inl (.inr ⟨o, e _ _ h fun _ z => by cases z⟩)
      · exact .inr h) (Dps.go e t)
  | _, _, .tup h t => .tup (by
      rcases h with (h | ⟨o, h⟩) | h
      · exact .inl (.inl (e _ _ h fun _ z => by cases z))
      · exact .inl (.inr ⟨o, e _ _ h fun _ z => by cases z⟩)
      · exact .inr h) (Dps.go e t)
theorem Dps.go {K : PySem.W.Frag} {H H' : Hp} (e : ExtN H H') : ∀ {vs : List V} {ds : List PyData}, DpAll K H vs ds → DpAll K H' vs ds
  | _, _, .nil => .nil
  | _, _, .cons h t => .cons (Dp.go e h) (Dps.go e t)
end
theorem Dps.length {K : PySem.W.Frag} {H : Hp} : ∀ {vs : List V} {ds : List PyData}, DpAll K H vs ds → vs.length = ds.length
  | _, _, .nil => rfl
  | _, _, .cons _ t => congrArg (· + 1) (Dps.length t)
theorem Dps.get {K : PySem.W.Frag} {H : Hp} : ∀ {vs : List V} {ds : List PyData} {i : Nat} {v : V}, DpAll K H vs ds → vs[i]? = some v → ∃ d, ds[i]? = some d ∧ Dp K H v d
  | _, _, _, _, .nil, e => by simp at e
  | _, _, 0, _, .cons h _, e => by simp at e; subst e; exact ⟨_, rfl, h⟩
  | _, _, i + 1, v, .cons _ t, e => by
    obtain ⟨d, h1, h2⟩ := Dps.get (i := i) (v := v) t (by simpa using e)
    exact ⟨d, by simpa using h1, h2⟩
theorem Dps.take {K : PySem.W.Frag} {H : Hp} : ∀ {vs : List V} {ds : List PyData} (n : Nat), DpAll K H vs ds → DpAll K H (vs.take n) (ds.take n)
  | _, _, 0, _ => .nil
  | _, _, _ + 1, .nil => .nil
  | _, _, n + 1, .cons h t => .cons h (Dps.take n t)
/-- small depth: what == and in ask of data -/
def lv : Nat → PyData → Bool
  | _, .none => true
  | _, .bool _ => true
  | _, .int _ => true
  | _, .str z => PyData.strOk z
  | n + 1, .tuple ds => ds.all (lv n)
  | n + 1, .list ds => ds.all (lv n)
  | _, _ => false
theorem lv_all {n : Nat} (ih : ∀ d, lv n d = true → d.canLay0 = true ∧ d.depth ≤ n) : ∀ ds : List PyData, ds.all (lv n) = true → PyData.canLayAll0 ds = true ∧ PyData.depthAll ds ≤ n
  | [], _ => ⟨rfl, Nat.zero_le _⟩
  | d :: ds, h => by
    rw [List.all_cons, Bool.and_eq_true] at h
    obtain ⟨a1, a2⟩ := ih d h.1
    obtain ⟨b1, b2⟩ := lv_all ih ds h.2
    refine ⟨by simp only [PyData.canLayAll0, a1, b1, Bool.and_self], ?_⟩
    simp only [PyData.depthAll]
    omega
theorem lv_ok : ∀ (n : Nat) (d : PyData), lv n d = true → d.canLay0 = true ∧ d.depth ≤ n
  | n, .none, _ => by cases n <;> exact ⟨by simp [PyData.canLay0], by simp [PyData.depth]⟩
  | n, .bool _, _ => by cases n <;> exact ⟨by simp [PyData.canLay0], by simp [PyData.depth]⟩
  | n, .int _, _ => by cases n <;> exact ⟨by simp [PyData.canLay0], by simp [PyData.depth]⟩
  | n, .str z, h => by cases n <;> exact ⟨by simp only [PyData.canLay0]; exact h, by simp [PyData.depth]⟩
  | n + 1, .tuple ds, h => by
    have h' : ds.all (lv n) = true := by simpa only [lv] using h
    obtain ⟨a, b⟩ := lv_all (lv_ok n) ds h'
    refine ⟨by simp only [PyData.canLay0]; exact a, ?_⟩
    simp only [PyData.depth]
    omega
  | n + 1, .list ds, h => by
    have h' : ds.all (lv n) = true := by simpa only [lv] using h
    obtain ⟨a, b⟩ := lv_all (lv_ok n) ds h'
    refine ⟨by simp only [PyData.canLay0]; exact a, ?_⟩
    simp only [PyData.depth]
    omega
  | 0, .tuple ds, h => by simp [lv] at h
  | 0, .list ds, h => by simp [lv] at h
  | 0, .dict ds, h => by simp [lv] at h
  | n + 1, .dict ds, h => by simp [lv] at h
theorem shaped_of {n : Nat} {d : PyData} (h : lv n d = true) (hn : n ≤ 64 := by decide) : SeqAt.shaped d = true := by
  obtain ⟨a, b⟩ := lv_ok n d h
  show (d.canLay0 && decide (d.depth ≤ 64)) = true
  rw [a, decide_eq_true (Nat.le_trans b hn)]
  rfl
end FS
set_option maxHeartbeats 2000000
/-! for i, x in enumerate(t), t a tuple. -/
namespace FS
open PySem PySem.Spec PyProof.Rows L2

theorem meets_enumT {v : Value} {o : Obj} {P : Heap → Prop} (B : Begins v o P) :
    Meets (Builtin.«enumerate.__new__» ⟨[.type "enumerate", v], []⟩) (fun _ R s => P s.heap ∧
      R (.ok (.ret (.ref (s.heap.push o).objs.size)))
        { s with heap := (s.heap.push o).push { cls := .type "enumerate", data := .fields #[.none, .bool false, .ref s.heap.objs.size, rawInt 0, .none, .none] } }) :=
  .of_wp fun prog w A R s hyp => by
    obtain ⟨hp, gs, dr, tk, os⟩ := s
    obtain ⟨hP, hyp⟩ := hyp
    have sub := sub_enumerate
    have step : ∀ {A' : Around} {E : Value → Shared → Prop} {Q : Value → Shared → Prop}, Q (.ref hp.objs.size) ⟨hp.push o, gs, dr, tk, os⟩ →
        wpAny (model prog w) A' (pyIter v) Q E ⟨hp, gs, dr, tk, os⟩ := fun z => B.iter prog w _ _ ⟨hp, gs, dr, tk, os⟩ _ hP z
    wp_walk using step
    refine wpAny_stack_any fun _ => wpAny_pure ?_
    split
    · rename_i cc _ _ _ _ _
      cases (cc == Value.type "enumerate") <;> (wp_walk using step; exact ⟨_, rfl, hyp⟩)
    · wp_walk using step; exact ⟨_, rfl, hyp⟩

section
variable {prog : Program} {w : World} {A : Around} {E : Value → Shared → Prop} {s : Shared}
theorem call_enumT {v : Value} {o : Obj} {P : Heap → Prop} {Q : Value → Shared → Prop} (B : Begins v o P) (hP : P s.heap)
    (hQ : ∀ h', IsEnum h' (s.heap.objs.size + 1) s.heap.objs.size 0 .none → h'.get? s.heap.objs.size = some o → (∀ b u, s.heap.get? b = some u → h'.get? b = some u) → Q (.ref (s.heap.objs.size + 1)) { s with heap := h' }) :
    wpAny (model prog w) A (call (.type "enumerate") [v]) Q E s := by
  refine callType_new F.called_enumerate (by decide) (F.typeCall_enumerate_1 _) (F.newCall_enumerate_1 _) (fun ob => F.args_object_init_2 ob _) F.entry_enumerate_new (meets_enumT B) ⟨hP, ?_⟩
  have sz : (s.heap.push o).objs.size = s.heap.objs.size + 1 := Heap.size_push ..
  show _ ∧ _
  rw [sz]
  have en : IsEnum ((s.heap.push o).push { cls := .type "enumerate", data := .fields #[.none, .bool false, .ref s.heap.objs.size, rawInt 0, .none, .none] }) (s.heap.objs.size + 1) s.heap.objs.size 0 .none := by
    have z := Heap.get?_push_size (s.heap.push o) (o := { cls := .type "enumerate", data := .fields #[.none, .bool false, .ref s.heap.objs.size, rawInt 0, .none, .none] }) rfl
    rw [sz] at z
    exact z
  exact ⟨⟨_, en, rfl⟩, hQ _ en (Heap.get?_push_of_some _ (Heap.get?_push_size _ B.free)) fun b u q => Heap.get?_push_of_some _ (Heap.get?_push_of_some _ q)⟩
end

/-- the tuple at a, each item in a new pair with its place -/
def IteT (K : PySem.W.Frag) (a : Addr) : It where
  go := fun i H => ∃ (xs : List V) (x : V), SqT K H a xs ∧ xs[i]? = some x
  yld := fun i H v H' => ∃ T x, v = .ref T ∧ H T = none ∧ H' = upd H T (.tup [.int (i : Nat), x]) ∧ ∀ xs, SqT K H a xs → xs[i]? = some x
  stop := fun i H => ∃ xs : List V, SqT K H a xs ∧ xs.length = i

theorem turn_enumT {P : Program} {w : World} {K : PySem.W.Frag} {elts : List Expr} {kk : Nat} {tp : Pos} (a e it : Addr) (ha : a ≠ it) (hae : e ≠ a) :
    Turn P w K (.Tuple elts kk tp) (IteT K a) [e, it] e (fun i h => (∃ old, IsEnum h e it ((i : Nat) : Int) old) ∧ h.IsTupleIter it a i ∧ e ≠ it) where
  mem := by simp
  obj := fun i h st b hb => by
    obtain ⟨⟨old, he⟩, ⟨o, ho, _, hd⟩, _⟩ := st
    have hb' : b = e ∨ b = it := by simpa using hb
    rcases hb' with z | z <;> subst z
    · exact ⟨_, he, fun v q => nomatch q⟩
    · exact ⟨o, ho, fun v q => by rw [hd] at q; cases q⟩
  keep := fun i h h' st k => by
    obtain ⟨⟨old, he⟩, hi, hne⟩ := st
    exact ⟨⟨old, k e (by simp) _ he⟩, hi.at fun o q => k it (by simp) o q, hne⟩
  item := by
    intro X hP hw hK hc i pins s σ H E I hf st hg
    subst hP hw hK
    obtain ⟨⟨old, he⟩, hit, hne⟩ := st
    obtain ⟨xs, x, hq, hx⟩ := hg
    obtain ⟨its, rv, p, hz⟩ := I.tuple hq
    obtain ⟨u, hu, ru⟩ := rv.get hx
    have hel : e < s.heap.objs.size := Heap.lt_size he
    have hil : it < s.heap.objs.size := by obtain ⟨_, q, _⟩ := hit; exact Heap.lt_size q
    have hlt : i < its.toArray.size := by
      have q := (List.getElem?_eq_some_iff.mp hu).1
      simpa using q
    have D := Draws.tuple (prog := X.prog) (w := X.w) (A := X.A.in1) (by exact I.ok.hd hc) it a ha its.toArray
    refine wpAny_pyNext_enum_itemD (n := its.toArray.size) D he ⟨hit, p⟩ hlt hne (by simpa using ⟨hne, hae⟩) fun x' h' tk hx' ho hst hT hsz hk => ?_
    have ex : x' = u := by
      have q : its.toArray[i]? = some u := by simpa using hu
      rw [hx'] at q
      exact Option.some.inj q
    subst ex
    refine ⟨_, rfl, wpAny_letOwnedTupleGo_enum (s := { s with heap := h', toks := tk + 1 }) ho fun h'' he' sb => ?_⟩
    have hT2 : h''.get? s.heap.objs.size = some { cls := .type "tuple", data := .seq #[.int i tk, x'] } := (sb.2 _ (Nat.ne_of_gt hel)).trans hT
    have new : ObjOk X.prog X.w (upd H s.heap.objs.size (.tup [.int (i : Nat), x])) h'' s.heap.objs.size (.tup [.int (i : Nat), x]) :=
      ⟨by show 2 ≤ sizeLine; decide, [.int i tk, x'], .cons ⟨_, rfl⟩ (.cons ru .nil), ⟨_, hT2, rfl, _, rfl⟩⟩
    have I1 : Inv X pins σ (upd H s.heap.objs.size (.tup [.int (i : Nat), x])) { s with heap := h'', toks := tk + 1 } :=
      I.turnedNew (ch := [e, it]) (fun b ob hb q => (sb.2 b (fun z => hb (by simp [z]))).trans (hk b ob (fun z => hb (by simp [z])) (fun z => hb (by simp [z])) q)) hf (Nat.le_refl _) new
    refine ⟨.ref s.heap.objs.size, _, I1, rfl, ⟨_, x, rfl, I.hok.fresh (Nat.le_refl _), rfl, fun ys hy => by rw [I.tuple_inj hy hq]; exact hx⟩, ⟨⟨x', ?_⟩, hst.1.at fun o q => (sb.2 it (Ne.symm hne)).trans q, hne⟩, fun b hb => ?_⟩
    · have e1 : ((i + 1 : Nat) : Int) = (i : Int) + 1 := by omega
      rw [e1]
      exact he'
    · have hb' : b = e ∨ b = it := by simpa using hb
      have hlt' : b < s.heap.objs.size := by rcases hb' with z | z <;> (rw [z]; assumption)
      rw [upd_ne (Nat.ne_of_lt hlt')]
      exact (hf b hb).1
  done := by
    intro X hP hw hK hc i pins s σ H E I hf st hg
    subst hP hw hK
    obtain ⟨⟨old, he⟩, hit, hne⟩ := st
    obtain ⟨xs, hq, hx⟩ := hg
    obtain ⟨its, rv, p, hz⟩ := I.tuple hq
    obtain ⟨f0, f1, f2, f3, f4, f5⟩ := hf it (by simp)
    have hn : its.toArray.size = i := by
      have q := rv.length
      simp
      omega
    have D := Draws.tuple (prog := X.prog) (w := X.w) (A := X.A.in1) (by exact I.ok.hd hc) it a ha its.toArray
    exact wpAny_pyNext_enum_endD (n := its.toArray.size) D he (by rw [hn]; exact ⟨hit, p⟩) fun h' eb => ⟨rfl, I.turned (t' := s.toks) (fun b o hb q => eb b o hb q) f0 f1 f3 f4 f5⟩
  self := fun A i s Q E st h => by
    obtain ⟨⟨_, he⟩, _⟩ := st
    exact wpAny_pyIter_enum he h
def iEnumT (K : PySem.W.Frag) (ta : TA) : TI := fun σ H R => ta σ H fun vs H1 => ∃ a xs, vs = [.ref a] ∧ SqT K H1 a xs ∧ R (IteT K a) H1
theorem pi_enumT {X : Cx} {e : Expr} {ta : TA} {p pos tpos : Pos} {elts : List Expr} {kk : Nat} (hg : Gl X "enumerate") (hm : X.mg "enumerate" = none) (ha : PA X [e] ta) (hs : starEach [e] X.env = [(false, eval e X.env)] := by rfl) :
    PI X (.Tuple elts kk tpos) (.Call (.Name "enumerate" p) [e] [] pos) (iEnumT X.K ta) := by
  refine ⟨fun pins s σ H R I h => ?_⟩
  refine Call_ (ld_blt I hg hm boot_enumerate (PyProof.Rows.callWith_type1 (thn (ha.run pos pins s σ H _ I h) fun us s1 ⟨vs, H1, I1, r1, a, xs, ev, hq, q⟩ => ?_) hs rfl))
  subst ev
  obtain ⟨u, rfl, ru⟩ := vals1 r1
  cases ru
  obtain ⟨its, rv, pt, hz⟩ := I1.tuple hq
  have hal : a < s1.heap.objs.size := pt.lt
  refine call_enumT (begins_tuple a its.toArray) pt fun h' he hit hk => wpAny_pyIter_enum he ?_
  have I2 : Inv X pins σ H1 { s1 with heap := h' } := I1.kept (t' := s1.toks) hk
  refine ⟨s1.heap.objs.size + 1, [s1.heap.objs.size + 1, s1.heap.objs.size], _, _, H1, rfl, I2, turn_enumT a (s1.heap.objs.size + 1) s1.heap.objs.size (Nat.ne_of_lt hal) (Nat.ne_of_gt (Nat.lt_succ_of_lt hal)), ⟨⟨.none, he⟩, ⟨_, hit, rfl, rfl⟩, Nat.succ_ne_self _⟩, fun b hb => ?_, q⟩
  have hb' : b = s1.heap.objs.size + 1 ∨ b = s1.heap.objs.size := by simpa using hb
  have hle : s1.heap.objs.size ≤ b := by
    rcases hb' with z | z <;> rw [z]
    · exact Nat.le_succ _
    · exact Nat.le_refl _
  exact I1.fpOk hle (I1.hok.fresh hle)
theorem walk_enumT {K : PySem.W.Frag} {a : Addr} {xs : List V} : Walk (IteT K a) xs.length (fun H => SqT K H a xs) (YPair (fun i => some (.int (i : Nat))) (fun i => xs[i]?)) := by
  refine ⟨fun i _ hi q => ⟨xs, xs[i], q, by simp [hi]⟩, fun _ q => ⟨xs, q, rfl⟩, fun i H v H' _ q y => ?_⟩
  obtain ⟨T, x, h1, h2, h3, h4⟩ := y
  exact ⟨T, .int (i : Nat), x, h1, h2, h3, rfl, h4 xs q⟩
end FS
set_option maxHeartbeats 2000000
/-! in, not in over tuples of any data; list.count of flat things. -/
namespace FS
open PySem PySem.Spec PyProof.Rows L2
section
variable {X : Cx}
def rInT (K : PySem.W.Frag) (f : Bool → Bool) : R2 := fun x y H Q => ∃ d ds, Dp K H x d ∧ Dp K H y (.tuple ds) ∧ SeqAt.shaped d = true ∧ SeqAt.shaped (.tuple ds) = true ∧ Q (.bl (f (ds.any fun z => PyData.eqv z d))) H
theorem op_inT (hu : X.A.units + 65 < cLine) : OpR X (compareOp .In) (rInT X.K id) := by
  intro pins s σ H x y v u Q I rx ry ⟨d, ds, hd, he, sd, se, q⟩
  obtain ⟨as, r1⟩ := Dp.reads I d x v hd rx
  obtain ⟨bs, r2⟩ := Dp.reads I (.tuple ds) y u he ry
  exact SeqAt.in_tuple_reads r2 r1 (SeqAt.canLay_of_shaped se) (SeqAt.canLay_of_shaped sd) (room_in_shaped sd hu) ⟨.bl _, H, I, rfl, q⟩
theorem op_notInT (hu : X.A.units + 65 < cLine) : OpR X (compareOp .NotIn) (rInT X.K not) := by
  intro pins s σ H x y v u Q I rx ry ⟨d, ds, hd, he, sd, se, q⟩
  obtain ⟨as, r1⟩ := Dp.reads I d x v hd rx
  obtain ⟨bs, r2⟩ := Dp.reads I (.tuple ds) y u he ry
  exact SeqAt.notIn_tuple_reads r2 r1 (SeqAt.canLay_of_shaped se) (SeqAt.canLay_of_shaped sd) (room_in_shaped sd hu) ⟨.bl _, H, I, rfl, q⟩
/-- l.count(b), a list of truth values -/
def rCntB (K : PySem.W.Frag) : V → List V → Hp → VK → Prop := fun x xs H Q => ∃ (p : Addr) (bs : List Bool) (k : Bool), x = .ref p ∧ xs = [.bl k] ∧ SqL K H p (bs.map V.bl) ∧ Q (.int (bs.count k : Nat)) H
theorem cnt_bools {k : Bool} : ∀ {bs : List Bool} {us : List Value}, Vals (bs.map V.bl) us → us.countP (eqU (.bl k)) = bs.count k
  | [], _, .nil => rfl
  | b :: bs, _, .cons r t => by
    have ih := cnt_bools (k := k) t
    have e : eqU (.bl k) _ = eqV (.bl b) (.bl k) := eqU_of r rfl
    rw [List.countP_cons, ih, List.count_cons, e]
    cases b <;> cases k <;> rfl
theorem mt_lcountB : MtR X "list.count" (rCntB X.K) := by
  intro pins s σ H x xs v us Q I rx rxs ⟨p, bs, k, e1, e2, hs, q⟩
  subst e1 e2
  cases rx
  obtain ⟨u, eu, ru⟩ := vals1 rxs
  subst eu
  obtain ⟨its, rv, ⟨⟨cls, dd, data, sl⟩, n, ho, hc, hdn, hd⟩, hlen⟩ := I.list hs
  simp only at hc hd
  subst hc hd
  have fl : (bs.map V.bl).all flatV = true := by
    rw [List.all_eq_true]
    intro z hz
    obtain ⟨b, _, e⟩ := List.mem_map.mp hz
    rw [← e]
    rfl
  refine call_meets PySem.F.slot_list_count ⟨_, ho, rfl⟩ PySem.F.entry_list_count (PySem.F.args_list_count_2 _ _)
    (SeqAt.list_countAt p its.toArray n dd sl u (eqU (.bl k))) ⟨ho, fun y hy => mem_eqAt ru rfl rv fl y (by simpa using hy), ?_⟩
  refine ⟨.int (bs.count k : Nat), H, I.tok _, ⟨s.toks, ?_⟩, q⟩
  show Value.int ((its.toArray.toList.countP (eqU (.bl k)) : Nat) : Int) s.toks = Value.int ((bs.count k : Nat) : Int) s.toks
  rw [show its.toArray.toList = its from rfl, cnt_bools rv]
end
end FS
set_option maxHeartbeats 2000000
/-! readings, one step at a time. -/
namespace FS
open PySem PySem.Spec PyProof.Rows L2
section
variable {σ : L2.St} {H : Hp} {Q : VK} {D : Ends} {K : PySem.W.Frag}
theorem r_var {i : Nat} {v : V} (h : σ[i]? = some (some v)) (q : Q v H) : tVar i σ H Q := ⟨v, h, q⟩
theorem r_c {v : V} (q : Q v H) : tC v σ H Q := q
theorem r_op {r : R2} {ta tb : TE} (h : ta σ H fun x H1 => tb σ H1 fun y H2 => r x y H2 Q) : tOp r ta tb σ H Q := h
theorem r_nil {Q : List V → Hp → Prop} (q : Q [] H) : tNil σ H Q := q
theorem r_cons {ta : TE} {tr : TA} {Q : List V → Hp → Prop} (h : ta σ H fun x H1 => tr σ H1 fun xs H2 => Q (x :: xs) H2) : tCons ta tr σ H Q := h
theorem r_I0 {g : Int → Int → V} {i j : Int} (q : Q (g i j) H) : rI0 g (.int i) (.int j) H Q := ⟨i, j, rfl, rfl, q⟩
theorem r_I {C : Int → Int → Prop} {g : Int → Int → V} {i j : Int} (c : C i j) (q : Q (g i j) H) : rI C g (.int i) (.int j) H Q := ⟨i, j, rfl, rfl, c, q⟩
theorem r_eq {x y : V} (c : scal x y = true) (q : Q (.bl (decide (x = y))) H) : rEq x y H Q := ⟨c, q⟩
theorem r_ne {x y : V} (c : scal x y = true) (q : Q (.bl (!decide (x = y))) H) : rNe x y H Q := ⟨c, q⟩
theorem r_test {te : TE} {Q : Bool → Hp → Prop} (h : te σ H fun x H' => ∃ k, x = .bl k ∧ Q k H') : tTest te σ H Q := h
theorem r_tB {te : TE} {Q : Bool → Hp → Prop} (h : te σ H fun x H' => ∃ k, x = .bl k ∧ Q k H') : tB te σ H Q := h
theorem r_bl {b : Bool} {P : Bool → Prop} (q : P b) : ∃ k, V.bl b = .bl k ∧ P k := ⟨b, rfl, q⟩
theorem r_not {t : TT} {Q : Bool → Hp → Prop} (h : t σ H fun c H1 => Q (!c) H1) : tNot t σ H Q := h
theorem r_and {t u : TT} {Q : Bool → Hp → Prop} (h : t σ H fun c H1 => if c = true then u σ H1 Q else Q false H1) : tAnd t u σ H Q := h
theorem r_or {t u : TT} {Q : Bool → Hp → Prop} (h : t σ H fun c H1 => if c = true then Q true H1 else u σ H1 Q) : tOr t u σ H Q := h
theorem r_notV {te : TE} (h : te σ H fun x H1 => ∃ c, x = .bl c ∧ Q (.bl (!c)) H1) : tNotV te σ H Q := h
theorem r_andV {ta tb : TE} (h : ta σ H fun x H1 => ∃ c, x = .bl c ∧ if c = true then tb σ H1 Q else Q (.bl false) H1) : tAndV ta tb σ H Q := h
theorem r_orV {ta tb : TE} (h : ta σ H fun x H1 => ∃ c, x = .bl c ∧ if c = true then Q (.bl true) H1 else tb σ H1 Q) : tOrV ta tb σ H Q := h
theorem r_ifE {t : TT} {ta tb : TE} (h : t σ H fun c H1 => if c = true then ta σ H1 Q else tb σ H1 Q) : tIf t ta tb σ H Q := h
theorem r_seq {t u : TS} (h : t { D with nx := u D } σ H) : tSeq t u D σ H := h
theorem r_asg {te : TE} {g : TG} (h : te σ H fun x H1 => g x σ H1 D.nx) : tAsg te g D σ H := h
theorem r_gN {i : Nat} {v : V} {Q : L2.St → Hp → Prop} (h : Q (σ.set i (some v)) H) : gName i v σ H Q := h
theorem r_ifS {c : TT} {t u : TS} (h : c σ H fun b H1 => if b = true then t D σ H1 else u D σ H1) : tIfS c t u D σ H := h
theorem r_ret {te : TE} (h : te σ H D.rt) : tRet te D σ H := h
theorem r_drop {te : TE} (h : te σ H fun _ H1 => D.nx σ H1) : tDrop te D σ H := h
theorem r_next (h : D.nx σ H) : tNext D σ H := h
theorem r_retN (h : D.rt .non H) : tRetN D σ H := h
theorem r_cb {r : List V → Hp → VK → Prop} {t : TA} (h : t σ H fun vs H1 => r vs H1 Q) : tCB r t σ H Q := h
theorem r_call {sp : Sp} {dvs : List V} {E : XK} {t : TA} (h : t σ H fun vs H1 => sp (vs ++ dvs) H1 Q E) : tCall sp dvs E t σ H Q := h
theorem r_lst {t : TA} (h : t σ H fun xs H1 => xs.length ≤ sizeLine ∧ ∀ p, H1 p = none → Q (.ref p) (upd H1 p (.lst xs))) : tLst t σ H Q := h
theorem r_tup {t : TA} (h : t σ H fun xs H1 => xs.length ≤ sizeLine ∧ ∀ p, H1 p = none → Q (.ref p) (upd H1 p (.tup xs))) : tTup t σ H Q := h
theorem r_if {c : Bool} {A B : Prop} (ht : c = true → A) (hf : c = false → B) : if c = true then A else B := by
  cases c
  · exact hf rfl
  · exact ht rfl
def rFld (K : PySem.W.Frag) (f : Str) (x : V) (H1 : Hp) (Q : VK) : Prop := ∃ a C dx fs v, x = .ref a ∧ H1 a = some (.ins C dx fs) ∧ Cls K C ∧ NoAttr K C f ∧ fs.lookup f = some v ∧ Q v H1
theorem r_fld {ta : TE} {f : Str} (h : ta σ H fun x H1 => rFld K f x H1 Q) : tFld K ta f σ H Q := h
end
section
variable {P : Program} {w : World} {K : PySem.W.Frag} {mg : Str → Option Value} {base : Heap}
/-- a def that may be called by its name: no exception leaves it | one may -/
structure Fd (CX : CXT) (P : Program) (w : World) (K : PySem.W.Frag) (mg : Str → Option Value) (base : Heap) (x : Str) (k : Nat) (sp : Sp) : Prop where
  ex : ∃ (f : Addr) (fd : FuncData) (ps : List Str), mg x = some (.ref f) ∧ PySem.W.keepIn K (.ref f) = true ∧ FnOk P w K mg base CX k f fd ps sp ∧ Binds K fd ps []
theorem pe_fd {X : Cx} {CX : CXT} {x : Str} {k j : Nat} {sp : Sp} {E : XK} {p pos : Pos} {e : Expr} {es : List Expr} {t : TA} (c : Fd CX X.prog X.w X.K X.mg X.base x k sp) (hr : Room j X.A) (hx : Passes CX X E) (ha : PA X (e :: es) t) (hk : k ≤ j := by decide) (hg : Gl X x := by rfl)
    (hdb : (x == ("__debug__" : Str)) = false := by decide) (he : starEach (e :: es) X.env = (false, eval e X.env) :: starEach es X.env := by rfl) (hpl : (backTo pos (starEach es X.env)).any (·.1) = false := by rfl) :
    PE X (.Call (.Name x p) (e :: es) [] pos) (tCall sp [] E t) := by
  obtain ⟨f, fd, ps, h1, h2, F, b⟩ := c.ex
  exact pe_call F (hr.mono hk) hg h1 h2 b .nil hx ha hdb he hpl
end
section
variable {σ : L2.St} {H : Hp} {Q : VK} {D : Ends} {K : PySem.W.Frag}
theorem r_ixL {p : Addr} {xs : List V} {i : Int} {v : V} (h : SqL K H p xs) (e : atI xs i = some v) (q : Q v H) : rIxL K (.ref p) (.int i) H Q := ⟨p, xs, i, v, rfl, rfl, h, e, q⟩
theorem r_ixT {p : Addr} {xs : List V} {i : Int} {v : V} (h : SqT K H p xs) (e : atI xs i = some v) (q : Q v H) : rIxT K (.ref p) (.int i) H Q := ⟨p, xs, i, v, rfl, rfl, h, e, q⟩
theorem r_setL {p : Addr} {xs : List V} {k : Int} {j : Nat} {v : V} {Q : Hp → Prop} (h : H p = some (.lst xs)) (e : ixN xs.length k = some j) (q : Q (upd H p (.lst (xs.set j v)))) : rSetL (.ref p) (.int k) v H Q := ⟨p, xs, k, j, rfl, rfl, h, e, q⟩
theorem r_set2 {p : Addr} {xs ys : List V} {k : Int} {j : Nat} {v : V} {Q : Hp → Prop} (h : H p = some (.lst xs)) (e : ixN xs.length k = some j) (es : xs.set j v = ys) (q : ∀ H1, (∀ G L, GoR G L p H H1) → H1 p = some (.lst ys) → Q H1) : rSetL (.ref p) (.int k) v H Q := by
  subst es
  exact r_setL h e (q _ (fun _ _ => GoR.upd h) upd_same)
theorem r_chain {r r' : R2} {ta tb tc : TE} (h : ta σ H fun x H1 => tb σ H1 fun y H2 => r x y H2 fun z H3 => ∃ k, z = .bl k ∧ (if k = true then tc σ H3 fun u H4 => r' y u H4 Q else Q (.bl false) H3)) : tChain r r' ta tb tc σ H Q := h
theorem r_nf {A B : Prop} (h : A) : if (!false) = true then A else B := h
theorem r_nt {A B : Prop} (h : B) : if (!true) = true then A else B := h
theorem r_sl {r : V → Option Int → Option Int → Hp → VK → Prop} {te : TE} {tl th : TO} (h : te σ H fun x H1 => tl σ H1 fun l H2 => th σ H2 fun u H3 => r x l u H3 Q) : tSl r te tl th σ H Q := h
theorem r_part {te : TE} {Q : Option Int → Hp → Prop} (h : te σ H fun x H1 => ∃ i, x = .int i ∧ Q (some i) H1) : tPart te σ H Q := h
theorem r_nopart {Q : Option Int → Hp → Prop} (h : Q none H) : tNoPart σ H Q := h
theorem r_isInt {i : Int} {P : Int → Prop} (h : P i) : ∃ j, V.int i = .int j ∧ P j := ⟨i, rfl, h⟩
theorem r_tm {r : V → List V → Hp → VK → Prop} {to : TE} {t : TA} (h : to σ H fun x H1 => (∃ a xs, x = .ref a ∧ NT H1 a xs) ∧ t σ H1 fun xs H2 => r x xs H2 Q) : tTM r to t σ H Q := h
theorem r_bm {T : String} {r : V → List V → Hp → VK → Prop} {to : TE} {t : TA} (h : to σ H fun x H1 => tyV K T x H1 ∧ t σ H1 fun xs H2 => r x xs H2 Q) : tBM K T r to t σ H Q := h
theorem r_make {C : Addr} {sp : Sp} {dvs : List V} {t : TA} {E : XK} (h : t σ H fun vs H1 => ∀ x dx, H1 x = none → H1 dx = none → dx ≠ x → sp (.ref x :: (vs ++ dvs)) (upd (upd H1 dx (.own x)) x (.ins C dx [])) (fun v H2 => v = .non ∧ Q (.ref x) H2) E) : tMake C sp dvs E t σ H Q := h
theorem r_gsub {to ti : TE} {t : TSet} {v : V} {Q : L2.St → Hp → Prop} (h : to σ H fun o H1 => ti σ H1 fun i H2 => t o i v H2 fun H3 => Q σ H3) : gSub to ti t v σ H Q := h
def cInt : List V → Hp → VK → Prop := fun xs H Q => (∃ i, xs = [.int i] ∧ Q (.int i) H) ∨ ∃ k, xs = [.bl k] ∧ Q (.int (if k then 1 else 0)) H
theorem c_int {X : Cx} : CallR X (.type "int") cInt := call_int1
theorem r_int1 {i : Int} (q : Q (.int i) H) : cInt [.int i] H Q := .inl ⟨i, rfl, q⟩
theorem r_intB {b : Bool} (q : Q (.int (if b then 1 else 0)) H) : cInt [.bl b] H Q := .inr ⟨b, rfl, q⟩
def cLen (K : PySem.W.Frag) : List V → Hp → VK → Prop := fun xs H Q => ∃ p ys, xs = [.ref p] ∧ (SqL K H p ys ∨ SqT K H p ys) ∧ Q (.int ys.length) H
theorem c_len {X : Cx} : CallR X (.builtin "len") (cLen X.K) := call_len_seq
theorem r_lenL {p : Addr} {ys : List V} (h : SqL K H p ys) (q : Q (.int ys.length) H) : cLen K [.ref p] H Q := ⟨p, ys, rfl, .inl h, q⟩
theorem r_lenT {p : Addr} {ys : List V} (h : SqT K H p ys) (q : Q (.int ys.length) H) : cLen K [.ref p] H Q := ⟨p, ys, rfl, .inr h, q⟩
def cLenS : List V → Hp → VK → Prop := fun xs H Q => ∃ z, xs = [.str z] ∧ z.length ≤ sizeLine ∧ Q (.int z.length) H
def cList (K : PySem.W.Frag) : List V → Hp → VK → Prop := fun xs H Q => ∃ p ys, xs = [.ref p] ∧ (SqL K H p ys ∨ SqT K H p ys) ∧ ∀ l, H l = none → Q (.ref l) (upd H l (.lst ys))
theorem c_list {X : Cx} : CallR X (.type "list") (cList X.K) := call_list_of
theorem r_listL {p : Addr} {ys : List V} (h : SqL K H p ys) (q : ∀ l, H l = none → Q (.ref l) (upd H l (.lst ys))) : cList K [.ref p] H Q := ⟨p, ys, rfl, .inl h, q⟩
theorem r_listT {p : Addr} {ys : List V} (h : SqT K H p ys) (q : ∀ l, H l = none → Q (.ref l) (upd H l (.lst ys))) : cList K [.ref p] H Q := ⟨p, ys, rfl, .inr h, q⟩
def cTup (K : PySem.W.Frag) : List V → Hp → VK → Prop := fun xs H Q => ∃ p ys, xs = [.ref p] ∧ SqL K H p ys ∧ ∀ l o, H l = none → o.cls = .type "tuple" → o.dict = none → Q (.ref l) (upd H l (.frz o (.tup ys)))
theorem c_tup {X : Cx} : CallR X (.type "tuple") (cTup X.K) := call_tupleD
theorem r_tupL {p : Addr} {ys : List V} (h : SqL K H p ys) (q : ∀ l o, H l = none → o.cls = .type "tuple" → o.dict = none → Q (.ref l) (upd H l (.frz o (.tup ys)))) : cTup K [.ref p] H Q := ⟨p, ys, rfl, h, q⟩
end
/-- one step of a reading -/
local macro_rules | `(tactic| walk_at "rd") => `(tactic| first
  | ((with_reducible refine r_var (v := ?v) ?h ?_); (case h => rfl))
  | (with_reducible refine r_c ?_)
  | (with_reducible refine r_op ?_)
  | (with_reducible refine r_cons ?_)
  | (with_reducible refine r_nil ?_)
  | (with_reducible refine r_I0 ?_)
  | (with_reducible refine r_test ?_)
  | (with_reducible refine r_bl ?_)
  | (with_reducible refine r_tB ?_)
  | (with_reducible refine r_chain ?_)
  | (with_reducible refine iteT ?_)
  | (with_reducible refine iteF ?_)
  | (with_reducible refine r_nf ?_)
  | (with_reducible refine r_nt ?_)
  | (with_reducible refine r_not ?_)
  | (with_reducible refine r_and ?_)
  | (with_reducible refine r_or ?_)
  | (with_reducible refine r_notV ?_)
  | (with_reducible refine r_andV ?_)
  | (with_reducible refine r_orV ?_)
  | (with_reducible refine r_ifE ?_)
  | (with_reducible refine r_seq ?_)
  | (with_reducible refine r_asg ?_)
  | (with_reducible refine r_gN ?_)
  | (with_reducible refine r_ifS ?_)
  | (with_reducible refine r_ret ?_)
  | (with_reducible refine r_drop ?_)
  | (with_reducible refine r_retN ?_)
  | (with_reducible refine r_next ?_)
  | (with_reducible refine r_cb ?_)
  | (with_reducible refine r_call ?_)
  | (with_reducible refine r_lst ?_)
  | (with_reducible refine r_tup ?_)
  | (with_reducible refine r_fld ?_)
  | (with_reducible refine r_gsub ?_)
  | (with_reducible refine r_make ?_)
  | (with_reducible refine r_sl ?_)
  | (with_reducible refine r_part ?_)
  | (with_reducible refine r_nopart ?_)
  | (with_reducible refine r_isInt ?_)
  | (with_reducible refine r_tm ?_)
  | (with_reducible refine r_bm ?_)
  | (with_reducible refine r_int1 ?_)
  | (with_reducible refine r_intB ?_)
  | (dsimp only))
end FS
set_option maxHeartbeats 2000000
/-! tuple(text) -/
namespace FS
open PySem PySem.Spec PyProof.Rows L2
section
variable {prog : Program} {w : World} {A : Around} {E : Value → Shared → Prop} {s : Shared}
theorem new_tuple_text {Q₁ : Value → Shared → Prop} (hh : A.handled = none) (x : Str) (t : Tok) (hx : x.cps.size ≤ sizeLine)
    (h : ∀ (h' : Heap) (tk : Nat) (acc : Array Value), (∀ b o, s.heap.get? b = some o → h'.get? b = some o) → ItemsOf (SignAt x) acc x.cps.size →
      Q₁ (.ref h'.objs.size) { s with heap := h'.push { cls := .type "tuple", data := .seq acc }, toks := tk }) :
    codeAny (model prog w) A (.call (.builtin "tuple.__new__") ⟨[.type "tuple", .str x t], []⟩) (wants Q₁ E) s := by
  refine codeAny_of_tree ?_
  show wpAny _ A.in1 (do checkBuiltinCall "tuple.__new__" ⟨[.type "tuple", .str x t], []⟩; again (.builtin "tuple.__new__" ⟨[.type "tuple", .str x t], []⟩)) _ _ s
  refine wpAny_bind (wpAny_of_eq (F.newCall_tuple_1 _) (wpAny_pure ⟨plainId_quiet F.plain_tuple_new _, codeAny_builtin F.entry_tuple_new ?_⟩))
  rw [Around.under_plainId F.plain_tuple_new _]
  have hsub := sub_tuple_self
  have hinit := init_tuple_lookup
  have hmh := madeHere_tuple
  have hTI : s.TypeIs (.str x t) "str" := rfl
  have hh1 : A.in1.handled = none := hh
  wp_walk using wpAny_typeOf hTI, wpAny_collect_str (A := A.in1) hh1 x t
  intro s' acc hk e1 e2 e3 hacc
  show wpAny _ _ (Builtin.Tuple.tupleExact acc.toList.toArray >>= fun v => ret v) _ _ _
  unfold Builtin.Tuple.tupleExact
  refine wpAny_bind (wpAny_newObj_type ?_ (by show acc.toList.toArray.size ≤ sizeLine; simp only [Array.toArray_toList]; rw [hacc.1]; exact hx))
  refine wpAny_pure ?_
  have e : acc.toList.toArray = acc := by simp
  rw [e]
  obtain ⟨h', g', d', t', o'⟩ := s'
  obtain ⟨h0, g0, d0, t0, o0⟩ := s
  cases e1
  cases e2
  cases e3
  exact h h' t' acc hk hacc
theorem call_tuple_text {Q : Value → Shared → Prop} (hh : A.handled = none) (x : Str) (t : Tok) (hx : x.cps.size ≤ sizeLine)
    (hQ : ∀ (h' : Heap) (tk : Nat) (acc : Array Value), (∀ b o, s.heap.get? b = some o → h'.get? b = some o) → ItemsOf (SignAt x) acc x.cps.size →
      Q (.ref h'.objs.size) { s with heap := h'.push { cls := .type "tuple", data := .seq acc }, toks := tk }) :
    wpAny (model prog w) A (call (.type "tuple") [.str x t]) Q E s := by
  refine callType_codes (Q₁ := fun obj s₁ => s₁.TypeIs obj "tuple" ∧ Q obj s₁) F.called_tuple (F.typeCall_tuple_1 _) F.entry_object_init
    (new_tuple_text (A := A.in1) hh x t hx fun h' tk acc hk hacc => ⟨⟨_, Heap.get?_push_size _ rfl, rfl⟩, hQ h' tk acc hk hacc⟩) fun obj s₁ h₁ => ?_
  exact ⟨h₁.1, F.args_object_init_2 obj _, object_init_meets F.called_tuple.init.lookup F.called_tuple.made (by decide) prog w A.in1 _ s₁ ⟨h₁.1, rfl, h₁.2⟩⟩
end
/-- the signs of a text -/
def signs (x : Str) : List V := x.cps.toList.map fun c => V.str ⟨#[c]⟩
theorem signs_at {x : Str} {acc : Array Value} (h : ItemsOf (SignAt x) acc x.cps.size) : Vals (signs x) acc.toList := by
  obtain ⟨h1, h2⟩ := h
  have key : ∀ (l : List Value) (cs : List Nat), l.length = cs.length → (∀ (j : Nat) (v : Value), l[j]? = some v → ∃ c u, cs[j]? = some c ∧ v = Value.str ⟨#[c]⟩ u) → Vals (cs.map fun c => V.str ⟨#[c]⟩) l := by
    intro l
    induction l with
    | nil =>
      intro cs hl _
      cases cs with
      | nil => exact .nil
      | cons c cs => cases hl
    | cons v l ih =>
      intro cs hl hv
      cases cs with
      | nil => cases hl
      | cons c cs =>
        obtain ⟨c', u, e1, e2⟩ := hv 0 v rfl
        have e3 : c = c' := by simpa using e1
        subst e3
        refine .cons ⟨u, e2⟩ (ih cs (by simpa using hl) fun j w hj => ?_)
        obtain ⟨c2, u2, e4, e5⟩ := hv (j + 1) w (by simpa using hj)
        exact ⟨c2, u2, by simpa using e4, e5⟩
  refine key acc.toList x.cps.toList (by simpa using h1) fun j v hj => ?_
  obtain ⟨c, u, e1, e2⟩ := h2 j v (by simpa using hj)
  exact ⟨c, u, by simpa using e1, e2⟩
def cTupS : List V → Hp → VK → Prop := fun xs H Q => ∃ z, xs = [.str z] ∧ z.cps.size ≤ sizeLine ∧ ∀ l, H l = none → Q (.ref l) (upd H l (.tup (signs z)))
theorem c_tupS {X : Cx} (hc : X.calm = true) : CallR X (.type "tuple") cTupS := by
  intro pins s σ H xs us Q I r ⟨z, ev, hz, q⟩
  subst ev
  obtain ⟨u, eu, rx⟩ := vals1 r
  subst eu
  obtain ⟨t, et⟩ := rx
  subst et
  refine call_tuple_text (I.ok.hd hc) z t hz fun h' tk acc hk hacc => ?_
  have hsz : acc.size ≤ sizeLine := by rw [hacc.1]; exact hz
  have I1 : Inv X pins σ H { s with heap := h', toks := tk } := I.kept hk
  have I2 : Inv X pins σ (upd H h'.objs.size (.tup (signs z))) { s with heap := h'.push { cls := .type "tuple", data := .seq acc }, toks := tk } :=
    I1.laid (t' := tk) (fun b o e => Heap.get?_push_of_some _ e) (Nat.le_refl _) (show ObjOk X.prog X.w _ _ _ (.tup (signs z)) from ⟨?_, acc.toList, signs_at hacc, ?_⟩)
  · exact ⟨.ref h'.objs.size, _, I2, rfl, q _ (I1.hok.fresh (Nat.le_refl _))⟩
  · rw [(signs_at hacc).length]
    simpa using hsz
  · have e : acc.toList.toArray = acc := by simp
    have z := IsTup.new h' acc
    rw [← e] at z
    simpa using z
end FS
set_option maxHeartbeats 2000000
/-! all(x in NAME for x in text): the element reads a name of the module. -/
namespace FS
open PySem PySem.Spec PyProof.Rows L2 GxR
/-- the element: a test of the sign, the module's names known -/
def EltG (P : Program) (w : World) (mg : Str → Option Value) (sc : Scope) (x : Str) (elt : Expr) (pb : Nat → Bool) : Prop :=
  ∀ (ce : Env) (A : Around) (E : Value → Shared → Prop) (c : Nat) (t : Tok) (s : Shared) (m : Str → Option Value), ce.scope = sc → ce.globals = mainGlobals → s.heap.Ns mainGlobals mg → s.heap.Ns ce.locals m → m x = some (.str ⟨#[c]⟩ t) →
    wpAny (model P w) A (eval elt ce) (fun y s' => y = .bool (pb c) ∧ Keeps s s') E s
/-- x in NAME, NAME a text of the module -/
theorem eltG_in {P : Program} {w : World} {mg : Str → Option Value} {sc : Scope} {x n : Str} {z : Str} {tz : Tok} {p1 p2 p3 : Pos} (hk : sc.kind = .function) (hl : sc.names.lookup x = some .local) (hn : sc.names.lookup n = some .globalImplicit) (hm : mg n = some (.str z tz))
    (hd : (x == ("__debug__" : Str)) = false := by decide) (hd2 : (n == ("__debug__" : Str)) = false := by decide) :
    EltG P w mg sc x (.Compare (.Name x p1) [.In] [.Name n p2] p3) (fun c => decide (c ∈ z.cps.toList)) := by
  intro ce A E c t s m hs hg hM hL hx
  refine wpAny_Compare1 ?_ rfl
  refine wpAny_Name (wpAny_loadName_local (by rw [hs]; exact hk) (show ce.scope.names.lookup x = some .local by rw [hs]; exact hl) hL hx ?_) hd
  refine Calls.Name_function_global (by rw [hs]; exact hk) (show ce.scope.names.lookup n = some .globalImplicit by rw [hs]; exact hn) (Calls.loadGlobal_global (by rw [hg]; exact hM) hm ?_) hd2
  refine PyProof.Rows.in_str ?_
  refine ⟨?_, keeps_refl _⟩
  rw [StrLaws.found_one z c]
section
variable {X : Cx} {pins : List (Addr × Obj)} {σ : L2.St} {H : Hp} {s : Shared}
theorem gen_strG {c P : Addr} {elt iter : Expr} {x : Str} {px gpos : Pos} {sc : Scope} {pb : Nat → Bool} {te : TE} {k : Nat} {Q' : Value → Shared → Prop} {R : Str → Hp → Prop}
    (hr : Room k X.A) (TB : TabB X.base X.mg c P) (hcode : X.env.code = .ref c) (S : GenS X.env sc x) (hi : PE X iter te) (hel : EltG X.prog X.w X.mg sc x elt pb)
    (hs : ∀ v, genFold iter X.env v = pure v) (I : Inv X pins σ H s) (h : te σ H fun v H1 => ∃ a : Str, v = .str a ∧ TabG H1 P ∧ R a H1)
    (hQ : ∀ a H1 g s5, R a H1 → Ready X pins σ H1 P a pb g s5 → Q' (.ref g) s5) :
    wpAny (model X.prog X.w) X.A (eval (.GeneratorExp elt [⟨.Name x px, iter, [], 0⟩] sc gpos) X.env) Q' X.xe s := by
  refine wpAny_GeneratorExp_walksQ hr.hd S.co (closure_ok S.free) S.cell S.dot S.loc S.kind (by have z := hr.dp; omega) ?_ hs
  refine thn (hi.run pins s σ H _ I h) fun xv s1 ⟨v, H1, I1, r1, a, ev, ⟨ps, hP, ht⟩, q1⟩ => ?_
  subst ev
  obtain ⟨t, et⟩ := r1
  subst et
  refine wpAny_pyIter_str fun o St W hst => ?_
  have hPs : s1.heap.get? P = some { cls := .none, data := .fields ps } := I1.hok P _ hP
  have hPlt := Heap.lt_size hPs
  have hP2 : (s1.heap.push o).get? P = some { cls := .none, data := .fields ps } := Heap.get?_push_of_some _ hPs
  have cd : PySem.W.CodeHd (s1.heap.push o) c P := TB.code.keeps fun b u e => Heap.get?_push_of_some _ (I1.bk b u e)
  have lim2 := I1.nolimit.push o
  have glob : s1.heap.Ns mainGlobals X.mg := I1.mod.glob.keeps I1.bk
  have go : ∀ (code : Value) (h3 : Heap) (tk : Nat) (ps' : Array Value), Heap.ExtBut P (s1.heap.push o) h3 → (s1.heap.push o).objs.size ≤ h3.objs.size → h3.get? P = some { cls := .none, data := .fields ps' } → (∃ more, ps' = ps ++ more) → TriplesOk ps'.toList →
      wpAny (model X.prog X.w) X.A (builtinsFor X.env.globals X.env.builtins) (fun bi s₄ =>
        ∃ Ia fp wr n₀ Pf St₀ pz F, Value.ref s1.heap.objs.size = .ref Ia ∧ (∀ A' : Around, A'.handled = none → Walks X.prog X.w A' Ia fp wr n₀ Pf St₀) ∧ St₀ 0 s₄.heap ∧ (∀ b ∈ fp, b < s₄.heap.objs.size) ∧ s₄.heap.NoLimit ∧ cStatics ∉ wr ∧
          (∀ href : Heap, (∀ b o, s₄.heap.get? b = some o → href.get? b = some o) →
            QuietGen X.prog X.w (genEnv sc (cloFrom X.env.cells sc.names []) s₄.heap.objs.size code bi X.env) x [] elt (List.range s₄.heap.objs.size) wr Pf pz F href) ∧
          (∀ a h₅ tk gs, gs.bare = true → s₄.heap.objs.size < a → h₅.objs.size = a + 1 → (∀ b o, s₄.heap.get? b = some o → h₅.get? b = some o) →
            WalksS X.prog X.w X.A.in4 a (a :: s₄.heap.objs.size :: List.range s₄.heap.objs.size) (s₄.heap.objs.size :: wr) (GenOnlyQ s₄.gens.size) (passing pz n₀ 0).length
              (fun j y => ∃ i, (passing pz n₀ 0)[j]? = some i ∧ F i y) (GenAt X.prog X.w X.A.in4 a s₄.gens.size s₄.heap.objs.size (List.range s₄.heap.objs.size) wr pz n₀ F) →
            GenAt X.prog X.w X.A.in4 a s₄.gens.size s₄.heap.objs.size (List.range s₄.heap.objs.size) wr pz n₀ F 0 { s₄ with gens := s₄.gens.push gs, toks := tk, heap := h₅ } →
            Q' (.ref a) { s₄ with gens := s₄.gens.push gs, toks := tk, heap := h₅ })) X.xe { s1 with heap := h3, toks := tk } := by
    intro code h3 tk ps' hx hsz hP3 hmore ht3
    obtain ⟨bm, ob, e1, e2, e3, e4, e5, e6, e7, e8⟩ := TB.bm
    have hcP : cStatics ≠ P := fun e => by
      obtain ⟨_, ⟨o', es, ep, ho, hd, _⟩, _⟩ := I1.nolimit
      rw [e, hPs] at ho
      cases ho
      cases hd
    have hcl : cStatics < s1.heap.objs.size := by
      obtain ⟨_, hns, _⟩ := I1.nolimit
      exact hns.lt
    have sz2 : (s1.heap.push o).objs.size = s1.heap.objs.size + 1 := Heap.size_push ..
    have kp3 : ∀ b u, b ≠ P → s1.heap.get? b = some u → h3.get? b = some u := fun b u hb e => hx b u hb (Heap.get?_push_of_some _ e)
    have gl3 : h3.Ns mainGlobals X.mg := (glob.push o).extBut hx TB.gP
    have glt : mainGlobals < s1.heap.objs.size := glob.lt
    refine wpAny_builtinsFor (m := X.mg) (by rw [I1.ok.glob]; exact gl3) e1 e2 (kp3 _ _ e4 (I1.bk _ _ e5)) e6 e7 e8 ?_
    refine ⟨s1.heap.objs.size, [s1.heap.objs.size], [s1.heap.objs.size], a.cps.size, SignAt a, St, (fun _ => true), (fun i y => ∃ cc, a.cps[i]? = some cc ∧ y = .bool (pb cc)), rfl, W, ?_, ?_, lim2.extBut hx hcP, ?_, ?_, ?_⟩
    · refine (W X.A hr.hd).frame _ _ _ hst fun b hb u e => hx b u (fun z => ?_) e
      have hb' : b = s1.heap.objs.size := by simpa using hb
      exact Nat.ne_of_lt hPlt (z.symm.trans hb')
    · intro b hb
      have hb' : b = s1.heap.objs.size := by simpa using hb
      rw [hb']
      show s1.heap.objs.size < h3.objs.size
      omega
    · intro z
      have z' : cStatics = s1.heap.objs.size := by simpa using z
      exact Nat.ne_of_lt hcl z'
    · intro href hhref
      refine ⟨fun A' E' i v s₂ m₂ hA hPv hn hm hk => ?_, fun A' E' i v s₂ m₂ hA hPv hp hn hm hk => ?_⟩
      · simp only [List.forIn_nil]
        exact wpAny_pure ⟨rfl, keeps_refl _⟩
      · obtain ⟨cc, u, hcc, ev⟩ := hPv
        subst ev
        have gl2 : s₂.heap.Ns mainGlobals X.mg := by
          obtain ⟨oG, es, ep, hoG, r⟩ := gl3
          refine ⟨oG, es, ep, hk mainGlobals (List.mem_range.mpr (Nat.lt_of_lt_of_le glt (by show s1.heap.objs.size ≤ h3.objs.size; rw [sz2] at hsz; omega))) (fun z => ?_) oG (hhref _ _ hoG), r⟩
          have z' : mainGlobals = s1.heap.objs.size := by simpa using z
          exact Nat.ne_of_lt glt z'
        exact wpAny_mono (hel _ A' E' cc u s₂ m₂ rfl I1.ok.glob gl2 hn hm) (fun y s3 r => ⟨⟨cc, hcc, r.1⟩, r.2⟩) fun _ _ e => e
    · intro g h5 tk5 gs hgb hag hsz5 hk5 W5 hat
      simp only [GxR.passing_true, List.length_range] at W5
      refine hQ a H1 g _ q1 ⟨_, _, _, _, _, W5.in4_1, hat, ?_, fun s' hm => ?_⟩
      · intro j y sj Qj Ej hy hQj
        obtain ⟨i, hij, cc, hcc, ey⟩ := hy
        subst ey
        obtain ⟨hj, ej⟩ := List.getElem?_eq_some_iff.mp hij
        rw [List.getElem_range] at ej
        subst ej
        have e9 : a.cps.toList[j]? = some cc := by rw [Array.getElem?_toList]; exact hcc
        have hQ2 : Qj (trF pb a.cps.toList j) sj := hQj
        rw [trF_some e9] at hQ2
        exact wpAny_truthy_bool hQ2
      · obtain ⟨more, em⟩ := hmore
        have nwr : ∀ b u, s1.heap.get? b = some u → b ∉ h3.objs.size :: [s1.heap.objs.size] := fun b u e hb => by
          have hl := Heap.lt_size e
          have hb' : b = h3.objs.size ∨ b = s1.heap.objs.size := by simpa using hb
          rcases hb' with z | z
          · rw [z] at hl
            have h9 : (h3.objs.size : Nat) < s1.heap.objs.size := hl
            omega
          · rw [z] at hl
            exact Nat.lt_irrefl _ hl
        have J := inv_tab (more := more) (h' := s'.heap) (g' := s'.gens) (d' := s'.drawn) (t' := s'.toks) I1 hP (fun b u hb e => hm.heap b u (nwr b u e) (hk5 b u (kp3 b u hb e)))
          (by rw [← em]; exact hm.heap P _ (nwr P _ hPs) (hk5 P _ hP3)) (AllBare.movedS (I1.bare.push hgb) hm)
        rw [sh_eta s1 s' hm.os] at J
        exact ⟨upd H1 P (.tbl (ps ++ more)), ⟨⟨ps ++ more, upd_same, by rw [← em]; exact ht3⟩, fun b hb => upd_ne hb⟩, J⟩
  refine ⟨lim2, ?_⟩
  cases hf : codeAmong gpos ps.toList with
  | none =>
    refine wpAny_genexprCodeX hcode (cd.code hP2 ht) (cd.tab hP2) hf fun c' h' tk hx hge hlt hco' _ htab' _ => ?_
    obtain ⟨o1, vs, f1, tf, fl, tg, inF, tx, tt, op, _, _, _, _, _, _, _, _, _, htr, _⟩ := hco'
    exact go _ h' tk _ hx (Nat.le_trans hge (Nat.le_of_lt hlt)) htab'.2 ⟨_, rfl⟩ htr
  | some cv =>
    refine wpAny_genexprCode_hit hcode (cd.code hP2 ht) hf ?_
    exact go cv (s1.heap.push o) s1.toks ps (Heap.ExtBut.refl _ _) (Nat.le_refl _) hP2 ⟨#[], by simp⟩ ht

/-- all(test for x in e) -/
theorem pe_allG {c P : Addr} {elt iter : Expr} {x : Str} {px p pos gpos : Pos} {sc : Scope} {pb : Nat → Bool} {te : TE} {k : Nat}
    (hr : Room k X.A) (hg : Gl X "all") (hm : X.mg "all" = none) (hb : bootBuiltins "all" = some (.builtin "all")) (TB : TabB X.base X.mg c P) (hcode : X.env.code = .ref c) (S : GenS X.env sc x) (hi : PE X iter te) (hel : EltG X.prog X.w X.mg sc x elt pb)
    (hs : ∀ v, genFold iter X.env v = pure v)
    (he : starEach [.GeneratorExp elt [⟨.Name x px, iter, [], 0⟩] sc gpos] X.env = (false, eval (.GeneratorExp elt [⟨.Name x px, iter, [], 0⟩] sc gpos) X.env) :: starEach [] X.env := by rfl) :
    PE X (.Call (.Name "all" p) [.GeneratorExp elt [⟨.Name x px, iter, [], 0⟩] sc gpos] [] pos) (tAllS P pb te) := by
  refine ⟨fun pins s σ H Q I h => ?_⟩
  refine wpAny_Call_Name_kw (ld_blt I hg hm hb ?_)
  refine PyProof.Rows.callWith_builtin1 ?_ he (by rfl)
  rw [he]
  show wpAny _ _ (spliced ((false, eval (.GeneratorExp elt [⟨.Name x px, iter, [], 0⟩] sc gpos) X.env) :: backTo pos (starEach [] X.env))) _ _ s
  refine Calls.spliced_cons (gen_strG (R := fun a H1 => ∀ H2, Tabbed P H1 H2 → Q (.bl (a.cps.toList.all pb)) H2) hr TB hcode S hi hel hs I h fun a H1 g s5 hR hG => ?_)
  obtain ⟨fp, wr, G, F, St, W, hst, htr, hI⟩ := hG
  refine Calls.spliced_nil (call_all_walkS (W.self 0 _ _ _ hst ⟨g, fp, wr, G, _, F, St, _, rfl, W, hst, htr, fun s' hmv => ?_⟩))
  obtain ⟨H2, hT, J⟩ := hI s' hmv
  refine ⟨.bl _, H2, J, rfl, ?_⟩
  rw [all_signs a pb]
  exact hR H2 hT
end
end FS
set_option maxHeartbeats 2000000
/-! x(lambda: body): only the maker's own table changes. -/
namespace FS
open PySem PySem.Spec PyProof.Rows L2 LamX
/-- all that was tracked is kept, but what stands at P -/
def But (P : Addr) (H H' : Hp) : Prop := ∀ b o, b ≠ P → H b = some o → H' b = some o
section
variable {X : Cx} {pins : List (Addr × Obj)} {σ : L2.St} {H : Hp} {s : Shared}
theorem lam_makeS {c P : Addr} {params : Arguments} {body : Expr} {sc : Scope} {pos : Pos} {E : Value → Shared → Prop} {Q : Value → Shared → Prop} (I : Inv X pins σ H s) (TB : TabB X.base X.mg c P) (hcode : X.env.code = .ref c)
    (hT : TabS H P (X.env.qual ++ "<lambda>")) (hdef : defaultsOf params X.env = ([], [])) (hfree : ∀ y ∈ sc.names, y.2 = .free → ∃ c, X.env.cells.lookup y.1 = some c)
    (h : ∀ (f c' : Addr) (pm ctv : Value) (H1 : Hp) (s' : Shared), Inv X pins σ H1 s' → But P H H1 → TabS H1 P (X.env.qual ++ "<lambda>") →
      s'.heap.get? f = some (PySem.W.kla_obj "<lambda>" (X.env.qual ++ "<lambda>") params body sc (cloFrom X.env.cells sc.names []) pm c' ctv) → H1 f = none → f ∉ frs X.stack → H1 c' = some (CodeO c' (X.env.qual ++ "<lambda>")) → Q (.ref f) s') :
    wpAny (model X.prog X.w) X.A (eval (.Lambda params body sc pos) X.env) Q E s := by
  obtain ⟨ps, hP, ht, ha⟩ := hT
  refine PySem.W.kla_eval hdef ?_
  have bP := TB.bm.keeps I.bk
  have hP' : s.heap.get? P = some { cls := .none, data := .fields ps } := I.hok P _ hP
  have nofr : ∀ f, s.heap.objs.size ≤ f → f ∉ frs X.stack := fun f hf z => by
    rcases List.mem_cons.mp (I.stkSub _ z) with e | e
    · have l := I.lt
      rw [← e] at l
      exact Nat.lt_irrefl _ (Nat.lt_of_lt_of_le l hf)
    · exact I.nofs hf e
  cases hc : codeAmong pos ps.toList with
  | none =>
    refine PySem.W.kla_makeFunction (mg := X.mg) (c := c) (P := P) (ps := ps) (closure_ok hfree) I.ok.glob (I.mod.glob.keeps I.bk) hcode (TB.code.keeps I.bk) hP' ht hc TB.gP bP fun c' ctv h' tk hx hge hlt hrec htb => ?_
    obtain ⟨c2, oc, vs, t, e2, hoc, hd, hv⟩ := hrec
    cases e2
    have hsz := Nat.le_trans hge (Nat.le_of_lt hlt)
    have nC : H c' = none := I.hok.fresh hge
    have I1 := inv_table (t' := tk) (more := #[rawInt pos.line, rawInt pos.col, .ref c']) (h' := h'.push (PySem.W.kla_obj "<lambda>" (X.env.qual ++ "<lambda>") params body sc (cloFrom X.env.cells sc.names []) ((X.mg "__name__").getD .none) c' ctv)) I hP
      (fun b o hb e => Heap.get?_push_of_some _ (hx b o hb e)) (Heap.get?_push_of_some _ htb) hge ⟨oc, vs, t, Heap.get?_push_of_some _ hoc, hd, hv⟩
    have kb : But P H (upd (upd H P (.tbl (ps ++ #[rawInt pos.line, rawInt pos.col, .ref c']))) c' (CodeO c' (X.env.qual ++ "<lambda>"))) := fun b o n e => by
      rw [upd_ne (ne_of_none e nC), upd_ne n]
      exact e
    have eL : (ps ++ #[rawInt pos.line, rawInt pos.col, .ref c']).toList = ps.toList ++ [rawInt pos.line, rawInt pos.col, .ref c'] := by simp
    have nPc : P ≠ c' := ne_of_none hP nC
    refine h h'.objs.size c' ((X.mg "__name__").getD .none) ctv _ _ I1 kb ⟨_, by rw [upd_ne nPc, upd_same], by rw [eL]; exact PySem.TriplesOk_snoc _ _ _ _ ht, fun p' cv hcv => ?_⟩ (Heap.get?_push_size _ rfl) ?_ (nofr _ hsz) upd_same
    · rw [eL] at hcv
      rcases among_app _ ht hcv with z | z
      · obtain ⟨c0, e1, e2⟩ := ha p' cv z
        refine ⟨c0, e1, kb _ _ (fun q => ?_) e2⟩
        rw [q, hP] at e2
        exact codeO_ne _ (Option.some.inj e2).symm
      · exact ⟨c', z, upd_same⟩
    · have n1 : h'.objs.size ≠ c' := Nat.ne_of_gt hlt
      have n2 : h'.objs.size ≠ P := Nat.ne_of_gt (Nat.lt_of_lt_of_le (Heap.lt_size hP') hsz)
      rw [upd_ne n1, upd_ne n2]
      exact I.hok.fresh hsz
  | some cv =>
    obtain ⟨c', e, hco⟩ := ha pos cv hc
    subst e
    refine PySem.W.kla_makeFunctionHit (mg := X.mg) (c := c) (P := P) (ps := ps) (closure_ok hfree) I.ok.glob (I.mod.glob.keeps I.bk) hcode (TB.code.keeps I.bk) hP' ht hc bP fun ctv h' tk hx hsz => ?_
    have I1 : Inv X pins σ H { s with heap := h'.push (PySem.W.kla_obj "<lambda>" (X.env.qual ++ "<lambda>") params body sc (cloFrom X.env.cells sc.names []) ((X.mg "__name__").getD .none) c' ctv), toks := tk } := I.kept fun b o e => Heap.get?_push_of_some _ (hx b o e)
    exact h h'.objs.size c' ((X.mg "__name__").getD .none) ctv H _ I1 (fun _ _ _ e => e) ⟨ps, hP, ht, ha⟩ (Heap.get?_push_size _ rfl) (I.hok.fresh hsz) (nofr _ hsz) hco
end
def tLamS (P : Addr) (q : Str) (TT : (XK → Hp → VK → Prop) → Hp → VK → Prop) (t : XK → TE) : TE := fun σ H Q => TabS H P q ∧ ∀ H1, But P H H1 → TabS H1 P q → TT (fun E H' Q' => t E σ H' Q') H1 Q
section
variable {X : Cx}
theorem pe_lamS {TT : (XK → Hp → VK → Prop) → Hp → VK → Prop} {x a : Str} {g c P : Addr} {k : Nat} {pg : Arguments} {bg : List Stmt} {sg : Scope} {dV kV doc pm cdv ct oc : Value} {an od : Option Addr} {osl : Array (Option Value)} {Ng : List Str}
    {params : Arguments} {body : Expr} {sc : Scope} {t : XK → TE} {p lpos pos : Pos} (hg : Gl X x) (hm : X.mg x = some (.ref g)) (hk : PySem.W.keepIn X.K (.ref g) = true)
    (lk : X.K.lookup g = some ⟨oc, od, .func (PySem.W.fnOf x x pg bg sg dV kV doc pm an cdv ct), osl⟩) (hcg : PySem.W.codeIn X.K cdv x = true) (hb : L2.Binds X.K (PySem.W.fnOf x x pg bg sg dV kV doc pm an cdv ct) [a] []) (Sg : FnScope Ng [a] sg) (hNg : Ng[0]? = some a) (hva : Vis sg a)
    (hG : GivesTo X Ng x sg g cdv bg a (X.env.qual ++ "<lambda>") TT)
    (TB : TabB X.base X.mg c P) (hcode : X.env.code = .ref c) (hr : Room (k + 2) X.A) (L : LamS X.env.scope sc) (hdef : defaultsOf params X.env = ([], []))
    (hbind : ∀ (q : Str) (cl : List (Str × Addr)) (pm cv ctv : Value), bindArgs (PySem.W.kla_fn "<lambda>" q params body sc cl pm cv ctv) ⟨[], []⟩ = pure [])
    (hbody : ∀ (A : Around) (outer : List Env) (s : Shared) (H : Hp) (E : XK) (f c' : Addr), Room k (A.deeper (lamEnv X sc s.heap.objs.size f c')) → PE (lamCx X A outer s H E sc f c') body (t E))
    (hdb : (x == ("__debug__" : Str)) = false := by decide) (hd : (a == ("__debug__" : Str)) = false := by decide) (hcd : (a == ("__classdict__" : Str)) = false := by decide) :
    PE X (.Call (.Name x p) [.Lambda params body sc lpos] [] pos) (tLamS P (X.env.qual ++ "<lambda>") TT t) := by
  refine ⟨fun pins s σ H Q I ⟨hT, h⟩ => ?_⟩
  refine wpAny_Call_Name_kw (ld_glob I hg hm (PySem.W.callWith_K (h₀ := X.base) I.ok.mod.kin hk ?_ (by rfl) (by rfl)) hdb)
  show wpAny _ _ (spliced ((false, eval (.Lambda params body sc lpos) X.env) :: backTo pos (starEach [] X.env))) _ _ s
  refine Calls.spliced_cons (lam_makeS I TB hcode hT hdef (L.has I.ok) fun f c' pm' ctv H1 s' I1 eN T1 hf hfn hfr hco => Calls.spliced_nil ⟨I1.kIn, ?_⟩)
  have rc : codeAny (model X.prog X.w) X.A (.call (.ref g) ⟨[.ref f], []⟩) (CR C8.CX0 X.stack X.prog X.w H1 s' Q C8.E0) s' := by
    refine run_ofS (N := Ng) (ps := [a]) (us := [.ref f]) (vs := [.ref f]) lk hcg Sg hr I1.env0 (hb s' [.ref f] I1.kIn rfl) (.cons rfl .nil) rfl fun hr' => ?_
    obtain ⟨t', ht', hq'⟩ := hG f c' s' H1 Q (fun E H' Q' => t E σ H' Q') (fun W pn xe E p1 p2 tk hW => pe_act (i := 0) I1 L hf hfn hfr (hbind _ _ _ _ _) tk hW hr' (fun A outer s H hr2 => hbody A outer s H E f c' hr2) hNg hva hd hcd) hco (h H1 eN T1)
    exact ⟨t', ht'.nox, hq'⟩
  refine wpAny_call (codeAny_mono rc fun r s2 hq => ?_)
  cases r with
  | error e => exact (show False from hq).elim
  | ok fl => cases fl with
    | ret u => exact I1.after hq
    | next => exact False.elim hq
    | brk => exact False.elim hq
    | cont => exact False.elim hq
end
end FS
set_option maxHeartbeats 2000000
/-! an own base class of errors: Base.__init__(self, ..); isinstance of an error that has its own dict. -/
namespace FS
open PySem PySem.Spec PyProof.Rows L2
section
variable {X : Cx} {e : Expr} {es : List Expr} {ta : TA} {p1 p2 pos : Pos} {S : Addr} {x : Str}
theorem pe_baseinit {pl : Sem Bool} (hg : Gl X x) (hm : X.mg x = some (.ref S)) (rd : ClX.CRead X.K S (.type "type")) (fv : PySem.W.findCls X.K (.ref S) (.type "type") "__init__" = some (.val (.builtin "ValueError.__init__"))) (ha : PA X (e :: es) ta)
    (hc : eval (.Call (.Attribute (.Name x p1) "__init__" p2) (e :: es) [] pos) X.env = (do
      let ov ← eval (.Name x p1) X.env
      standAt p2.atName
      let (f, first) ← holding [ov] (getMethod ov "__init__" pl)
      callWith pos f first (backTo pos (starEach (e :: es) X.env)) (backToKw pos (keywordEach [] X.env))) := by rfl)
    (hdb : (x == ("__debug__" : Str)) = false := by decide)
    (he : starEach (e :: es) X.env = (false, eval e X.env) :: starEach es X.env := by rfl) (hpl : (backTo pos (starEach es X.env)).any (·.1) = false := by rfl) :
    PE X (.Call (.Attribute (.Name x p1) "__init__" p2) (e :: es) [] pos) (tVeI X.K ta) := by
  refine ⟨fun pins s σ H Q I h => PySem.W.methodCall_KW (ld_glob I hg hm ?_ hdb) hc⟩
  refine PySem.W.method_cls I.kIn rd.ga (PySem.W.cls_value I.kIn rd.rd fv (by decide +kernel) ?_)
  show wpAny _ _ (callWith pos (Value.builtin "ValueError.__init__") [] (backTo pos (starEach (e :: es) X.env)) []) _ _ _
  refine PyProof.Rows.callWith_method1 (thn (ha.run pos pins _ σ H _ (I.tok _) h) fun us s1 ⟨vs, H1, I1, r1, a, C, ws, ev, hl, T, ea, q⟩ => ?_) he hpl
  subst ev
  cases r1 with
  | @cons _ u0 _ ur ra rw' =>
    obtain rfl : u0 = Value.ref a := ra
    have hlen : ur.length ≤ sizeLine := by
      have z := Paired.length rw'
      rw [sizeLine_eq]
      omega
    exact oinit_ok T I1 ea hlen fun s' J => ⟨.non, H1, J, rfl, q⟩
end
end FS
namespace PySem.W
open PySem PySem.Spec PySem.Calls PyProof.Rows
section
variable {prog : Program} {w : World} {A : Around} {E : Value → Shared → Prop} {s : Shared} {K : Frag} {x D : Addr} {ox od : Obj}
/-- x.__class__, x an error with a dict of its own -/
theorem fs_classD {Q : Option Value → Shared → Prop} (hga : findIn K (.ref D) "__getattribute__" = some (some (.builtin "BaseException.__getattribute__"))) (hgt : findIn K (.ref D) "__getattr__" = some none) (hsub : subIn K (.ref D) (.type "BaseException") = some true)
    (hdct : hasDictIn K D = true) (ha : findIn K (.ref D) "__class__" = some (some (.builtin "object.__class__")))
    (hn : specialIn K (.builtin "object.__class__") "__get__" = some (some (.builtin "getset_descriptor.__get__"))) (htk : takesIn K (.builtin "object.__class__") = some true) (hm : mroIn K D (.type "object") = some true)
    (X : K.In s.heap) (I : InstAt s.heap x ox D (some od)) (h : Q (some (.ref D)) { s with toks := s.toks + 1 }) : wpAny (model prog w) A (getAttr? (.ref x) "__class__") Q E s := by
  have hcl : (clsIn K D).isSome = true := by
    obtain ⟨cd, hcd, _⟩ := any_some hdct
    rw [hcd]
    rfl
  have hf := findObj_data (od := od) hcl ha hn htk
  obtain ⟨hp, gs, dr, tk, os⟩ := s
  have T0 := I.type (M := model prog w)
  have T1 := looks_findIn (M := model prog w) X hga
  have T2 := looks_findIn (M := model prog w) X hgt
  have T3 := looks_find (M := model prog w) X I hf
  have sub : Looks (model prog w) hp (isInstance (.ref x) (.type "BaseException")) true := T0.andThen (looks_subIn X hsub)
  have n2 : (Value.builtin "BaseException.__getattribute__" == Value.builtin "object.__getattribute__") = false := by decide +kernel
  have n1 : (onTheHeap (Value.ref D) && Value.builtin "BaseException.__getattribute__" == Value.builtin "object.__getattribute__") = false := by rw [n2]; rfl
  have n0 : (false && onTheHeap (Value.builtin "BaseException.__getattribute__")) = false := rfl
  unfold getAttr? getAttrBy? getAttrBy
  refine wpAny_bind (wpAny_mkText (wpAny_bind (wpAny_attempt (wpAny_holding (wpAny_bind (T0.at (wpAny_bind (T1.at ?_))))))))
  show wpAny _ _ (if (onTheHeap (Value.ref D) && Value.builtin "BaseException.__getattribute__" == Value.builtin "object.__getattribute__") = true then _ else _) _ _ _
  rw [n1, if_neg Bool.false_ne_true]
  unfold getAttrByItsOwn hookBefore
  refine wpAny_bind ?_
  rw [if_pos (show onTheHeap (Value.ref D) = true from rfl)]
  refine T2.at (wpAny_bind (wpAny_attempt (wpAny_holding ?_)))
  unfold callGetattribute
  rw [n0, if_neg Bool.false_ne_true]
  unfold boundAndCalled
  rw [PySem.F.excAttr_ValueError.ga.bind (.ref x)]
  refine wpAny_bind (wpAny_pure ?_)
  show wpAny _ _ (call (.builtin "BaseException.__getattribute__") [.ref x, .str "__class__" tk]) _ _ _
  refine wpAny_call (codeAny_call_builtin PySem.F.excAttr_ValueError.ga.plain PySem.F.entry_bexc_ga ?_)
  refine @check_slot (model prog w) _ _ ⟨hp, gs, dr, tk + 1, os⟩ "BaseException.__getattribute__" "BaseException" "__getattribute__" (.ref x) [.str "__class__" tk] [] _ (by decide +kernel) (by decide +kernel) sub (PySem.F.args_bexc_ga (.ref x) (.str "__class__" tk)) ?_
  unfold Builtin.«object.__getattribute__»
  refine wpAny_bind (wpAny_of_eq (a := ((Value.ref x : Value), [Value.str "__class__" tk])) (by first | rfl | (simp only [slotArgs]; rfl)) ?_)
  refine wpAny_bind (wpAny_pure (wpAny_bind (T0.at (wpAny_bind (T3.at ?_)))))
  show wpAny _ _ (holding [Value.builtin "object.__class__"] (call (.builtin "getset_descriptor.__get__") [.builtin "object.__class__", .ref x, .ref D]) >>= ret) _ _ _
  refine wpAny_bind (wpAny_holding (wpAny_call (class_get (s := ⟨hp, gs, dr, tk + 1, os⟩) (ox := ox) (od := some od) X I hm ?_)))
  refine wpAny_pure ?_
  show wpAny _ _ (handedOut (.ref D)) _ _ _
  rw [handedOut_of (v := .ref D) rfl]
  first
    | exact wpAny_pure (wpAny_pure h)
    | exact wpAny_pure h
    | exact wpAny_pure (wpAny_bind (wpAny_pure (wpAny_pure h)))
theorem fs_kitD (hga : findIn K (.ref D) "__getattribute__" = some (some (.builtin "BaseException.__getattribute__"))) (hgt : findIn K (.ref D) "__getattr__" = some none) (hsub : subIn K (.ref D) (.type "BaseException") = some true) (hdct : hasDictIn K D = true) (ha : findIn K (.ref D) "__class__" = some (some (.builtin "object.__class__")))
    (hn : specialIn K (.builtin "object.__class__") "__get__" = some (some (.builtin "getset_descriptor.__get__"))) (htk : takesIn K (.builtin "object.__class__") = some true) (hm : mroIn K D (.type "object") = some true) :
    KitX K (.ref x) (.ref D) (fun h => ∃ ox od, InstAt h x ox D (some od)) where
  ty := fun _ _ _ ⟨_, _, I⟩ => I.type
  it := fun _ _ X _ => by
    obtain ⟨cd, hcd, _⟩ := any_some hdct
    unfold clsIn at hcd
    split at hcd
    · rename_i _ _ _ _ hk
      intro A' Q' E' s' kp q
      unfold isType loadHead
      exact wpAny_bind (wpAny_loadPart (kp _ _ (X _ _ hk)) (wpAny_pure q))
    · cases hcd
  ne := (handS_kitx_exc (ox := default) (x := x) hga hgt hsub hdct ha hn htk hm).ne
  ca := fun X ⟨_, _, I⟩ k => fs_classD hga hgt hsub hdct ha hn htk hm X I k
end
end PySem.W
namespace FS
open PySem PySem.Spec PyProof.Rows L2
/-- isinstance(e, c), e the error that the suite holds, with a dict of its own -/
theorem call_isD {X : Cx} {a D d : Addr} {oe : Obj} {pn : List (Addr × Obj)} (C : ExcC X.K D) (hz : Zc (.ref D) (some d) oe) (hf : ∃ vs, oe.data = .fields vs) :
    CallR (X.suite a ((a, oe) :: pn)) (.builtin "isinstance") (fun xs H Q => rIsE X.K D a xs H Q ∧ ∃ fs, H d = some (.xd fs)) := by
  intro pins s σ H xs us Q I r h
  obtain ⟨⟨c, cv, b, ev, hcv, e, q⟩, fs, hd⟩ := h
  subst ev
  obtain ⟨u1, u2, eu, rx, rt⟩ := vals2 r
  subst eu
  cases rx
  have ec := hcv _ rt
  subst ec
  obtain ⟨hget, _⟩ := I.pin (a, oe) (List.mem_append.mpr (.inl List.mem_cons_self))
  obtain ⟨vs, hv⟩ := hf
  obtain ⟨mA, hns, _⟩ := (show ObjOk X.prog X.w H s.heap d (.xd fs) from I.hok d _ hd)
  obtain ⟨od, ho, _⟩ := lookIn_ns hns
  have J : PySem.W.InstAt s.heap a oe D (some od) := ⟨hget, hz.1, by unfold PySem.W.notCls; rw [hv] <;> rfl, by rw [hz.2]; exact ho⟩
  exact PySem.W.kia_one (PySem.W.fs_kitD C.hg C.hk C.hs C.hd C.ha C.hn C.ht C.hm) I.kIn ⟨oe, od, J⟩ e (fun z => nomatch z) fun tk => ⟨.bl b, H, I.kept (t' := tk) fun _ _ z => z, rfl, q⟩
end FS
set_option maxHeartbeats 2000000
namespace FS
open PySem PySem.Spec PyProof.Rows L2
abbrev PG0 : Program := PySem.Challenge.pw_flagsteps_k01_invalid_rules_and_states
def top (i : Nat) : Stmt := PG0.main.body.getD i (.Pass ⟨0, 0, 0, 0⟩)
abbrev sIsNumber : Stmt := top 17
abbrev sIsName : Stmt := top 18
abbrev sIsClause : Stmt := top 19
abbrev sChkNames : Stmt := top 20
abbrev sChkClauses : Stmt := top 21
abbrev sChkState : Stmt := top 22
abbrev sFulfils : Stmt := top 24
abbrev sAmong : Stmt := top 25
abbrev sTaken : Stmt := top 28
abbrev sAlike : Stmt := top 29
abbrev sRaised : Stmt := top 30
abbrev sHolds : Stmt := top 31
abbrev sClause : Stmt := top 32
abbrev sOrdered : Stmt := top 33
abbrev sRulesL : Stmt := top 34
abbrev sAreRules : Stmt := top 35
abbrev sAreStates : Stmt := top 36
abbrev sLaw : Stmt := top 37
theorem scIsNumber : FnScope ["value"] ["value"] (defScope sIsNumber) := C8.fnScope_by (by decide +kernel)
theorem scTaken : FnScope ["_law_row", "_law_many", "_law_found", "_law_cell"] ["_law_row", "_law_many"] (defScope sTaken) := C8.fnScope_by (by decide +kernel)
end FS
set_option maxHeartbeats 400000
namespace FS
open PySem PySem.Spec PyProof.Rows L2
/-- one step of a reading -/
local macro_rules | `(tactic| walk_at "rd") => `(tactic| first
  | ((with_reducible refine r_var (v := ?v) ?h ?_); (case h => rfl))
  | (with_reducible refine r_c ?_)
  | (with_reducible refine r_op ?_)
  | (with_reducible refine r_cons ?_)
  | (with_reducible refine r_nil ?_)
  | (with_reducible refine r_I0 ?_)
  | (with_reducible refine r_test ?_)
  | (with_reducible refine r_bl ?_)
  | (with_reducible refine r_tB ?_)
  | (with_reducible refine r_chain ?_)
  | (with_reducible refine iteT ?_)
  | (with_reducible refine iteF ?_)
  | (with_reducible refine r_nf ?_)
  | (with_reducible refine r_nt ?_)
  | (with_reducible refine r_not ?_)
  | (with_reducible refine r_and ?_)
  | (with_reducible refine r_or ?_)
  | (with_reducible refine r_notV ?_)
  | (with_reducible refine r_andV ?_)
  | (with_reducible refine r_orV ?_)
  | (with_reducible refine r_ifE ?_)
  | (with_reducible refine r_seq ?_)
  | (with_reducible refine r_asg ?_)
  | (with_reducible refine r_gN ?_)
  | (with_reducible refine r_ifS ?_)
  | (with_reducible refine r_ret ?_)
  | (with_reducible refine r_drop ?_)
  | (with_reducible refine r_retN ?_)
  | (with_reducible refine r_next ?_)
  | (with_reducible refine r_cb ?_)
  | (with_reducible refine r_call ?_)
  | (with_reducible refine r_lst ?_)
  | (with_reducible refine r_tup ?_)
  | (with_reducible refine r_fld ?_)
  | (with_reducible refine r_gsub ?_)
  | (with_reducible refine r_make ?_)
  | (with_reducible refine r_sl ?_)
  | (with_reducible refine r_part ?_)
  | (with_reducible refine r_nopart ?_)
  | (with_reducible refine r_isInt ?_)
  | (with_reducible refine r_tm ?_)
  | (with_reducible refine r_bm ?_)
  | (with_reducible refine r_int1 ?_)
  | (with_reducible refine r_intB ?_)
  | (dsimp only))
section
variable {P : Program} {w : World} {K : PySem.W.Frag} {mg : Str → Option Value} {base : Heap}
theorem Fd.mk' {x : Str} {CX : CXT} {st : Stmt} {f : Addr} {fd : FuncData} {k : Nat} {ps : List Str} {sp : Sp} (F : Fun K x x st f fd) (hm : mg x = some (.ref f)) (b : Binds K fd ps []) (ok : FnOk P w K mg base CX k f fd ps sp) : Fd CX P w K mg base x k sp := ⟨f, fd, ps, hm, F.kp, ok, b⟩

/-! is_number -/
/-- the kinds of values, by the names of their types -/
def Kd (K : PySem.W.Frag) (H : Hp) (v : V) (n : String) : Prop := n ∈ ["NoneType", "bool", "int", "str", "tuple", "list"] ∧ TyX K H v (.type n)
theorem kit_in {n m : String} (h : n ∈ ["NoneType", "bool", "int", "str", "tuple", "list"]) (hm : m ∈ ["bool", "int", "str", "tuple", "list"]) : kitB n m = some (n == m || (n == "bool" && m == "int")) := by
  have key : ∀ n ∈ ["NoneType", "bool", "int", "str", "tuple", "list"], ∀ m ∈ ["bool", "int", "str", "tuple", "list"], kitB n m = some (n == m || (n == "bool" && m == "int")) := by decide +kernel
  exact key n h m hm
theorem r_isi {K : PySem.W.Frag} {H : Hp} {Q : VK} {v : V} {n m : String} (h : Kd K H v n) (hm : m ∈ ["bool", "int", "str", "tuple", "list"]) (q : Q (.bl (n == m || (n == "bool" && m == "int"))) H) : rIsi K [v, .ty m] H Q :=
  ⟨v, .ty m, .type n, .type m, _, rfl, .ty m, h.2, kit_ty (kit_in h.1 hm), q⟩
def isNum (n : String) : Bool := n == "int"
def spIsNumber (K : PySem.W.Frag) : Sp := fun vs H Q _ => ∃ v n, vs = [v] ∧ Kd K H v n ∧ Q (.bl (isNum n)) H
theorem ok_isNumber {f : Addr} {fd : FuncData} (F : Fun K "is_number" "is_number" sIsNumber f fd) (zI : mg "isinstance" = none) (z1 : mg "int" = none) (z2 : mg "bool" = none) : FnOk P w K mg base CX0 1 f fd ["value"] (spIsNumber K) := by
  refine F.ok scIsNumber (fun vs H Q E h => ?_) (fun cdv A outer s H vs Q E hr h => ?_)
  · obtain ⟨v, n, e, _⟩ := h
    rw [e]
    rfl
  · obtain ⟨v, n, e, hk, q⟩ := h
    subst e
    refine ⟨_, pss_one (ps_ret (pe_and (pe_callB call_isi rfl zI boot_isinstance (pa_cons (pv 0) (pa_cons (pe_bltn (v := .ty "int") rfl z1 boot_int rfl) pa_nil))) (pe_one (pe_not (pe_callB call_isi rfl zI boot_isinstance (pa_cons (pv 0) (pa_cons (pe_bltn (v := .ty "bool") rfl z2 (by decide +kernel) rfl) pa_nil))))))), ?_⟩
    repeat walk_at "rd"
    refine r_isi (m := "int") hk (by decide) ?_
    repeat walk_at "rd"
    refine r_if (fun c => ?_) (fun c => ?_)
    · repeat walk_at "rd"
      refine r_isi (m := "bool") hk (by decide) ?_
      repeat walk_at "rd"
      have key : ∀ n ∈ ["NoneType", "bool", "int", "str", "tuple", "list"], (n == "int" || (n == "bool" && "int" == "int")) = true → (!(n == "bool" || (n == "bool" && "bool" == "int"))) = isNum n := by decide
      rw [key n hk.1 c]
      exact q
    · have key : ∀ n ∈ ["NoneType", "bool", "int", "str", "tuple", "list"], (n == "int" || (n == "bool" && "int" == "int")) = false → false = isNum n := by decide
      rw [key n hk.1 c]
      exact q

/-! _law_taken: what is drawn is some number below the bound -/
/-- the script at a, whatever stands at r -/
def Scr (K : PySem.W.Frag) (H : Hp) (r a : Addr) (ns : List Int) : Prop := ∀ H', Ev r H H' → SqL K H' a (ns.map V.int)
/-- where the row of draws stands, where its script, which -/
structure Rid where
  r : Addr
  a : Addr
  ns : List Int
def Row (K : PySem.W.Frag) (H : Hp) (ρ : Rid) : Prop := ∃ (i s l : Int), Scr K H ρ.r ρ.a ρ.ns ∧ ρ.ns.length ≤ 63 ∧ H ρ.r = some (.lst [.ref ρ.a, .int i, .int s, .int l]) ∧ 0 ≤ i
def spTaken (K : PySem.W.Frag) (G : List Addr) (L : List (Addr × Str)) : Sp := fun vs H Q _ => ∃ (ρ : Rid) (m : Int), vs = [.ref ρ.r, .int m] ∧ Row K H ρ ∧ 0 < m ∧ m < 1000000 ∧
  ∀ (v : Int) (H' : Hp), 0 ≤ v → v < m → GoR G L ρ.r H H' → Row K H' ρ → Q (.int v) H'
theorem Row.mk' {K : PySem.W.Frag} {H H' : Hp} {r a : Addr} {ns : List Int} {i s l : Int} (sc : Scr K H r a ns) (hn : ns.length ≤ 63) (e : Ev r H H') (h : H' r = some (.lst [.ref a, .int i, .int s, .int l])) (hi : 0 ≤ i) : Row K H' ⟨r, a, ns⟩ :=
  ⟨i, s, l, fun H2 e2 => sc H2 (e.trans e2), hn, h, hi⟩
theorem at_ints {ns : List Int} {i : Int} (h0 : 0 ≤ i) (h1 : i < ns.length) : ∃ z, atI (ns.map V.int) i = some (.int z) := by
  obtain ⟨j, rfl⟩ := Int.eq_ofNat_of_zero_le h0
  have hj : j < ns.length := by omega
  exact ⟨ns[j], atI_nat (by rw [List.getElem?_map, List.getElem?_eq_getElem hj]; rfl)⟩
theorem ok_taken {G : List Addr} {L : List (Addr × Str)} {f : Addr} {fd : FuncData} (F : Fun K "_law_taken" "_law_taken" sTaken f fd) (zI : mg "int" = none) (zL : mg "len" = none) : FnOk P w K mg base CX0 1 f fd ["_law_row", "_law_many"] (spTaken K G L) := by
  refine F.ok scTaken (fun vs H Q E h => ?_) (fun cdv A outer s H vs Q E hr h => ?_)
  · obtain ⟨r, m, e, _⟩ := h
    rw [e]
    rfl
  · obtain ⟨r, m, e, hR, m0, m1, q⟩ := h
    subst e
    obtain ⟨r, a, ns⟩ := r
    obtain ⟨i, z, l, sc, hn, hr0, hi⟩ := hR
    dsimp only at sc hn hr0 q
    refine ⟨_, pss_cons (ps_if (pt_cmpR op_gt (pe_ix ix_list (pv 0) pe_int (fun _ _ => rfl)) pe_int (nomark _))
        (pss_cons (ps_set (i := 2) scTaken.nd rfl (Or.inl rfl) (pe_op op_mod (pe_callTy c_int rfl zI boot_int (pa_cons (pe_ix ix_list (pv 0) pe_int (fun _ _ => rfl)) pa_nil)) (pv 1)))
        (pss_cons (ps_asg (pe_op op_fdiv (pe_ix ix_list (pv 0) pe_int (fun _ _ => rfl)) (pv 1)) (pg_sub (pv 0) pe_int set_list (fun _ => rfl)))
        (pss_one (ps_ret (pv 2))))) pss_nil)
      (pss_cons (ps_asg (pe_op op_add (pe_ix ix_list (pv 0) pe_int (fun _ _ => rfl)) pe_int) (pg_sub (pv 0) pe_int set_list (fun _ => rfl)))
      (pss_cons (ps_if (pt_cmpR op_gt (pe_ix ix_list (pv 0) pe_int (fun _ _ => rfl)) (pe_callB c_len rfl zL boot_len (pa_cons (pe_ix ix_list (pv 0) pe_int (fun _ _ => rfl)) pa_nil)) (nomark _))
        (pss_cons (ps_asg (pe_op op_mod (pe_op op_add (pe_op op_mul (pe_ix ix_list (pv 0) pe_int (fun _ _ => rfl)) pe_int) pe_int) pe_int) (pg_sub (pv 0) pe_int set_list (fun _ => rfl)))
        (pss_one (ps_ret (pe_op op_mod (pe_op op_fdiv (pe_ix ix_list (pv 0) pe_int (fun _ _ => rfl)) pe_int) (pv 1))))) pss_nil)
      (pss_cons (ps_set (i := 3) scTaken.nd rfl (Or.inl rfl) (pe_ix ix_list (pe_ix ix_list (pv 0) pe_int (fun _ _ => rfl)) (pe_op op_sub (pe_ix ix_list (pv 0) pe_int (fun _ _ => rfl)) pe_int) (fun _ _ => rfl)))
      (pss_cons (ps_asg (pe_op op_mod (pe_op op_add (pe_op op_add (pe_op op_mul (pe_ix ix_list (pv 0) pe_int (fun _ _ => rfl)) pe_int) (pv 3)) pe_int) pe_int) (pg_sub (pv 0) pe_int set_list (fun _ => rfl)))
      (pss_cons (ps_if (pt_cmpR op_ge (pv 3) (pe_op op_pow pe_int pe_int) (nomark _)) (pss_one (ps_asg (pe_op op_fdiv (pv 3) (pv 1)) (pg_sub (pv 0) pe_int set_list (fun _ => rfl)))) pss_nil)
      (pss_one (ps_ret (pe_op op_mod (pe_callTy c_int rfl zI boot_int (pa_cons (pv 3) pa_nil)) (pv 1))))))))), ?_⟩
    repeat walk_at "rd"
    refine r_ixL (SqL.of hr0) (v := .int l) rfl ?_
    repeat walk_at "rd"
    refine r_if (fun c => ?_) (fun c => ?_)
    · repeat walk_at "rd"
      refine r_ixL (SqL.of hr0) (v := .int l) rfl ?_
      repeat walk_at "rd"
      refine r_I m0 ?_
      repeat walk_at "rd"
      refine r_ixL (SqL.of hr0) (v := .int l) rfl ?_
      repeat walk_at "rd"
      refine r_I ⟨m0, by omega⟩ ?_
      repeat walk_at "rd"
      refine r_set2 hr0 (j := 3) rfl rfl fun H1 g1 h1 => ?_
      repeat walk_at "rd"
      exact q _ _ (Int.emod_nonneg _ (by omega)) (Int.emod_lt_of_pos _ m0) (g1 G L) (.mk' sc hn (g1 G L).1 h1 hi)
    · repeat walk_at "rd"
      refine r_ixL (SqL.of hr0) (v := .int i) rfl ?_
      repeat walk_at "rd"
      refine r_set2 hr0 (j := 1) rfl rfl fun H1 g1 h1 => ?_
      repeat walk_at "rd"
      refine r_ixL (SqL.of h1) (v := .int (i + 1)) rfl ?_
      repeat walk_at "rd"
      refine r_ixL (SqL.of h1) (v := .ref a) rfl ?_
      have sq1 := sc H1 (g1 G L).1
      repeat walk_at "rd"
      refine r_lenL sq1 ?_
      rw [List.length_map]
      repeat walk_at "rd"
      refine r_if (fun c2 => ?_) (fun c2 => ?_)
      · repeat walk_at "rd"
        refine r_ixL (SqL.of h1) (v := .int z) rfl ?_
        repeat walk_at "rd"
        refine r_I (.inr (by decide)) ?_
        repeat walk_at "rd"
        refine r_I (by decide) ?_
        repeat walk_at "rd"
        refine r_set2 h1 (j := 2) rfl rfl fun H2 g2 h2 => ?_
        repeat walk_at "rd"
        refine r_ixL (SqL.of h2) rfl ?_
        repeat walk_at "rd"
        refine r_I ⟨by decide, by decide⟩ ?_
        repeat walk_at "rd"
        refine r_I m0 ?_
        exact q _ _ (Int.emod_nonneg _ (by omega)) (Int.emod_lt_of_pos _ m0) ((g1 G L).trans (g2 G L)) (.mk' sc hn ((g1 G L).trans (g2 G L)).1 h2 (by omega))
      · have hlt : i < ns.length := by
          have z := of_decide_eq_false c2
          omega
        obtain ⟨cell, hcell⟩ := at_ints (ns := ns) (i := i + 1 - 1) (by omega) (by omega)
        repeat walk_at "rd"
        refine r_ixL (SqL.of h1) (v := .ref a) rfl ?_
        repeat walk_at "rd"
        refine r_ixL (SqL.of h1) (v := .int (i + 1)) rfl ?_
        repeat walk_at "rd"
        refine r_ixL sq1 hcell ?_
        repeat walk_at "rd"
        refine r_ixL (SqL.of h1) (v := .int z) rfl ?_
        repeat walk_at "rd"
        refine r_I (.inr (by decide)) ?_
        repeat walk_at "rd"
        refine r_I (by decide) ?_
        repeat walk_at "rd"
        refine r_set2 h1 (j := 2) rfl rfl fun H2 g2 h2 => ?_
        repeat walk_at "rd"
        refine r_I ⟨by decide, by decide, by decide⟩ ?_
        repeat walk_at "rd"
        refine r_if (fun c3 => ?_) (fun c3 => ?_)
        · repeat walk_at "rd"
          refine r_I ⟨m0, by omega⟩ ?_
          repeat walk_at "rd"
          refine r_set2 h2 (j := 3) rfl rfl fun H3 g3 h3 => ?_
          repeat walk_at "rd"
          refine r_I m0 ?_
          exact q _ _ (Int.emod_nonneg _ (by omega)) (Int.emod_lt_of_pos _ m0) (((g1 G L).trans (g2 G L)).trans (g3 G L)) (.mk' sc hn (((g1 G L).trans (g2 G L)).trans (g3 G L)).1 h3 (by omega))
        · repeat walk_at "rd"
          refine r_I m0 ?_
          exact q _ _ (Int.emod_nonneg _ (by omega)) (Int.emod_lt_of_pos _ m0) ((g1 G L).trans (g2 G L)) (.mk' sc hn ((g1 G L).trans (g2 G L)).1 h2 (by omega))
end
/-! the kinds of data -/
def tyOf : PyData → String
  | .none => "NoneType" | .bool _ => "bool" | .int _ => "int" | .str _ => "str" | .list _ => "list" | .tuple _ => "tuple" | .dict _ => "dict"
theorem Dp.kd {K : PySem.W.Frag} {H : Hp} {v : V} {d : PyData} (h : Dp K H v d) : Kd K H v (tyOf d) := by
  cases h with
  | non => exact ⟨by simp [tyOf], .base .non⟩
  | bl b => exact ⟨by simp [tyOf], .base (.bl b)⟩
  | int i => exact ⟨by simp [tyOf], .base (.int i)⟩
  | str x => exact ⟨by simp [tyOf], .base (.str x)⟩
  | lst h _ =>
    refine ⟨by simp [tyOf], ?_⟩
    rcases h with (h | ⟨o, h⟩) | ⟨o, its, n, h, hc, _⟩
    · exact .base (.lst h)
    · exact .base (.frz h)
    · exact .kList h hc
  | tup h _ =>
    refine ⟨by simp [tyOf], ?_⟩
    rcases h with (h | ⟨o, h⟩) | ⟨o, its, n, h, hc, _⟩
    · exact .base (.tup h)
    · exact .fTuple h
    · exact .kTuple h hc
/-! is_name -/
def letters : Str := "abcdefghijklmnopqrstuvwxyz"
def nameOk : PyData → Bool
  | .str z => decide (1 ≤ (z.length : Int)) && decide ((z.length : Int) ≤ 8) && z.cps.toList.all fun c => decide (c ∈ letters.cps.toList)
  | _ => false
def smallS : PyData → Prop
  | .str z => z.length ≤ sizeLine
  | _ => True
theorem c_lenS {X : Cx} : CallR X (.builtin "len") cLenS := call_len_str
theorem r_lenS {H : Hp} {Q : VK} {z : Str} (h : z.length ≤ sizeLine) (q : Q (.int z.length) H) : cLenS [.str z] H Q := ⟨z, rfl, h, q⟩
section
variable {P : Program} {w : World} {K : PySem.W.Frag} {mg : Str → Option Value} {base : Heap} {G : List Addr} {L : List (Addr × Str)}
def spIsName (K : PySem.W.Frag) (G : List Addr) (L : List (Addr × Str)) : Sp := fun vs H Q _ => ∃ v d, vs = [v] ∧ Dp K H v d ∧ smallS d ∧ TBS G L H ∧ ∀ H', Go G L H H' → Q (.bl (nameOk d)) H'
theorem scIsName : FnScope ["value"] ["value"] (defScope sIsName) := C8.fnScope_by (by decide +kernel)
theorem ok_isName {f c Pn : Addr} {fd : FuncData} {tz t8 : Tok} (F : Fun K "is_name" "is_name" sIsName f fd) (hc : fd.code = .ref c) (TB : GxR.TabB base mg c Pn) (hP : Pn ∈ G) (AP : Apart G L) (zI : mg "isinstance" = none) (z1 : mg "str" = none) (zL : mg "len" = none) (zA : mg "all" = none)
    (gL : mg "LETTERS" = some (.str letters tz)) (g8 : mg "MOST_LETTERS" = some (.int 8 t8)) : FnOk P w K mg base CX0 1 f fd ["value"] (spIsName K G L) := by
  obtain ⟨oc, od, kV, doc, pm, an, cdv, ct, osl, efd, lk, hcd⟩ := F.ex
  subst efd
  have ec : cdv = .ref c := hc
  subst ec
  refine fn_of lk hcd scIsName (fun vs H Q E h => ?_) (fun A outer s H vs Q E hr h => ?_)
  · obtain ⟨v, d, e, _⟩ := h
    rw [e]
    rfl
  · obtain ⟨v, d, e, hd, hs, ht, q⟩ := h
    subst e
    refine ⟨_, PSs.nox (pss_cons (ps_if (PW.pt (pw_or (pt_not (pt_val (pe_callB call_isi rfl zI boot_isinstance (pa_cons (pv 0) (pa_cons (pe_bltn (v := .ty "str") rfl z1 boot_str rfl) pa_nil)))))
        (pw_or1 (pt_not (pt_chain op_le op_le pe_int (pe_callB c_lenS rfl zL boot_len (pa_cons (pv 0) pa_nil)) (pe_glob (v := .int 8) rfl g8 ⟨_, rfl⟩))))))
        (pss_one (ps_ret pe_bl)) pss_nil)
      (pss_one (ps_ret (pe_allG (c := c) (P := Pn) (pb := fun c => decide (c ∈ letters.cps.toList)) hr rfl zA (by decide +kernel) TB rfl ⟨rfl, rfl, by decide +kernel, rfl, rfl, fun y hy e => absurd e (by revert y; decide +kernel)⟩ (pv 0) (eltG_in rfl rfl rfl gL) (fun _ => rfl))))), ?_⟩
    repeat walk_at "rd"
    refine r_isi (m := "str") (Dp.kd hd) (by decide) ?_
    repeat walk_at "rd"
    by_cases hz : ∃ z, d = .str z
    · obtain ⟨z, rfl⟩ := hz
      cases hd
      refine r_if (fun cc => absurd cc (by simp [tyOf])) (fun _ => ?_)
      repeat walk_at "rd"
      refine r_lenS hs ?_
      repeat walk_at "rd"
      refine r_if (fun c1 => ?_) (fun c1 => ?_)
      · repeat walk_at "rd"
        refine r_if (fun c2 => ?_) (fun c2 => ?_)
        · repeat walk_at "rd"
          have e : nameOk (.str z) = false := by
            have c3 : decide ((z.length : Int) ≤ 8) = false := by simpa using c2
            show (decide (1 ≤ (z.length : Int)) && decide ((z.length : Int) ≤ 8) && _) = false
            rw [c3]
            simp
          have q0 := q H (Go.refl H)
          rw [e] at q0
          exact q0
        · repeat walk_at "rd"
          refine r_var (v := .str z) rfl ⟨z, rfl, ht.1 Pn hP, fun H2 hT => ?_⟩
          have e : nameOk (.str z) = z.cps.toList.all fun c => decide (c ∈ letters.cps.toList) := by
            have c3 : decide ((z.length : Int) ≤ 8) = true := by simpa using c2
            show (decide (1 ≤ (z.length : Int)) && decide ((z.length : Int) ≤ 8) && _) = _
            rw [c3, c1]
            rfl
          have q0 := q H2 (Go.tabbed AP hP ht hT)
          rw [e] at q0
          exact q0
      · repeat walk_at "rd"
        have e : nameOk (.str z) = false := by
          show (decide (1 ≤ (z.length : Int)) && decide ((z.length : Int) ≤ 8) && _) = false
          rw [c1]
          rfl
        have q0 := q H (Go.refl H)
        rw [e] at q0
        exact q0
    · have e1 : (!(tyOf d == "str" || tyOf d == "bool" && "str" == "int")) = true := by
        cases d <;> first | rfl | exact absurd ⟨_, rfl⟩ hz
      have e2 : nameOk d = false := by
        cases d <;> first | rfl | exact absurd ⟨_, rfl⟩ hz
      rw [if_pos e1]
      repeat walk_at "rd"
      have q0 := q H (Go.refl H)
      rw [e2] at q0
      exact q0
end
/-! is_clause -/
def inD (d : PyData) (ds : List PyData) : Bool := ds.any fun z => PyData.eqv z d
def wordsD : List PyData := [.str "needs", .str "excludes", .str "either"]
def clauseOk (nd : List PyData) : PyData → Bool
  | .tuple [x, y, z] => inD x wordsD && inD y nd && inD z nd
  | _ => false
theorem r_inT {K : PySem.W.Frag} {H : Hp} {Q : VK} {x y : V} {d : PyData} {ds : List PyData} (h1 : Dp K H x d) (h2 : Dp K H y (.tuple ds)) (s1 : lv 8 d = true) (s2 : lv 8 (.tuple ds) = true) (q : Q (.bl (inD d ds)) H) : rInT K id x y H Q :=
  ⟨d, ds, h1, h2, shaped_of s1, shaped_of s2, q⟩
theorem r_ninT {K : PySem.W.Frag} {H : Hp} {Q : VK} {x y : V} {d : PyData} {ds : List PyData} (h1 : Dp K H x d) (h2 : Dp K H y (.tuple ds)) (s1 : lv 8 d = true) (s2 : lv 8 (.tuple ds) = true) (q : Q (.bl (!inD d ds)) H) : rInT K not x y H Q :=
  ⟨d, ds, h1, h2, shaped_of s1, shaped_of s2, q⟩
theorem lv_mem {n : Nat} {ds : List PyData} (h : lv (n + 1) (.tuple ds) = true) : ∀ d ∈ ds, lv n d = true := by
  have h' : ds.all (lv n) = true := by simpa only [lv] using h
  exact List.all_eq_true.mp h'
theorem lv_tup {n : Nat} {ds : List PyData} (h : ∀ d ∈ ds, lv n d = true) : lv (n + 1) (.tuple ds) = true := by
  have h' : ds.all (lv n) = true := List.all_eq_true.mpr h
  simpa only [lv] using h'
theorem lv_succ : ∀ {n : Nat} {d : PyData}, lv n d = true → lv (n + 1) d = true
  | _, .none, _ => by simp [lv]
  | _, .bool _, _ => by simp [lv]
  | _, .int _, _ => by simp [lv]
  | n, .str z, h => by cases n <;> simpa [lv] using h
  | n + 1, .tuple ds, h => lv_tup fun d hd => lv_succ (lv_mem h d hd)
  | n + 1, .list ds, h => by
    have h' : ds.all (lv n) = true := by simpa only [lv] using h
    have g : ds.all (lv (n + 1)) = true := List.all_eq_true.mpr fun d hd => lv_succ (List.all_eq_true.mp h' d hd)
    simpa only [lv] using g
  | 0, .tuple ds, h => by simp [lv] at h
  | 0, .list ds, h => by simp [lv] at h
  | 0, .dict ds, h => by simp [lv] at h
  | n + 1, .dict ds, h => by simp [lv] at h
section
variable {P : Program} {w : World} {K : PySem.W.Frag} {mg : Str → Option Value} {base : Heap} {G : List Addr} {L : List (Addr × Str)}
theorem three_of {K : PySem.W.Frag} {H : Hp} : ∀ {xs : List V} {ds : List PyData}, DpAll K H xs ds → xs.length = 3 → ∃ x y z dx dy dz, xs = [x, y, z] ∧ ds = [dx, dy, dz] ∧ Dp K H x dx ∧ Dp K H y dy ∧ Dp K H z dz
  | [x, y, z], _, .cons hx (.cons hy (.cons hz .nil)), _ => ⟨x, y, z, _, _, _, rfl, rfl, hx, hy, hz⟩
theorem u65 {k : Nat} {A : Around} (r : Room k A) : A.units + 65 < cLine := by
  have z := r.un
  omega
def spIsClause (K : PySem.W.Frag) : Sp := fun vs H Q _ => ∃ nv v nd d, vs = [nv, v] ∧ Dp K H nv (.tuple nd) ∧ Dp K H v d ∧ lv 8 (.tuple nd) = true ∧ lv 7 d = true ∧ Q (.bl (clauseOk nd d)) H
theorem scIsClause : FnScope ["names", "value"] ["names", "value"] (defScope sIsClause) := C8.fnScope_by (by decide +kernel)
theorem ok_isClause {f aW : Addr} {fd : FuncData} (F : Fun K "is_clause" "is_clause" sIsClause f fd) (zI : mg "isinstance" = none) (z1 : mg "tuple" = none) (zL : mg "len" = none)
    (gW : mg "WORDS" = some (.ref aW)) (hW : ∀ H, SqT K H aW [.str "needs", .str "excludes", .str "either"]) : FnOk P w K mg base CX0 1 f fd ["names", "value"] (spIsClause K) := by
  refine F.ok scIsClause (fun vs H Q E h => ?_) (fun cdv A outer s H vs Q E hr h => ?_)
  · obtain ⟨nv, v, nd, d, e, _⟩ := h
    rw [e]
    rfl
  · obtain ⟨nv, v, nd, d, e, hn, hd, l1, l2, q⟩ := h
    subst e
    have hu := u65 hr
    refine ⟨_, pss_cons (ps_if (PW.pt (pw_or (pt_not (pt_val (pe_callB call_isi rfl zI boot_isinstance (pa_cons (pv 1) (pa_cons (pe_bltn (v := .ty "tuple") rfl z1 boot_tuple rfl) pa_nil)))))
        (pw_or1 (pt_cmpR op_ne (pe_callB c_len rfl zL boot_len (pa_cons (pv 1) pa_nil)) pe_int (nomark _)))))
        (pss_one (ps_ret pe_bl)) pss_nil)
      (pss_one (ps_ret (pe_and (pe_cmpR (op_inT hu) (pe_ix ix_tup (pv 1) pe_int (fun _ _ => rfl)) (pe_glob (v := .ref aW) rfl gW rfl) rfl)
        (pe_and (pe_cmpR (op_inT hu) (pe_ix ix_tup (pv 1) pe_int (fun _ _ => rfl)) (pv 0) rfl)
        (pe_one (pe_cmpR (op_inT hu) (pe_ix ix_tup (pv 1) pe_int (fun _ _ => rfl)) (pv 0) rfl)))))), ?_⟩
    repeat walk_at "rd"
    refine r_isi (m := "tuple") (Dp.kd hd) (by decide) ?_
    repeat walk_at "rd"
    by_cases hz : ∃ ds, d = .tuple ds
    · obtain ⟨ds, rfl⟩ := hz
      cases hd with
      | @tup a xs _ ha hxs =>
        refine r_if (fun cc => absurd cc (by simp [tyOf])) (fun _ => ?_)
        repeat walk_at "rd"
        refine r_lenT ha ?_
        repeat walk_at "rd"
        refine r_ne rfl ?_
        repeat walk_at "rd"
        have hlen := Dps.length hxs
        refine r_if (fun c1 => ?_) (fun c1 => ?_)
        · repeat walk_at "rd"
          have e : clauseOk nd (.tuple ds) = false := by
            have n3 : ds.length ≠ 3 := fun z => by
              rw [← hlen] at z
              rw [z] at c1
              exact absurd c1 (by decide)
            match ds, n3 with
            | [], _ => rfl
            | [_], _ => rfl
            | [_, _], _ => rfl
            | [_, _, _], h => exact absurd rfl h
            | _ :: _ :: _ :: _ :: _, _ => rfl
          rw [e] at q
          exact q
        · have n3 : xs.length = 3 := by
            have z : decide (V.int (xs.length : Int) = V.int 3) = true := by simpa using c1
            have z2 := V.int.inj (of_decide_eq_true z)
            omega
          obtain ⟨x, y, z, dx, dy, dz, e1, e2, hx, hy, hzz⟩ := three_of hxs n3
          subst e1 e2
          · have m := lv_mem l2
            repeat walk_at "rd"
            refine r_ixT ha (v := x) rfl ?_
            repeat walk_at "rd"
            refine r_inT (ds := wordsD) hx (.tup (hW _) (.cons (.str _) (.cons (.str _) (.cons (.str _) .nil)))) (lv_succ (lv_succ (m dx (by simp)))) (by decide +kernel) ?_
            repeat walk_at "rd"
            have e : clauseOk nd (.tuple [dx, dy, dz]) = (inD dx wordsD && inD dy nd && inD dz nd) := rfl
            rw [e] at q
            refine r_if (fun c2 => ?_) (fun c2 => ?_)
            · repeat walk_at "rd"
              refine r_ixT ha (v := y) rfl ?_
              repeat walk_at "rd"
              refine r_inT hy hn (lv_succ (lv_succ (m dy (by simp)))) l1 ?_
              repeat walk_at "rd"
              refine r_if (fun c3 => ?_) (fun c3 => ?_)
              · repeat walk_at "rd"
                refine r_ixT ha (v := z) rfl ?_
                repeat walk_at "rd"
                refine r_inT hzz hn (lv_succ (lv_succ (m dz (by simp)))) l1 ?_
                rw [c2, c3] at q
                exact q
              · rw [c2, c3] at q
                exact q
            · rw [c2] at q
              exact q
    · have e1 : (!(tyOf d == "tuple" || tyOf d == "bool" && "tuple" == "int")) = true := by
        cases d <;> first | rfl | exact absurd ⟨_, rfl⟩ hz
      have e2 : clauseOk nd d = false := by
        cases d <;> first | rfl | exact absurd ⟨_, rfl⟩ hz
      rw [if_pos e1]
      repeat walk_at "rd"
      rw [e2] at q
      exact q
end
/-! the errors -/
theorem num_small : ∀ i : Nat, i ≤ 99 → (Str.ofString (toString ((i : Nat) : Int))).length ≤ 20 ∧ ((i : Nat) : Int).natAbs.log2 < 1920 := by
  intro i hi
  have key : ∀ i : Fin 100, (Str.ofString (toString ((i.val : Nat) : Int))).length ≤ 20 ∧ ((i.val : Nat) : Int).natAbs.log2 < 1920 := by decide +kernel
  exact key ⟨i, by omega⟩
theorem len_app (a b : Str) : (a ++ b).length = a.length + b.length := by
  show (a.cps ++ b.cps).size = _
  exact Array.size_append
theorem j_nil {σ : L2.St} {H : Hp} {acc : Str} {Q : Str → Hp → Prop} (q : Q acc H) : tJs [] acc σ H Q := q
theorem j_str {σ : L2.St} {H : Hp} {acc x : Str} {ts : List TE} {Q : Str → Hp → Prop} (h : (acc ++ x).length ≤ sizeLine) (q : tJs ts (acc ++ x) σ H Q) : tJs (tC (.str x) :: ts) acc σ H Q := ⟨x, rfl, h, q⟩
theorem j_fmtS {σ : L2.St} {H : Hp} {i : Nat} {acc x : Str} {ts : List TE} {Q : Str → Hp → Prop} (hv : σ[i]? = some (some (.str x))) (h1 : x.length ≤ sizeLine) (h : (acc ++ x).length ≤ sizeLine) (q : tJs ts (acc ++ x) σ H Q) : tJs (tFmt (tVar i) :: ts) acc σ H Q :=
  ⟨.str x, hv, .inl ⟨x, rfl, h1, x, rfl, h, q⟩⟩
theorem j_fmtI {σ : L2.St} {H : Hp} {i k : Nat} {acc : Str} {ts : List TE} {Q : Str → Hp → Prop} (hv : σ[i]? = some (some (.int (k : Nat)))) (hk : k ≤ 99) (ha : acc.length ≤ 1000) (q : ∀ out : Str, out.length ≤ 2000 → tJs ts out σ H Q) : tJs (tFmt (tVar i) :: ts) acc σ H Q := by
  obtain ⟨h1, h2⟩ := num_small k hk
  have h3 : (acc ++ Str.ofString (toString ((k : Nat) : Int))).length ≤ 2000 := by rw [len_app]; omega
  exact ⟨.int (k : Nat), hv, .inr ⟨_, rfl, h2, _, rfl, Nat.le_trans h3 (by decide), q _ h3⟩⟩
theorem r_ostV {K : PySem.W.Frag} {f : Str} {D : Ends} {σ : L2.St} {H : Hp} {i j : Nat} {y : V} {a C : Addr} (hy : σ[j]? = some (some y)) (hx : σ[i]? = some (some (.ref a))) (T : OexC K C) (n : PySem.W.findIn K (.ref C) f = some none)
    (q : (H a = some (exo a C none) ∧ ∀ dx, H dx = none → dx ≠ a → D.nx σ (upd (upd H dx (exd dx [(f, y)])) a (exo a C (some dx)))) ∨
      ∃ (dx : Addr) (fs : List (Str × V)), H a = some (exo a C (some dx)) ∧ H dx = some (exd dx fs) ∧ fs.length ≤ 900 ∧ D.nx σ (upd H dx (exd dx ((f, y) :: fs)))) : tOst K f (tVar i) (tVar j) D σ H :=
  ⟨y, hy, .ref a, hx, a, C, rfl, T, n, q⟩
/-- what is known of an error class with an __init__ at f -/
structure ErrC (K : PySem.W.Frag) (mg : Str → Option Value) (x : Str) (C : Addr) : Prop where
  oex : OexC K C
  g : mg x = some (.ref C)
  ini : ∃ f, PySem.W.findIn K (.ref C) "__init__" = some (some (.ref f)) ∧ PySem.W.typeIn K (.ref f) = some (.type "function")
section
variable {P : Program} {w : World} {K : PySem.W.Frag} {mg : Str → Option Value} {base : Heap} {G : List Addr} {L : List (Addr × Str)}
abbrev sErr (i : Nat) : Stmt := inClass (top i) 0
theorem scIR : FnScope ["self", "part", "index"] ["self", "part", "index"] (defScope (sErr 2)) := C8.fnScope_by (by decide +kernel)
theorem scIS : FnScope ["self", "index"] ["self", "index"] (defScope (sErr 7)) := C8.fnScope_by (by decide +kernel)
/-- StepError: its __init__ is ValueError's -/
structure BaseC (K : PySem.W.Frag) (mg : Str → Option Value) (S : Addr) : Prop where
  g : mg "StepError" = some (.ref S)
  rd : ClX.CRead K S (.type "type")
  fv : PySem.W.findCls K (.ref S) (.type "type") "__init__" = some (.val (.builtin "ValueError.__init__"))
def spIR (K : PySem.W.Frag) (C : Addr) : Sp := fun vs H Q _ => ∃ a p, ∃ i : Nat, vs = [.ref a, .str p, .int (i : Nat)] ∧ H a = some (exo a C none) ∧ p.length ≤ 100 ∧ i ≤ 99 ∧
  ∀ d, H d = none → d ≠ a → Q .non (upd (upd (upd H d (exd d [("part", .str p)])) a (exo a C (some d))) d (exd d [("index", .int (i : Nat)), ("part", .str p)]))
theorem ok_IR {f C S : Addr} {fd : FuncData} (F : Fun K "__init__" "InvalidRules.__init__" (sErr 2) f fd) (B : BaseC K mg S) (T : OexC K C) (n1 : PySem.W.findIn K (.ref C) "part" = some none) (n2 : PySem.W.findIn K (.ref C) "index" = some none) : FnOk P w K mg base CX0 1 f fd ["self", "part", "index"] (spIR K C) := by
  refine F.ok scIR (fun vs H Q E h => ?_) (fun cdv A outer s H vs Q E hr h => ?_)
  · obtain ⟨a, p, i, e, _⟩ := h
    rw [e]
    rfl
  · obtain ⟨a, p, i, e, ha, hp, hi, q⟩ := h
    subst e
    refine ⟨_, pss_cons (ps_expr (pe_baseinit rfl B.g B.rd B.fv (pa_cons (pv 0) (pa_cons (pe_joined (.cons pe_str (.cons (pe_fmt (pv 1)) (.cons pe_str (.cons (pe_fmt (pv 2)) .nil))))) pa_nil))))
      (pss_cons (ps_ost (pv 0) (pv 1)) (pss_one (ps_ost (pv 0) (pv 2)))), ?_⟩
    refine r_seq (r_drop (r_cons (r_var (v := .ref a) rfl (r_cons ?_))))
    refine j_str (by decide) (j_fmtS (x := p) rfl (Nat.le_trans hp (by decide)) ?_ (j_str ?_ (j_fmtI (k := i) rfl hi ?_ fun out ho => ?_)))
    · rw [len_app]
      exact Nat.le_trans (Nat.add_le_add (Nat.le_of_eq rfl) hp) (by decide)
    · rw [len_app, len_app]
      exact Nat.le_trans (Nat.add_le_add (Nat.add_le_add (Nat.le_of_eq rfl) hp) (Nat.le_of_eq rfl)) (by decide)
    · rw [len_app, len_app]
      exact Nat.le_trans (Nat.add_le_add (Nat.add_le_add (Nat.le_of_eq rfl) hp) (Nat.le_of_eq rfl)) (by decide)
    · refine j_nil (r_nil ?_)
      refine ⟨a, C, [.str out], rfl, (by show 1 ≤ 1000; decide), T, ha, ?_⟩
      repeat walk_at "rd"
      refine r_ostV (y := .str p) (a := a) rfl rfl T n1 (.inl ⟨ha, fun d hd hne => ?_⟩)
      exact r_ostV (y := .int (i : Nat)) (a := a) rfl rfl T n2 (.inr ⟨d, _, upd_same, by rw [upd_ne hne, upd_same], (by show 1 ≤ 900; decide), q d hd hne⟩)
def spIS (K : PySem.W.Frag) (C : Addr) : Sp := fun vs H Q _ => ∃ a, ∃ i : Nat, vs = [.ref a, .int (i : Nat)] ∧ H a = some (exo a C none) ∧ i ≤ 99 ∧
  ∀ d, H d = none → d ≠ a → Q .non (upd (upd H d (exd d [("index", .int (i : Nat))])) a (exo a C (some d)))
theorem ok_IS {f C S : Addr} {fd : FuncData} (F : Fun K "__init__" "InvalidState.__init__" (sErr 7) f fd) (B : BaseC K mg S) (T : OexC K C) (n2 : PySem.W.findIn K (.ref C) "index" = some none) : FnOk P w K mg base CX0 1 f fd ["self", "index"] (spIS K C) := by
  refine F.ok scIS (fun vs H Q E h => ?_) (fun cdv A outer s H vs Q E hr h => ?_)
  · obtain ⟨a, i, e, _⟩ := h
    rw [e]
    rfl
  · obtain ⟨a, i, e, ha, hi, q⟩ := h
    subst e
    refine ⟨_, pss_cons (ps_expr (pe_baseinit rfl B.g B.rd B.fv (pa_cons (pv 0) (pa_cons (pe_joined (.cons pe_str (.cons (pe_fmt (pv 1)) .nil))) pa_nil))))
      (pss_one (ps_ost (pv 0) (pv 1))), ?_⟩
    refine r_seq (r_drop (r_cons (r_var (v := .ref a) rfl (r_cons ?_))))
    refine j_str (by decide) (j_fmtI (k := i) rfl hi (by decide) fun out ho => ?_)
    refine j_nil (r_nil ?_)
    refine ⟨a, C, [.str out], rfl, (by show 1 ≤ 1000; decide), T, ha, ?_⟩
    repeat walk_at "rd"
    exact r_ostV (y := .int (i : Nat)) (a := a) rfl rfl T n2 (.inl ⟨ha, fun d hd hne => q d hd hne⟩)
end
/-! what an error tells -/
def Told (K : PySem.W.Frag) (cls : Value) (d : Option Addr) (H : Hp) (D : PyData) : Prop :=
  (∃ a p i, cls = .ref (He.ga K "InvalidRules") ∧ d = some a ∧ H a = some (.xd [("index", .int i), ("part", .str p)]) ∧ D = .tuple [.str "rules", .str p, .int i]) ∨
  (∃ a i, cls = .ref (He.ga K "InvalidState") ∧ d = some a ∧ H a = some (.xd [("index", .int i)]) ∧ D = .tuple [.str "invalid", .int i]) ∨
  (cls = .ref (He.ga K "InvalidClause") ∧ d = none ∧ D = .tuple [.str "clause"]) ∨ (cls = .ref (He.ga K "UnknownClause") ∧ d = none ∧ D = .tuple [.str "noclause"])
section
variable {P : Program} {w : World} {K : PySem.W.Frag} {mg : Str → Option Value} {base : Heap} {G : List Addr} {L : List (Addr × Str)}
/-- an error class with its __init__, which keeps sp -/
structure Err (P : Program) (w : World) (K : PySem.W.Frag) (mg : Str → Option Value) (base : Heap) (x : Str) (sp : Sp) : Prop where
  oex : OexC K (He.ga K x)
  g : mg x = some (.ref (He.ga K x))
  ini : ∃ f fd ps, PySem.W.findIn K (.ref (He.ga K x)) "__init__" = some (some (.ref f)) ∧ PySem.W.typeIn K (.ref f) = some (.type "function") ∧ FnOk P w K mg base CX0 1 f fd ps sp ∧ Binds K fd ps []
theorem pmk_err {X : Cx} {x : Str} {k : Nat} {sp : Sp} {ta : TA} {p pos : Pos} {e : Expr} {es : List Expr} (T : Err X.prog X.w X.K X.mg X.base x sp) (hr : Room k X.A) (ha : PA X (e :: es) ta) (hk : 2 ≤ k := by decide) (hg : Gl X x := by rfl)
    (hdb : (x == ("__debug__" : Str)) = false := by decide) (he : starEach (e :: es) X.env = (false, eval e X.env) :: starEach es X.env := by rfl) (hpl : (backTo pos (starEach es X.env)).any (·.1) = false := by rfl) :
    PMk X (.Call (.Name x p) (e :: es) [] pos) (tMkO (He.ga X.K x) sp [] ta) := by
  obtain ⟨f, fd, ps, h1, h2, F, b⟩ := T.ini
  exact pmk_oex T.oex h1 h2 F (hr.mono hk) b .nil pass0 hg T.g ha hdb he hpl
theorem r_mkIR {σ : L2.St} {H : Hp} {ta : TA} {x : Str} {Q : XK} (h : ta σ H fun vs H1 => ∃ (p : Str) (i : Nat), vs = [.str p, .int (i : Nat)] ∧ p.length ≤ 100 ∧ i ≤ 99 ∧ ∀ d Hx, (∀ b o, H1 b = some o → Hx b = some o) → Hx d = some (.xd [("index", .int (i : Nat)), ("part", .str p)]) → Q (.ref (He.ga K x)) (some d) Hx)
    (hm : ∀ Q1 Q2 : List V → Hp → Prop, (∀ vs H1, Q1 vs H1 → Q2 vs H1) → ta σ H Q1 → ta σ H Q2) : tMkO (He.ga K x) (spIR K (He.ga K x)) [] ta σ H Q := by
  refine hm _ _ ?_ h
  rintro vs H1 ⟨p, i, ev, hp, hi, q⟩
  subst ev
  refine ⟨(by show 2 ≤ 1000; decide), fun a ha => ⟨a, p, i, rfl, upd_same, hp, hi, fun d hd hne => ⟨rfl, d, _, ?_, upd_same, ?_, q d _ ?_ upd_same⟩⟩⟩
  · rw [upd_ne hne.symm, upd_same]
  · rw [upd_ne hne] at hd
    exact hd
  · intro b o e
    have hd' : H1 d = none := by
      rw [upd_ne hne] at hd
      exact hd
    have nd := ne_of_none e hd'
    have na := ne_of_none e ha
    rw [upd_ne nd, del_ne na, upd_ne nd, upd_ne na, upd_ne nd, upd_ne na]
    exact e
theorem r_mkIS {σ : L2.St} {H : Hp} {ta : TA} {x : Str} {Q : XK} (h : ta σ H fun vs H1 => ∃ (i : Nat), vs = [.int (i : Nat)] ∧ i ≤ 99 ∧ ∀ d Hx, (∀ b o, H1 b = some o → Hx b = some o) → Hx d = some (.xd [("index", .int (i : Nat))]) → Q (.ref (He.ga K x)) (some d) Hx)
    (hm : ∀ Q1 Q2 : List V → Hp → Prop, (∀ vs H1, Q1 vs H1 → Q2 vs H1) → ta σ H Q1 → ta σ H Q2) : tMkO (He.ga K x) (spIS K (He.ga K x)) [] ta σ H Q := by
  refine hm _ _ ?_ h
  rintro vs H1 ⟨i, ev, hi, q⟩
  subst ev
  refine ⟨(by show 1 ≤ 1000; decide), fun a ha => ⟨a, i, rfl, upd_same, hi, fun d hd hne => ?_⟩⟩
  have hd' : H1 d = none := by
    rw [upd_ne hne] at hd
    exact hd
  refine ⟨rfl, d, _, upd_same, by rw [upd_ne hne, upd_same], hd', q d _ ?_ upd_same⟩
  intro b o e
  have nd := ne_of_none e hd'
  have na := ne_of_none e ha
  rw [upd_ne nd, del_ne na, upd_ne na, upd_ne nd, upd_ne na]
  exact e
theorem m_cons {te : TE} {ta : TA} {σ : L2.St} (h1 : ∀ (H : Hp) (Q1 Q2 : VK), (∀ v H1, Q1 v H1 → Q2 v H1) → te σ H Q1 → te σ H Q2) (h2 : ∀ (H : Hp) (Q1 Q2 : List V → Hp → Prop), (∀ v H1, Q1 v H1 → Q2 v H1) → ta σ H Q1 → ta σ H Q2) :
    ∀ (H : Hp) (Q1 Q2 : List V → Hp → Prop), (∀ v H1, Q1 v H1 → Q2 v H1) → tCons te ta σ H Q1 → tCons te ta σ H Q2 := fun H _ _ k q => h1 H _ _ (fun _ H1 z => h2 H1 _ _ (fun xs H2 y => k _ _ y) z) q
theorem m_nil {σ : L2.St} : ∀ (H : Hp) (Q1 Q2 : List V → Hp → Prop), (∀ v H1, Q1 v H1 → Q2 v H1) → tNil σ H Q1 → tNil σ H Q2 := fun _ _ _ k q => k _ _ q
theorem m_var {i : Nat} {σ : L2.St} : ∀ (H : Hp) (Q1 Q2 : VK), (∀ v H1, Q1 v H1 → Q2 v H1) → tVar i σ H Q1 → tVar i σ H Q2 := fun _ _ _ k ⟨v, h, q⟩ => ⟨v, h, k _ _ q⟩
theorem m_c {c : V} {σ : L2.St} : ∀ (H : Hp) (Q1 Q2 : VK), (∀ v H1, Q1 v H1 → Q2 v H1) → tC c σ H Q1 → tC c σ H Q2 := fun _ _ _ k q => k _ _ q
end
section
variable {σ : L2.St} {H : Hp} {D : Ends} {K : PySem.W.Frag}
theorem forET {te : TE} {g : TG} {tb : TS} {a : Addr} {xs : List V} (he : ∀ R : VK, R (.ref a) H → te σ H R) (hq : SqT K H a xs) (Pv : Nat → L2.St → Hp → Prop) (h0 : Pv 0 σ H) (hG : ∀ i σ H, i ≤ xs.length → Pv i σ H → SqT K H a xs)
    (hs : ∀ i x T σ H H', xs[i]? = some x → H T = none → H' = upd H T (.tup [.int (i : Nat), x]) → Pv i σ H → g (.ref T) σ H' fun σ2 H2 => tb { D with nx := Pv (i + 1), ct := Pv (i + 1), bk := D.nx } σ2 H2) (hd : ∀ σ H, Pv xs.length σ H → D.nx σ H) :
    tFor (iEnumT K (tCons te tNil)) g tb D σ H := by
  refine he _ ⟨a, xs, rfl, hq, for_it walk_enumT Pv h0 hG ?_ hd⟩
  rintro i x σ H1 H2 hi p ⟨T, x1, y, ev, hT, eH, e1, e2⟩
  cases e1
  rw [ev]
  exact hs i y T σ H1 H2 e2 hT eH p
theorem forT {te : TE} {g : TG} {tb : TS} {a : Addr} {xs : List V} (he : ∀ R : VK, R (.ref a) H → te σ H R) (hq : SqT K H a xs) (Pv : Nat → L2.St → Hp → Prop) (h0 : Pv 0 σ H) (hG : ∀ i σ H, i ≤ xs.length → Pv i σ H → SqT K H a xs)
    (hs : ∀ i x σ H, xs[i]? = some x → Pv i σ H → g x σ H fun σ2 H2 => tb { D with nx := Pv (i + 1), ct := Pv (i + 1), bk := D.nx } σ2 H2) (hd : ∀ σ H, Pv xs.length σ H → D.nx σ H) :
    tFor (iTup K te) g tb D σ H := by
  refine he _ ⟨a, rfl, ⟨xs, hq⟩, for_it walk_tup Pv h0 hG ?_ hd⟩
  rintro i x σ H1 H2 hi p ⟨eH, e2⟩
  rw [eH]
  exact hs i x σ H1 e2 p
theorem forL {te : TE} {g : TG} {tb : TS} {a : Addr} {xs : List V} (he : ∀ R : VK, R (.ref a) H → te σ H R) (hq : SqL K H a xs) (Pv : Nat → L2.St → Hp → Prop) (h0 : Pv 0 σ H) (hG : ∀ i σ H, i ≤ xs.length → Pv i σ H → SqL K H a xs)
    (hs : ∀ i x σ H, xs[i]? = some x → Pv i σ H → g x σ H fun σ2 H2 => tb { D with nx := Pv (i + 1), ct := Pv (i + 1), bk := D.nx } σ2 H2) (hd : ∀ σ H, Pv xs.length σ H → D.nx σ H) :
    tFor (iList K te) g tb D σ H := by
  refine he _ ⟨a, rfl, ⟨xs, hq⟩, for_it walk_list Pv h0 hG ?_ hd⟩
  rintro i x σ H1 H2 hi p ⟨eH, e2⟩
  rw [eH]
  exact hs i x σ H1 e2 p
theorem r_pair {T : Addr} {x y : V} {i j : Nat} {Q : L2.St → Hp → Prop} (h : SqT K H T [x, y]) (q : Q ((σ.set i (some x)).set j (some y)) H) : gTup K 2 (gCons (gName i) (gCons (gName j) gNil)) (.ref T) σ H Q :=
  ⟨T, _, rfl, h, rfl, _, _, rfl, _, _, rfl, rfl, q⟩
end
/-! check_state -/
def scanS : List Str → Nat → List PyData → Option Nat
  | _, _, [] => none
  | later, i, .str z :: ds => if z ∈ later then scanS (later.drop (later.idxOf z + 1)) (i + 1) ds else some i
  | _, i, _ :: _ => some i
def stateBad (ns : List Str) : PyData → Option Nat
  | .tuple ds => scanS ns 0 ds
  | _ => some 0
theorem inD_strs (z : Str) (ns : List Str) : inD (.str z) (ns.map PyData.str) = decide (z ∈ ns) := by
  induction ns with
  | nil => rfl
  | cons y ns ih =>
    show ((y == z) || inD (.str z) (ns.map PyData.str)) = _
    rw [ih]
    by_cases h : y = z
    · subst h
      simp
    · have h' : (y == z) = false := by simpa using h
      have h2 : ¬ z = y := fun q => h q.symm
      rw [h', Bool.false_or]
      simp [h2]
theorem inD_no {d : PyData} (h : ∀ z, d ≠ .str z) (ns : List Str) : inD d (ns.map PyData.str) = false := by
  induction ns with
  | nil => rfl
  | cons y ns ih =>
    show (PyData.eqv (.str y) d || inD d (ns.map PyData.str)) = false
    rw [ih]
    cases d with
    | str z => exact absurd rfl (h z)
    | _ => simp [PyData.eqv]
section
variable {P : Program} {w : World} {K : PySem.W.Frag} {mg : Str → Option Value} {base : Heap} {G : List Addr} {L : List (Addr × Str)}
theorem sqT_go {K : PySem.W.Frag} {H H' : Hp} {a : Addr} {xs : List V} (h : SqT K H a xs) (e : LamX.ExtN H H') : SqT K H' a xs := by
  rcases h with (h | ⟨o, h⟩) | h
  · exact .inl (.inl (e _ _ h fun _ z => by cases z))
  · exact .inl (.inr ⟨o, e _ _ h fun _ z => by cases z⟩)
  · exact .inr h
theorem dps_strs {K : PySem.W.Frag} {H : Hp} (xs : List Str) : DpAll K H (xs.map V.str) (xs.map PyData.str) := Ims.dp (ims_strs xs)
theorem idxOf_get {z : Str} : ∀ {l : List Str}, z ∈ l → l[l.idxOf z]? = some z := fun {l} h => by
  have hl := List.idxOf_lt_length_of_mem h
  rw [List.getElem?_eq_getElem hl, List.getElem_idxOf hl]
theorem idxOf_least {z : Str} : ∀ {l : List Str} {m : Nat}, m < l.idxOf z → l[m]? = some z → False
  | [], m, h, e => by simp at e
  | y :: l, m, h, e => by
    by_cases hy : y = z
    · subst hy
      simp at h
    · have e1 : (y :: l).idxOf z = l.idxOf z + 1 := by
        rw [List.idxOf_cons]
        have hb : (y == z) = false := by simpa using hy
        rw [hb]
        rfl
      rw [e1] at h
      cases m with
      | zero => exact hy (by simpa using e)
      | succ m => exact idxOf_least (z := z) (l := l) (m := m) (by omega) (by simpa using e)
theorem cut_from {xs : List V} {k : Nat} (h : k ≤ xs.length) : cutV xs (some (k : Int)) none = xs.drop k := by
  unfold cutV
  rw [HT.sIx_nat, HT.sIx_none, Nat.min_eq_left h, List.take_of_length_le]
  rw [List.length_drop]
  exact Nat.le_refl _
theorem cut_to {xs : List V} {k : Nat} (h : k ≤ xs.length) : cutV xs none (some (k : Int)) = xs.take k := by
  unfold cutV
  rw [HT.sIx_nat, HT.sIx_none, Nat.min_eq_left h, List.drop_zero, Nat.sub_zero]
def goodS (ns : List Str) : Prop := (∀ z ∈ ns, PyData.strOk z = true) ∧ ns.length ≤ 60
def spChkState (K : PySem.W.Frag) (G : List Addr) (L : List (Addr × Str)) : Sp := fun vs H Q E => ∃ (an : Addr) (v : V) (ns : List Str) (d : PyData), vs = [.ref an, v] ∧ NT H an (ns.map V.str) ∧ Dp K H v d ∧ goodS ns ∧ lv 7 d = true ∧ (∀ ds, d = .tuple ds → ds.length ≤ 60) ∧
  (∀ i, stateBad ns d = some i → ∀ cls dd H', Go G L H H' → Told K cls dd H' (.tuple [.str "invalid", .int (i : Nat)]) → E cls dd H') ∧ (stateBad ns d = none → ∀ H', Go G L H H' → Q .non H')
theorem scChkState : FnScope ["names", "state", "later", "index", "name"] ["names", "state"] (defScope sChkState) := C8.fnScope_by (by decide +kernel)
theorem ok_chkState {f : Addr} {fd : FuncData} (F : Fun K "check_state" "check_state" sChkState f fd) (zI : mg "isinstance" = none) (z1 : mg "tuple" = none) (zE : mg "enumerate" = none) (T : Err P w K mg base "InvalidState" (spIS K (He.ga K "InvalidState"))) :
    FnOk P w K mg base (L2.CX P w) 3 f fd ["names", "state"] (spChkState K G L) := by
  refine F.okX scChkState (fun vs H Q E h => ?_) (fun cdv A outer s H vs Q E hr h => ?_)
  · obtain ⟨an, v, ns, d, e, _⟩ := h
    rw [e]
    rfl
  · obtain ⟨an, v, ns, d, e, hn, hd, gs, l1, hl, qE, q⟩ := h
    subst e
    refine ⟨_, pss_cons (ps_if (pt_not (pt_val (pe_callB call_isi rfl zI boot_isinstance (pa_cons (pv 1) (pa_cons (pe_bltn (v := .ty "tuple") rfl z1 boot_tuple rfl) pa_nil)))))
        (pss_one (ps_raise rfl (takes_of rfl rfl rfl rfl) (pmk_err T hr (pa_cons pe_int pa_nil)))) pss_nil)
      (pss_cons (ps_set (i := 2) scChkState.nd rfl (Or.inl rfl) (pv 0))
      (pss_one (ps_for (passes_of rfl) rfl (pi_enumT rfl zE (pa_cons (pv 1) pa_nil)) (pg_tup rfl (pgs_cons (pg_name (i := 3) scChkState.nd rfl (.inl rfl)) (pgs_cons (pg_name (i := 4) scChkState.nd rfl (.inl rfl)) pgs_nil)))
        (pss_cons (ps_if (pt_cmpR (op_notInT (u65 hr)) (pv 4) (pv 2) rfl) (pss_one (ps_raise rfl (takes_of rfl rfl rfl rfl) (pmk_err T hr (pa_cons (pv 3) pa_nil)))) pss_nil)
        (pss_one (ps_set (i := 2) scChkState.nd rfl (Or.inl rfl) (pe_slice sl_tupD (pv 2) (po_some (pe_op op_add (pe_tm PySem.F.plainAttrs_tuple PySem.F.slot_tuple_index PySem.F.type_tuple_index mt_tup_index (pv 2) (pa_cons (pv 4) pa_nil)) pe_int)) po_none))))))), ?_⟩
    repeat walk_at "rd"
    refine r_isi (m := "tuple") (Dp.kd hd) (by decide) ?_
    repeat walk_at "rd"
    by_cases hz : ∃ ds, d = .tuple ds
    · obtain ⟨ds, rfl⟩ := hz
      cases hd with
      | @tup a xs _ ha hxs =>
        refine r_if (fun cc => absurd cc (by simp [tyOf])) (fun _ => ?_)
        repeat walk_at "rd"
        have hlen := Dps.length hxs
        have hs60 := hl ds rfl
        have m := lv_mem l1
        refine forET (a := a) (xs := xs) (fun R z => ⟨_, rfl, z⟩) ha (fun i σ H' => ∃ (lt : List Str) (al : Addr) (x3 x4 : Option V), σ = [some (.ref an), some (.ref a), some (.ref al), x3, x4] ∧ Go G L H H' ∧ NT H' al (lt.map V.str) ∧ goodS lt ∧ scanS ns 0 ds = scanS lt i (ds.drop i)) ?_ ?_ ?_ ?_
        · exact ⟨ns, an, none, none, rfl, Go.refl H, hn, gs, rfl⟩
        · rintro i σ H' _ ⟨_, _, _, _, _, g, _⟩
          exact sqT_go ha g.1
        · rintro i y T2 σ H1 H2 ey hT rfl ⟨lt, al, x3, x4, rfl, g, hal, gl, hsc⟩
          have g2 : Go G L H (upd H1 T2 (.tup [.int (i : Nat), y])) := g.trans (Go.new hT)
          refine r_pair (.of upd_same) ?_
          obtain ⟨dy, hdy, hy⟩ := Dps.get hxs ey
          have hy2 := Dp.go g2.1 hy
          have hal2 : NT (upd H1 T2 (.tup [.int (i : Nat), y])) al (lt.map V.str) := hal.kt (Go.kt (G := G) (L := L) (Go.new hT))
          generalize upd H1 T2 (.tup [.int (i : Nat), y]) = H3 at g2 hy2 hal2
          have hil := (List.getElem?_eq_some_iff.mp hdy).1
          have hdrop : ds.drop i = dy :: ds.drop (i + 1) := by
            obtain ⟨hl1, e1⟩ := List.getElem?_eq_some_iff.mp hdy
            rw [← e1]
            exact List.drop_eq_getElem_cons hl1
          rw [hdrop] at hsc
          repeat walk_at "rd"
          refine r_ninT (ds := lt.map PyData.str) hy2 (.tup hal2.seq (dps_strs lt)) (lv_succ (lv_succ (m dy (List.mem_of_getElem? hdy)))) (lv_tup fun d hd => ?_) ?_
          · obtain ⟨z, hz, e⟩ := List.mem_map.mp hd
            rw [← e]
            exact gl.1 z hz
          repeat walk_at "rd"
          refine r_if (fun c1 => ?_) (fun c1 => ?_)
          · repeat walk_at "rd"
            refine r_mkIS ?_ (m_cons (m_var) m_nil _)
            repeat walk_at "rd"
            have e3 : stateBad ns (.tuple ds) = some i := by
              show scanS ns 0 ds = some i
              rw [hsc]
              cases dy with
              | str z =>
                rw [inD_strs] at c1
                have nz : ¬ z ∈ lt := by simpa using c1
                exact if_neg nz
              | _ => rfl
            exact ⟨i, rfl, by omega, fun dd Hx k hx => qE i e3 _ _ Hx (g2.trans (Go.same k)) (.inr (.inl ⟨dd, _, rfl, rfl, hx, rfl⟩))⟩
          · have hin : ∃ z, dy = .str z ∧ z ∈ lt := by
              cases dy with
              | str z =>
                rw [inD_strs] at c1
                exact ⟨z, rfl, by simpa using c1⟩
              | _ =>
                rw [inD_no (fun z => by intro q; cases q)] at c1
                exact absurd c1 (by decide)
            obtain ⟨z, rfl, hzl⟩ := hin
            cases hy2
            have hj : lt[lt.idxOf z]? = some z := idxOf_get hzl
            have hlt : lt.idxOf z < lt.length := (List.getElem?_eq_some_iff.mp hj).1
            repeat walk_at "rd"
            refine ⟨⟨al, _, rfl, hal2⟩, ?_⟩
            repeat walk_at "rd"
            refine ⟨al, lt, z, lt.idxOf z, rfl, rfl, hal2.seq, hj, fun m hm e => idxOf_least hm e, ?_⟩
            repeat walk_at "rd"
            have ecut : cutV (lt.map V.str) (some ((lt.idxOf z : Nat) + 1 : Int)) none = (lt.drop (lt.idxOf z + 1)).map V.str := by
              have e0 : (((lt.idxOf z : Nat) : Int) + 1) = ((lt.idxOf z + 1 : Nat) : Int) := by omega
              rw [e0, cut_from, List.map_drop]
              rw [List.length_map]
              omega
            have gl' : goodS (lt.drop (lt.idxOf z + 1)) := ⟨fun y hy => gl.1 y (List.mem_of_mem_drop hy), Nat.le_trans (by rw [List.length_drop]; omega) gl.2⟩
            have hsc' : scanS ns 0 ds = scanS (lt.drop (lt.idxOf z + 1)) (i + 1) (ds.drop (i + 1)) := by
              rw [hsc]
              exact if_pos hzl
            refine ⟨al, _, rfl, hal2, fun e => ?_, fun p o hp h1 h2 => ?_⟩
            · rw [ecut] at e
              have e2 := congrArg List.length e
              rw [List.length_map, List.length_map, List.length_drop] at e2
              omega
            · repeat walk_at "rd"
              rw [ecut]
              exact ⟨_, p, _, _, rfl, g2.trans (Go.new hp), .of h1 h2, gl', hsc'⟩
        · rintro σ H' ⟨lt, al, x3, x4, rfl, g, hal, gl, hsc⟩
          refine q ?_ H' g
          show scanS ns 0 ds = none
          rw [hsc, hlen, List.drop_length]
          rfl
    · have e1 : (!(tyOf d == "tuple" || tyOf d == "bool" && "tuple" == "int")) = true := by
        cases d <;> first | rfl | exact absurd ⟨_, rfl⟩ hz
      have e2 : stateBad ns d = some 0 := by
        cases d <;> first | rfl | exact absurd ⟨_, rfl⟩ hz
      rw [if_pos e1]
      repeat walk_at "rd"
      refine r_mkIS ?_ (m_cons (m_c) m_nil _)
      repeat walk_at "rd"
      exact ⟨0, rfl, by decide, fun dd Hx k hx => qE 0 e2 _ _ Hx (Go.same k) (.inr (.inl ⟨dd, _, rfl, rfl, hx, rfl⟩))⟩
end
/-! check_names -/
def scanN : List PyData → List PyData → Option Nat
  | _, [] => none
  | pre, d :: ds => if decide ((10 : Int) ≤ (pre.length : Nat)) || (!nameOk d || inD d pre) then some pre.length else scanN (pre ++ [d]) ds
def namesBad : PyData → Option Nat
  | .tuple [] => some 0
  | .tuple ds => scanN [] ds
  | _ => some 0
section
variable {P : Program} {w : World} {K : PySem.W.Frag} {mg : Str → Option Value} {base : Heap} {G : List Addr} {L : List (Addr × Str)}
def rulesE (p : Str) (i : Nat) : PyData := .tuple [.str "rules", .str p, .int (i : Nat)]
theorem told_rules {dd : Addr} {H : Hp} {p : Str} {i : Nat} (h : H dd = some (.xd [("index", .int (i : Nat)), ("part", .str p)])) : Told K (.ref (He.ga K "InvalidRules")) (some dd) H (rulesE p i) := .inl ⟨dd, p, _, rfl, rfl, h, rfl⟩
def spChkNames (K : PySem.W.Frag) (G : List Addr) (L : List (Addr × Str)) : Sp := fun vs H Q E => ∃ (v : V) (d : PyData), vs = [v] ∧ Dp K H v d ∧ lv 7 d = true ∧ TBS G L H ∧ (∀ ds, d = .tuple ds → ds.length ≤ 60 ∧ ∀ x ∈ ds, smallS x) ∧
  (∀ i, namesBad d = some i → ∀ cls dd H', Go G L H H' → Told K cls dd H' (rulesE "names" i) → E cls dd H') ∧ (namesBad d = none → ∀ H', Go G L H H' → Q .non H')
theorem scChkNames : FnScope ["names", "index", "name"] ["names"] (defScope sChkNames) := C8.fnScope_by (by decide +kernel)
theorem dps_at {K : PySem.W.Frag} {H : Hp} {xs : List V} {ds : List PyData} {i : Nat} {v : V} (h : DpAll K H xs ds) (e : xs[i]? = some v) : ∃ d, ds[i]? = some d ∧ Dp K H v d ∧ ds.drop i = d :: ds.drop (i + 1) ∧ i < ds.length ∧ ds.take (i + 1) = ds.take i ++ [d] := by
  obtain ⟨d, h1, h2⟩ := Dps.get h e
  obtain ⟨hl, e1⟩ := List.getElem?_eq_some_iff.mp h1
  refine ⟨d, h1, h2, ?_, hl, ?_⟩
  · rw [← e1]
    exact List.drop_eq_getElem_cons hl
  · rw [← e1]
    exact (List.take_append_getElem hl).symm
theorem ok_chkNames {f : Addr} {fd : FuncData} {t10 : Tok} (F : Fun K "check_names" "check_names" sChkNames f fd) (zI : mg "isinstance" = none) (z1 : mg "tuple" = none) (zL : mg "len" = none) (zE : mg "enumerate" = none) (g10 : mg "MOST_NAMES" = some (.int 10 t10))
    (T : Err P w K mg base "InvalidRules" (spIR K (He.ga K "InvalidRules"))) (N : Fd CX0 P w K mg base "is_name" 1 (spIsName K G L)) : FnOk P w K mg base (L2.CX P w) 3 f fd ["names"] (spChkNames K G L) := by
  refine F.okX scChkNames (fun vs H Q E h => ?_) (fun cdv A outer s H vs Q E hr h => ?_)
  · obtain ⟨v, d, e, _⟩ := h
    rw [e]
    rfl
  · obtain ⟨v, d, e, hd, l1, ht, hl, qE, q⟩ := h
    subst e
    refine ⟨_, pss_cons (ps_if (PW.pt (pw_or (pt_not (pt_val (pe_callB call_isi rfl zI boot_isinstance (pa_cons (pv 0) (pa_cons (pe_bltn (v := .ty "tuple") rfl z1 boot_tuple rfl) pa_nil)))))
          (pw_or1 (pt_cmpR op_eq (pe_callB c_len rfl zL boot_len (pa_cons (pv 0) pa_nil)) pe_int (nomark _)))))
        (pss_one (ps_raise rfl (takes_of rfl rfl rfl rfl) (pmk_err T hr (pa_cons pe_str (pa_cons pe_int pa_nil))))) pss_nil)
      (pss_one (ps_for (passes_of rfl) rfl (pi_enumT rfl zE (pa_cons (pv 0) pa_nil)) (pg_tup rfl (pgs_cons (pg_name (i := 1) scChkNames.nd rfl (.inl rfl)) (pgs_cons (pg_name (i := 2) scChkNames.nd rfl (.inl rfl)) pgs_nil)))
        (pss_one (ps_if (PW.pt (pw_or (pt_cmpR op_ge (pv 1) (pe_glob (v := .int 10) rfl g10 ⟨_, rfl⟩) (nomark _)) (pw_or (pt_not (pt_val (pe_fd (E := E0) N hr pass0 (pa_cons (pv 2) pa_nil))))
            (pw_or1 (pt_cmpR (op_inT (u65 hr)) (pv 2) (pe_slice sl_tupA (pv 0) po_none (po_some (pv 1))) rfl)))))
          (pss_one (ps_raise rfl (takes_of rfl rfl rfl rfl) (pmk_err T hr (pa_cons pe_str (pa_cons (pv 1) pa_nil))))) pss_nil)))), ?_⟩
    repeat walk_at "rd"
    refine r_isi (m := "tuple") (Dp.kd hd) (by decide) ?_
    repeat walk_at "rd"
    by_cases hz : ∃ ds, d = .tuple ds
    · obtain ⟨ds, rfl⟩ := hz
      cases hd with
      | @tup a xs _ ha hxs =>
        refine r_if (fun cc => absurd cc (by simp [tyOf])) (fun _ => ?_)
        repeat walk_at "rd"
        refine r_lenT ha ?_
        repeat walk_at "rd"
        refine r_eq rfl ?_
        repeat walk_at "rd"
        have hlen := Dps.length hxs
        obtain ⟨hs60, hsm⟩ := hl ds rfl
        have m := lv_mem l1
        refine r_if (fun c1 => ?_) (fun c1 => ?_)
        · have z0 := V.int.inj (of_decide_eq_true c1)
          have e0 : ds = [] := List.length_eq_zero_iff.mp (by omega)
          repeat walk_at "rd"
          refine r_mkIR ?_ (m_cons m_c (m_cons m_c m_nil) _)
          repeat walk_at "rd"
          refine ⟨"names", 0, rfl, by decide, by decide, fun dd Hx k hx => qE 0 (by rw [e0]; rfl) _ _ Hx (Go.same k) (told_rules hx)⟩
        · have ne : ds ≠ [] := fun z => by
            rw [z] at hlen
            rw [hlen] at c1
            exact absurd c1 (by decide)
          have enb : namesBad (.tuple ds) = scanN [] ds := by
            cases ds with
            | nil => exact absurd rfl ne
            | cons _ _ => rfl
          repeat walk_at "rd"
          refine forET (a := a) (xs := xs) (fun R z => ⟨_, rfl, z⟩) ha (fun i σ H' => ∃ (x3 x4 : Option V), σ = [some (.ref a), x3, x4] ∧ Go G L H H' ∧ scanN [] ds = scanN (ds.take i) (ds.drop i)) ?_ ?_ ?_ ?_
          · exact ⟨none, none, rfl, Go.refl H, rfl⟩
          · rintro i σ H' _ ⟨_, _, _, g, _⟩
            exact sqT_go ha g.1
          · rintro i y T2 σ H1 H2 ey hT rfl ⟨x3, x4, rfl, g, hsc⟩
            have g2 : Go G L H (upd H1 T2 (.tup [.int (i : Nat), y])) := g.trans (Go.new hT)
            refine r_pair (.of upd_same) ?_
            obtain ⟨dy, hdy, hy, hdrop, hil, htk⟩ := dps_at hxs ey
            generalize upd H1 T2 (.tup [.int (i : Nat), y]) = H3 at g2
            have hy2 := Dp.go g2.1 hy
            rw [hdrop] at hsc
            have htl : (ds.take i).length = i := by
              rw [List.length_take]
              omega
            have hmem := List.mem_of_getElem? hdy
            have bad : (decide ((10 : Int) ≤ (i : Nat)) || (!nameOk dy || inD dy (ds.take i))) = true → namesBad (.tuple ds) = some i := fun c => by
              rw [enb, hsc]
              show (if decide ((10 : Int) ≤ ((ds.take i).length : Nat)) || (!nameOk dy || inD dy (ds.take i)) then some (ds.take i).length else _) = some i
              rw [htl]
              exact if_pos c
            repeat walk_at "rd"
            refine r_if (fun c2 => ?_) (fun c2 => ?_)
            · repeat walk_at "rd"
              refine r_mkIR ?_ (m_cons m_c (m_cons m_var m_nil) _)
              repeat walk_at "rd"
              exact ⟨"names", i, rfl, by decide, by omega, fun dd Hx k hx => qE i (bad (by rw [c2]; rfl)) _ _ Hx (g2.trans (Go.same k)) (told_rules hx)⟩
            · repeat walk_at "rd"
              refine ⟨y, dy, rfl, hy2, hsm dy hmem, g2.2 ht, fun H4 g4 => ?_⟩
              have g4' := g2.trans g4
              have hy4 := Dp.go g4'.1 hy
              repeat walk_at "rd"
              refine r_if (fun c3 => ?_) (fun c3 => ?_)
              · repeat walk_at "rd"
                refine r_mkIR ?_ (m_cons m_c (m_cons m_var m_nil) _)
                repeat walk_at "rd"
                exact ⟨"names", i, rfl, by decide, by omega, fun dd Hx k hx => qE i (bad (by rw [c2, c3]; rfl)) _ _ Hx (g4'.trans (Go.same k)) (told_rules hx)⟩
              · repeat walk_at "rd"
                refine ⟨a, xs, rfl, sqT_go ha g4'.1, fun hw => ?_, fun _ p hp => ?_⟩
                · exfalso
                  have z := hw.2
                  rw [HT.sIx_nat] at z
                  omega
                · have g5 := g4'.trans (Go.new (o := .tup (cutV xs none (some (i : Nat)))) hp)
                  have hsq : SqT K (upd H4 p (.tup (cutV xs none (some (i : Nat))))) p (cutV xs none (some (i : Nat))) := .of upd_same
                  generalize upd H4 p (.tup (cutV xs none (some (i : Nat)))) = H5 at g5 hsq ⊢
                  rw [cut_to (by omega)] at hsq
                  repeat walk_at "rd"
                  have hy5 := Dp.go g5.1 hy
                  refine r_inT (ds := ds.take i) hy5 (.tup hsq (Dps.go g5.1 (Dps.take i hxs))) (lv_succ (lv_succ (m dy hmem))) (lv_tup fun d hd => lv_succ (m d (List.mem_of_mem_take hd))) ?_
                  repeat walk_at "rd"
                  refine r_if (fun c4 => ?_) (fun c4 => ?_)
                  · repeat walk_at "rd"
                    refine r_mkIR ?_ (m_cons m_c (m_cons m_var m_nil) _)
                    repeat walk_at "rd"
                    exact ⟨"names", i, rfl, by decide, by omega, fun dd Hx k hx => qE i (bad (by rw [c2, c3, c4]; rfl)) _ _ Hx (g5.trans (Go.same k)) (told_rules hx)⟩
                  · repeat walk_at "rd"
                    refine ⟨_, _, rfl, g5, ?_⟩
                    rw [hsc, htk]
                    show (if decide ((10 : Int) ≤ ((ds.take i).length : Nat)) || (!nameOk dy || inD dy (ds.take i)) then some (ds.take i).length else _) = _
                    rw [htl, c2, c3, c4]
                    rfl
          · rintro σ H' ⟨x3, x4, rfl, g, hsc⟩
            refine q ?_ H' g
            rw [enb, hsc, hlen, List.drop_length]
            rfl
    · have e1 : (!(tyOf d == "tuple" || tyOf d == "bool" && "tuple" == "int")) = true := by
        cases d <;> first | rfl | exact absurd ⟨_, rfl⟩ hz
      have e2 : namesBad d = some 0 := by
        cases d <;> first | rfl | exact absurd ⟨_, rfl⟩ hz
      rw [if_pos e1]
      repeat walk_at "rd"
      refine r_mkIR ?_ (m_cons m_c (m_cons m_c m_nil) _)
      repeat walk_at "rd"
      exact ⟨"names", 0, rfl, by decide, by decide, fun dd Hx k hx => qE 0 e2 _ _ Hx (Go.same k) (told_rules hx)⟩
end
/-! loops and comprehensions, more -/
section
variable {G : List Addr} {L : List (Addr × Str)} {H H' : Hp} {r D : Addr} {xs ys : List V}
theorem Go.updNew (g : Go G L H H') (n : H D = none) (h : H' D = some (.lst xs)) : Go G L H (upd H' D (.lst ys)) :=
  ⟨fun b o e nt => by rw [upd_ne (ne_of_none e n)]; exact g.1 b o e nt, fun t => (GoR.upd (G := G) (L := L) h).2 (g.2 t)⟩
theorem GoR.updNew (g : GoR G L r H H') (n : H D = none) (h : H' D = some (.lst xs)) : GoR G L r H (L2.upd H' D (.lst ys)) :=
  ⟨fun b o nr nt e => by rw [upd_ne (ne_of_none e n)]; exact g.1 b o nr nt e, fun t => (GoR.upd (G := G) (L := L) h).2 (g.2 t)⟩
theorem GoR.new {o : HO} (g : GoR G L r H H') (n : H' D = none) : GoR G L r H (L2.upd H' D o) := g.trans (Go.new n).toR
theorem Go.new' {o : HO} (g : Go G L H H') (n : H' D = none) : Go G L H (upd H' D o) := g.trans (Go.new n)
end
section
variable {σ : L2.St} {H : Hp} {Q : VK} {D : Ends} {K : PySem.W.Frag}
theorem r_lcI {wi : TI} {g : TG} {tt : TT} {te : TE} {vs : List Nat} {J : It} {n : Nat} {G : Hp → Prop} {Y : Nat → Hp → V → Hp → Prop} (hw : ∀ R : It → Hp → Prop, R J H → wi σ H R) (w : Walk J n G Y) (Pv : Addr → Nat → Hp → Prop)
    (h0 : ∀ D, H D = none → Pv D 0 (upd H D (.lst []))) (hG : ∀ D i H', H D = none → i ≤ n → Pv D i H' → G H')
    (hs : ∀ D i x H1 H2, H D = none → i < n → Pv D i H1 → Y i H1 x H2 → g x (wipe σ vs) H2 fun σ2 H2 => wipe σ2 vs = wipe σ vs ∧ tt σ2 H2 fun b H3 =>
      if b = true then te σ2 H3 fun y H4 => ∃ acc, H4 D = some (.lst acc) ∧ acc.length < sizeLine ∧ Pv D (i + 1) (upd H4 D (.lst (acc ++ [y]))) else Pv D (i + 1) H3) (hd : ∀ D H', H D = none → Pv D n H' → Q (.ref D) H') : tLc wi g tt te vs σ H Q :=
  hw _ fun D hD => lc_it w (Pv D) (h0 D hD) (fun i H' hi p => hG D i H' hD hi p) (fun i x H1 H2 hi p y => hs D i x H1 H2 hD hi p y) fun H' p => hd D H' hD p
theorem lcET {te : TE} {g : TG} {tt : TT} {el : TE} {vs : List Nat} {a : Addr} {xs : List V} (he : ∀ R : VK, R (.ref a) H → te σ H R) (hq : SqT K H a xs) (Pv : Addr → Nat → Hp → Prop)
    (h0 : ∀ D, H D = none → Pv D 0 (upd H D (.lst []))) (hG : ∀ D i H', H D = none → i ≤ xs.length → Pv D i H' → SqT K H' a xs)
    (hs : ∀ D i x T H1, H D = none → xs[i]? = some x → H1 T = none → Pv D i H1 → g (.ref T) (wipe σ vs) (upd H1 T (.tup [.int (i : Nat), x])) fun σ2 H2 => wipe σ2 vs = wipe σ vs ∧ tt σ2 H2 fun b H3 =>
      if b = true then el σ2 H3 fun y H4 => ∃ acc, H4 D = some (.lst acc) ∧ acc.length < sizeLine ∧ Pv D (i + 1) (upd H4 D (.lst (acc ++ [y]))) else Pv D (i + 1) H3) (hd : ∀ D H', H D = none → Pv D xs.length H' → Q (.ref D) H') : tLc (iEnumT K (tCons te tNil)) g tt el vs σ H Q := by
  refine r_lcI (fun R z => he _ ⟨a, xs, rfl, hq, z⟩) walk_enumT Pv h0 hG ?_ hd
  rintro D i x H1 H2 hD hi p ⟨T, x1, y, ev, hT, eH, e1, e2⟩
  cases e1
  rw [ev, eH]
  exact hs D i y T H1 hD e2 hT p
theorem lcT {te : TE} {g : TG} {tt : TT} {el : TE} {vs : List Nat} {a : Addr} {xs : List V} (he : ∀ R : VK, R (.ref a) H → te σ H R) (hq : SqT K H a xs) (Pv : Addr → Nat → Hp → Prop)
    (h0 : ∀ D, H D = none → Pv D 0 (upd H D (.lst []))) (hG : ∀ D i H', H D = none → i ≤ xs.length → Pv D i H' → SqT K H' a xs)
    (hs : ∀ D i x H1, H D = none → xs[i]? = some x → Pv D i H1 → g x (wipe σ vs) H1 fun σ2 H2 => wipe σ2 vs = wipe σ vs ∧ tt σ2 H2 fun b H3 =>
      if b = true then el σ2 H3 fun y H4 => ∃ acc, H4 D = some (.lst acc) ∧ acc.length < sizeLine ∧ Pv D (i + 1) (upd H4 D (.lst (acc ++ [y]))) else Pv D (i + 1) H3) (hd : ∀ D H', H D = none → Pv D xs.length H' → Q (.ref D) H') : tLc (iTup K te) g tt el vs σ H Q := by
  refine r_lcI (fun R z => he _ ⟨a, rfl, ⟨xs, hq⟩, z⟩) walk_tup Pv h0 hG ?_ hd
  rintro D i x H1 H2 hD hi p ⟨eH, e2⟩
  rw [eH]
  exact hs D i x H1 hD e2 p
theorem lcL {te : TE} {g : TG} {tt : TT} {el : TE} {vs : List Nat} {a : Addr} {xs : List V} (he : ∀ R : VK, R (.ref a) H → te σ H R) (hq : SqL K H a xs) (Pv : Addr → Nat → Hp → Prop)
    (h0 : ∀ D, H D = none → Pv D 0 (upd H D (.lst []))) (hG : ∀ D i H', H D = none → i ≤ xs.length → Pv D i H' → SqL K H' a xs)
    (hs : ∀ D i x H1, H D = none → xs[i]? = some x → Pv D i H1 → g x (wipe σ vs) H1 fun σ2 H2 => wipe σ2 vs = wipe σ vs ∧ tt σ2 H2 fun b H3 =>
      if b = true then el σ2 H3 fun y H4 => ∃ acc, H4 D = some (.lst acc) ∧ acc.length < sizeLine ∧ Pv D (i + 1) (upd H4 D (.lst (acc ++ [y]))) else Pv D (i + 1) H3) (hd : ∀ D H', H D = none → Pv D xs.length H' → Q (.ref D) H') : tLc (iList K te) g tt el vs σ H Q := by
  refine r_lcI (fun R z => he _ ⟨a, rfl, ⟨xs, hq⟩, z⟩) walk_list Pv h0 hG ?_ hd
  rintro D i x H1 H2 hD hi p ⟨eH, e2⟩
  rw [eH]
  exact hs D i x H1 hD e2 p
/-- range(n) -/
theorem lcR {te : TE} {g : TG} {tt : TT} {el : TE} {vs : List Nat} {n : Nat} {H0 : Hp} (he : ∀ R : VK, R (.int (n : Nat)) H0 → te σ H R) (hn : n < 1000000) (Pv : Addr → Nat → Hp → Prop)
    (h0 : ∀ D, H0 D = none → Pv D 0 (upd H0 D (.lst [])))
    (hs : ∀ D i H1, H0 D = none → i < n → Pv D i H1 → g (.int (i : Nat)) (wipe σ vs) H1 fun σ2 H2 => wipe σ2 vs = wipe σ vs ∧ tt σ2 H2 fun b H3 =>
      if b = true then el σ2 H3 fun y H4 => ∃ acc, H4 D = some (.lst acc) ∧ acc.length < sizeLine ∧ Pv D (i + 1) (upd H4 D (.lst (acc ++ [y]))) else Pv D (i + 1) H3) (hd : ∀ D H', H0 D = none → Pv D n H' → Q (.ref D) H') : tLc (iRng1 (tCons te tNil)) g tt el vs σ H Q := by
  refine he _ ⟨_, rfl, by omega, by omega, fun D hD => lc_it walk_range (Pv D) (h0 D hD) (fun _ _ _ _ => True.intro) ?_ fun H' p => hd D H' hD (by simpa using p)⟩
  rintro i x H1 H2 hi p ⟨eH, ex⟩
  have hi' : i < n := by simpa using hi
  have e : x = .int (i : Nat) := ex.trans (congrArg V.int (Int.zero_add _))
  rw [eH, e]
  exact hs D i H1 hD hi' p
theorem forR {te : TE} {g : TG} {tb : TS} {n : Nat} {H0 : Hp} (he : ∀ R : VK, R (.int (n : Nat)) H0 → te σ H R) (hn : n < 1000000) (Pv : Nat → L2.St → Hp → Prop) (h0 : Pv 0 σ H0)
    (hs : ∀ i σ H, i < n → Pv i σ H → g (.int (i : Nat)) σ H fun σ2 H2 => tb { D with nx := Pv (i + 1), ct := Pv (i + 1), bk := D.nx } σ2 H2) (hd : ∀ σ H, Pv n σ H → D.nx σ H) :
    tFor (iRng1 (tCons te tNil)) g tb D σ H := by
  refine he _ ⟨_, rfl, by omega, by omega, for_it walk_range Pv h0 (fun _ _ _ _ _ => True.intro) ?_ (fun σ' H' p => hd σ' H' (by simpa using p))⟩
  rintro i x σ H1 H2 hi p ⟨eH, ex⟩
  have hi' : i < n := by simpa using hi
  have e : x = .int (i : Nat) := ex.trans (congrArg V.int (Int.zero_add _))
  rw [eH, e]
  exact hs i σ H1 hi' p
end
/-! check_clauses -/
def scanC (nd : List PyData) : Nat → List PyData → Option Nat
  | _, [] => none
  | i, d :: ds => if decide ((40 : Int) ≤ (i : Nat)) || !clauseOk nd d then some i else scanC nd (i + 1) ds
def clausesBad (nd : List PyData) : PyData → Option Nat
  | .tuple ds => scanC nd 0 ds
  | _ => some 0
section
variable {P : Program} {w : World} {K : PySem.W.Frag} {mg : Str → Option Value} {base : Heap} {G : List Addr} {L : List (Addr × Str)}
def spChkClauses (K : PySem.W.Frag) (G : List Addr) (L : List (Addr × Str)) : Sp := fun vs H Q E => ∃ (nv v : V) (nd : List PyData) (d : PyData), vs = [nv, v] ∧ Dp K H nv (.tuple nd) ∧ Dp K H v d ∧ lv 8 (.tuple nd) = true ∧ lv 8 d = true ∧ (∀ ds, d = .tuple ds → ds.length ≤ 60) ∧
  (∀ i, clausesBad nd d = some i → ∀ cls dd H', Go G L H H' → Told K cls dd H' (rulesE "clauses" i) → E cls dd H') ∧ (clausesBad nd d = none → ∀ H', Go G L H H' → Q .non H')
theorem scChkClauses : FnScope ["names", "clauses", "index", "clause"] ["names", "clauses"] (defScope sChkClauses) := C8.fnScope_by (by decide +kernel)
theorem ok_chkClauses {f : Addr} {fd : FuncData} {t40 : Tok} (F : Fun K "check_clauses" "check_clauses" sChkClauses f fd) (zI : mg "isinstance" = none) (z1 : mg "tuple" = none) (zE : mg "enumerate" = none) (g40 : mg "MOST_CLAUSES" = some (.int 40 t40))
    (T : Err P w K mg base "InvalidRules" (spIR K (He.ga K "InvalidRules"))) (N : Fd CX0 P w K mg base "is_clause" 1 (spIsClause K)) : FnOk P w K mg base (L2.CX P w) 3 f fd ["names", "clauses"] (spChkClauses K G L) := by
  refine F.okX scChkClauses (fun vs H Q E h => ?_) (fun cdv A outer s H vs Q E hr h => ?_)
  · obtain ⟨nv, v, nd, d, e, _⟩ := h
    rw [e]
    rfl
  · obtain ⟨nv, v, nd, d, e, hn, hd, l0, l1, hl, qE, q⟩ := h
    subst e
    refine ⟨_, pss_cons (ps_if (pt_not (pt_val (pe_callB call_isi rfl zI boot_isinstance (pa_cons (pv 1) (pa_cons (pe_bltn (v := .ty "tuple") rfl z1 boot_tuple rfl) pa_nil)))))
        (pss_one (ps_raise rfl (takes_of rfl rfl rfl rfl) (pmk_err T hr (pa_cons pe_str (pa_cons pe_int pa_nil))))) pss_nil)
      (pss_one (ps_for (passes_of rfl) rfl (pi_enumT rfl zE (pa_cons (pv 1) pa_nil)) (pg_tup rfl (pgs_cons (pg_name (i := 2) scChkClauses.nd rfl (.inl rfl)) (pgs_cons (pg_name (i := 3) scChkClauses.nd rfl (.inl rfl)) pgs_nil)))
        (pss_one (ps_if (PW.pt (pw_or (pt_cmpR op_ge (pv 2) (pe_glob (v := .int 40) rfl g40 ⟨_, rfl⟩) (nomark _)) (pw_or1 (pt_not (pt_val (pe_fd (E := E0) N hr pass0 (pa_cons (pv 0) (pa_cons (pv 3) pa_nil))))))))
          (pss_one (ps_raise rfl (takes_of rfl rfl rfl rfl) (pmk_err T hr (pa_cons pe_str (pa_cons (pv 2) pa_nil))))) pss_nil)))), ?_⟩
    repeat walk_at "rd"
    refine r_isi (m := "tuple") (Dp.kd hd) (by decide) ?_
    repeat walk_at "rd"
    by_cases hz : ∃ ds, d = .tuple ds
    · obtain ⟨ds, rfl⟩ := hz
      cases hd with
      | @tup a xs _ ha hxs =>
        refine r_if (fun cc => absurd cc (by simp [tyOf])) (fun _ => ?_)
        repeat walk_at "rd"
        have hlen := Dps.length hxs
        have hs60 := hl ds rfl
        have m := lv_mem l1
        refine forET (a := a) (xs := xs) (fun R z => ⟨_, rfl, z⟩) ha (fun i σ H' => ∃ (x3 x4 : Option V), σ = [some nv, some (.ref a), x3, x4] ∧ Go G L H H' ∧ scanC nd 0 ds = scanC nd i (ds.drop i)) ?_ ?_ ?_ ?_
        · exact ⟨none, none, rfl, Go.refl H, rfl⟩
        · rintro i σ H' _ ⟨_, _, _, g, _⟩
          exact sqT_go ha g.1
        · rintro i y T2 σ H1 H2 ey hT rfl ⟨x3, x4, rfl, g, hsc⟩
          have g2 : Go G L H (upd H1 T2 (.tup [.int (i : Nat), y])) := g.trans (Go.new hT)
          refine r_pair (.of upd_same) ?_
          obtain ⟨dy, hdy, hy, hdrop, hil, htk⟩ := dps_at hxs ey
          generalize upd H1 T2 (.tup [.int (i : Nat), y]) = H3 at g2
          have hy2 := Dp.go g2.1 hy
          rw [hdrop] at hsc
          have hmem := List.mem_of_getElem? hdy
          have bad : (decide ((40 : Int) ≤ (i : Nat)) || !clauseOk nd dy) = true → clausesBad nd (.tuple ds) = some i := fun c => by
            show scanC nd 0 ds = some i
            rw [hsc]
            exact if_pos c
          repeat walk_at "rd"
          refine r_if (fun c2 => ?_) (fun c2 => ?_)
          · repeat walk_at "rd"
            refine r_mkIR ?_ (m_cons m_c (m_cons m_var m_nil) _)
            repeat walk_at "rd"
            exact ⟨"clauses", i, rfl, by decide, by omega, fun dd Hx k hx => qE i (bad (by rw [c2]; rfl)) _ _ Hx (g2.trans (Go.same k)) (told_rules hx)⟩
          · repeat walk_at "rd"
            refine ⟨nv, y, nd, dy, rfl, Dp.go g2.1 hn, hy2, l0, m dy hmem, ?_⟩
            repeat walk_at "rd"
            refine r_if (fun c3 => ?_) (fun c3 => ?_)
            · repeat walk_at "rd"
              refine r_mkIR ?_ (m_cons m_c (m_cons m_var m_nil) _)
              repeat walk_at "rd"
              exact ⟨"clauses", i, rfl, by decide, by omega, fun dd Hx k hx => qE i (bad (by rw [c2, c3]; rfl)) _ _ Hx (g2.trans (Go.same k)) (told_rules hx)⟩
            · repeat walk_at "rd"
              refine ⟨_, _, rfl, g2, ?_⟩
              rw [hsc]
              show (if decide ((40 : Int) ≤ (i : Nat)) || !clauseOk nd dy then some i else _) = _
              rw [c2, c3]
              rfl
        · rintro σ H' ⟨x3, x4, rfl, g, hsc⟩
          refine q ?_ H' g
          show scanC nd 0 ds = none
          rw [hsc, hlen, List.drop_length]
          rfl
    · have e1 : (!(tyOf d == "tuple" || tyOf d == "bool" && "tuple" == "int")) = true := by
        cases d <;> first | rfl | exact absurd ⟨_, rfl⟩ hz
      have e2 : clausesBad nd d = some 0 := by
        cases d <;> first | rfl | exact absurd ⟨_, rfl⟩ hz
      rw [if_pos e1]
      repeat walk_at "rd"
      refine r_mkIR ?_ (m_cons m_c (m_cons m_c m_nil) _)
      repeat walk_at "rd"
      exact ⟨"clauses", 0, rfl, by decide, by decide, fun dd Hx k hx => qE 0 e2 _ _ Hx (Go.same k) (told_rules hx)⟩
end
/-! fulfils -/
def holdsD (sd : List PyData) (w : Str) (a b : PyData) : Bool :=
  if w = "needs" then (!inD a sd || inD b sd) else if w = "excludes" then (!inD a sd || !inD b sd) else (inD a sd || inD b sd)
section
variable {P : Program} {w : World} {K : PySem.W.Frag} {mg : Str → Option Value} {base : Heap} {G : List Addr} {L : List (Addr × Str)}
theorem r_asgE {te : TE} {g : TG} {D : Ends} {σ : L2.St} {H : Hp} {x : V} (he : ∀ R : VK, R x H → te σ H R) (q : g x σ H D.nx) : tAsg te g D σ H := he _ q
theorem g_three {σ : L2.St} {H : Hp} {T : Addr} {x y z : V} {i j k : Nat} {Q : L2.St → Hp → Prop} (h : SqT K H T [x, y, z]) (q : Q (((σ.set i (some x)).set j (some y)).set k (some z)) H) : gTup K 3 (gCons (gName i) (gCons (gName j) (gCons (gName k) gNil))) (.ref T) σ H Q :=
  ⟨T, _, rfl, h, rfl, _, _, rfl, _, _, rfl, _, _, rfl, rfl, q⟩
def spFul (K : PySem.W.Frag) : Sp := fun vs H Q _ => ∃ sv cv sd w a b, vs = [sv, cv] ∧ Dp K H sv (.tuple sd) ∧ Dp K H cv (.tuple [.str w, a, b]) ∧ lv 8 (.tuple sd) = true ∧ lv 8 a = true ∧ lv 8 b = true ∧ Q (.bl (holdsD sd w a b)) H
theorem scFul : FnScope ["state", "clause", "word", "first", "second"] ["state", "clause"] (defScope sFulfils) := C8.fnScope_by (by decide +kernel)
theorem ok_fulfils {f : Addr} {fd : FuncData} (F : Fun K "fulfils" "fulfils" sFulfils f fd) : FnOk P w K mg base CX0 1 f fd ["state", "clause"] (spFul K) := by
  refine F.ok scFul (fun vs H Q E h => ?_) (fun cdv A outer s H vs Q E hr h => ?_)
  · obtain ⟨sv, cv, sd, w, a, b, e, _⟩ := h
    rw [e]
    rfl
  · obtain ⟨sv, cv, sd, w, a, b, e, hs, hc, l0, l1, l2, q⟩ := h
    subst e
    refine ⟨_, pss_cons (ps_asg (pv 1) (pg_tup rfl (pgs_cons (pg_name (i := 2) scFul.nd rfl (.inl rfl)) (pgs_cons (pg_name (i := 3) scFul.nd rfl (.inl rfl)) (pgs_cons (pg_name (i := 4) scFul.nd rfl (.inl rfl)) pgs_nil)))))
      (pss_cons (ps_if (pt_cmpR op_eq (pv 2) pe_str (nomark _)) (pss_one (ps_ret (pe_or (pe_cmpR (op_notInT (u65 hr)) (pv 3) (pv 0) rfl) (pe_one (pe_cmpR (op_inT (u65 hr)) (pv 4) (pv 0) rfl))))) pss_nil)
      (pss_cons (ps_if (pt_cmpR op_eq (pv 2) pe_str (nomark _)) (pss_one (ps_ret (pe_or (pe_cmpR (op_notInT (u65 hr)) (pv 3) (pv 0) rfl) (pe_one (pe_cmpR (op_notInT (u65 hr)) (pv 4) (pv 0) rfl))))) pss_nil)
      (pss_one (ps_ret (pe_or (pe_cmpR (op_inT (u65 hr)) (pv 3) (pv 0) rfl) (pe_one (pe_cmpR (op_inT (u65 hr)) (pv 4) (pv 0) rfl))))))), ?_⟩
    cases hc with
    | @tup T xs _ hT hxs =>
      have h3 : xs.length = 3 := Dps.length hxs
      obtain ⟨x, y, z, dx, dy, dz, e1, e2, hx, hy, hz⟩ := three_of hxs h3
      cases e2
      subst e1
      cases hx
      refine r_seq (r_asgE (x := .ref T) (fun R z => ⟨_, rfl, z⟩) (g_three hT ?_))
      repeat walk_at "rd"
      refine r_eq rfl ?_
      repeat walk_at "rd"
      refine r_if (fun c1 => ?_) (fun c1 => ?_)
      · have ew : w = "needs" := V.str.inj (of_decide_eq_true c1)
        subst ew
        repeat walk_at "rd"
        refine r_ninT hy hs l1 l0 ?_
        repeat walk_at "rd"
        refine r_if (fun c2 => ?_) (fun c2 => ?_)
        · have e : holdsD sd "needs" a b = true := by
            show (!inD a sd || inD b sd) = true
            rw [c2]
            rfl
          rw [e] at q
          exact q
        · repeat walk_at "rd"
          refine r_inT hz hs l2 l0 ?_
          have e : holdsD sd "needs" a b = inD b sd := by
            show (!inD a sd || inD b sd) = _
            rw [c2]
            rfl
          rw [e] at q
          exact q
      · have ew : w ≠ "needs" := fun z => of_decide_eq_false c1 (congrArg V.str z)
        repeat walk_at "rd"
        refine r_eq rfl ?_
        repeat walk_at "rd"
        refine r_if (fun c3 => ?_) (fun c3 => ?_)
        · have ew2 : w = "excludes" := V.str.inj (of_decide_eq_true c3)
          have e0 : holdsD sd w a b = (!inD a sd || !inD b sd) := by
            unfold holdsD
            rw [if_neg ew, if_pos ew2]
          rw [e0] at q
          repeat walk_at "rd"
          refine r_ninT hy hs l1 l0 ?_
          repeat walk_at "rd"
          refine r_if (fun c2 => ?_) (fun c2 => ?_)
          · rw [c2] at q
            exact q
          · repeat walk_at "rd"
            refine r_ninT hz hs l2 l0 ?_
            rw [c2] at q
            exact q
        · have ew2 : w ≠ "excludes" := fun z => of_decide_eq_false c3 (congrArg V.str z)
          have e0 : holdsD sd w a b = (inD a sd || inD b sd) := by
            unfold holdsD
            rw [if_neg ew, if_neg ew2]
          rw [e0] at q
          repeat walk_at "rd"
          refine r_inT hy hs l1 l0 ?_
          repeat walk_at "rd"
          refine r_if (fun c2 => ?_) (fun c2 => ?_)
          · rw [c2] at q
            exact q
          · repeat walk_at "rd"
            refine r_inT hz hs l2 l0 ?_
            rw [c2] at q
            exact q
/-! the class Rules -/
abbrev cR (K : PySem.W.Frag) : Addr := He.ga K "Rules"
abbrev sM (j : Nat) : Stmt := inClass (top 26) j
structure RulC (K : PySem.W.Frag) (mg : Str → Option Value) : Prop where
  cl : Cls K (cR K)
  n1 : NoAttr K (cR K) "_names"
  n2 : NoAttr K (cR K) "_clauses"
  g : mg "Rules" = some (.ref (cR K))
def rulesBad (dn dc : PyData) : Option PyData := match namesBad dn with
  | some i => some (rulesE "names" i)
  | none => match dn with
    | .tuple nd => (clausesBad nd dc).map (rulesE "clauses")
    | _ => none
def rfs (nv cv : V) : List (Str × V) := [("_names", nv), ("_clauses", cv)]
def okN (d : PyData) : Prop := lv 7 d = true ∧ ∀ ds, d = .tuple ds → ds.length ≤ 60 ∧ ∀ x ∈ ds, smallS x
def okC (d : PyData) : Prop := lv 8 d = true ∧ ∀ ds, d = .tuple ds → ds.length ≤ 60
def spInit (K : PySem.W.Frag) (G : List Addr) (L : List (Addr × Str)) : Sp := fun vs H Q E => ∃ (x dx : Addr) (nv cv : V) (dn dc : PyData), vs = [.ref x, nv, cv] ∧ H x = some (.ins (cR K) dx []) ∧ Dp K H nv dn ∧ Dp K H cv dc ∧ okN dn ∧ okC dc ∧ TBS G L H ∧
  (∀ D, rulesBad dn dc = some D → ∀ cls dd H', Go G L H H' → Told K cls dd H' D → E cls dd H') ∧ (rulesBad dn dc = none → ∀ Hm, Go G L H Hm → Q .non (upd Hm x (.ins (cR K) dx (rfs nv cv))))
theorem scInit : FnScope ["self", "names", "clauses"] ["self", "names", "clauses"] (defScope (sM 0)) := C8.fnScope_by (by decide +kernel)
theorem ok_init {f : Addr} {fd : FuncData} (F : Fun K "__init__" "Rules.__init__" (sM 0) f fd) (R : RulC K mg) (N : Fd (L2.CX P w) P w K mg base "check_names" 3 (spChkNames K G L)) (C : Fd (L2.CX P w) P w K mg base "check_clauses" 3 (spChkClauses K G L)) :
    FnOk P w K mg base (L2.CX P w) 4 f fd ["self", "names", "clauses"] (spInit K G L) := by
  refine F.okX scInit (fun vs H Q E h => ?_) (fun cdv A outer s H vs Q E hr h => ?_)
  · obtain ⟨x, dx, nv, cv, dn, dc, e, _⟩ := h
    rw [e]
    rfl
  · obtain ⟨x, dx, nv, cv, dn, dc, e, hx, hn, hc, on, oc, ht, qE, q⟩ := h
    subst e
    refine ⟨_, pss_cons (ps_expr (pe_fd N hr (passes_call (takes_of rfl rfl rfl rfl) fun _ _ _ _ z => z) (pa_cons (pv 1) pa_nil)))
      (pss_cons (ps_expr (pe_fd C hr (passes_call (takes_of rfl rfl rfl rfl) fun _ _ _ _ z => z) (pa_cons (pv 1) (pa_cons (pv 2) pa_nil))))
      (pss_cons (ps_fld (pv 0) (pv 1) rfl) (pss_one (ps_fld (pv 0) (pv 2) rfl)))), ?_⟩
    repeat walk_at "rd"
    refine ⟨nv, dn, rfl, hn, on.1, ht, on.2, fun i hi cls dd H' g t => qE _ (by unfold rulesBad; rw [hi]) cls dd H' g t, fun hi H1 g1 => ?_⟩
    have hz : ∃ nd, dn = .tuple nd := by
      cases dn with
      | tuple nd => exact ⟨nd, rfl⟩
      | _ => cases hi
    obtain ⟨nd, rfl⟩ := hz
    have er : rulesBad (.tuple nd) dc = (clausesBad nd dc).map (rulesE "clauses") := by
      unfold rulesBad
      rw [hi]
    repeat walk_at "rd"
    refine ⟨nv, cv, nd, dc, rfl, Dp.go g1.1 hn, Dp.go g1.1 hc, lv_succ on.1, oc.1, oc.2, fun i hc' cls dd H' g t => qE _ (by rw [er, hc']; rfl) cls dd H' (g1.trans g) t, fun hc' H2 g2 => ?_⟩
    have g3 := g1.trans g2
    have hx2 : H2 x = some (.ins (cR K) dx []) := g3.1 x _ hx fun _ z => by cases z
    repeat walk_at "rd"
    refine ⟨_, rfl, .ref x, rfl, x, _, dx, [], rfl, hx2, R.cl, R.n1, (by show 0 < 1000; decide), ?_⟩
    refine ⟨_, rfl, .ref x, rfl, x, _, dx, _, rfl, upd_same, R.cl, R.n2, (by show 1 < 1000; decide), ?_⟩
    have z := q (by rw [er, hc']; rfl) H2 g3
    rw [upd_upd]
    exact z
end
section
variable {P : Program} {w : World} {K : PySem.W.Frag} {mg : Str → Option Value} {base : Heap} {G : List Addr} {L : List (Addr × Str)}
/-- Rules(..) may be called -/
structure Mkr (P : Program) (w : World) (K : PySem.W.Frag) (mg : Str → Option Value) (base : Heap) (G : List Addr) (L : List (Addr × Str)) : Prop where
  rc : RulC K mg
  ex : ∃ (f : Addr) (fd : FuncData) (ps : List Str), Mk K (cR K) f ∧ FnOk P w K mg base (L2.CX P w) 4 f fd ps (spInit K G L) ∧ Binds K fd ps []
theorem pe_rules {X : Cx} {j : Nat} {E : XK} {p pos : Pos} {e : Expr} {es : List Expr} {t : TA} (M : Mkr X.prog X.w X.K X.mg X.base G L) (hr : Room j X.A) (hx : Passes (L2.CX X.prog X.w) X E) (ha : PA X (e :: es) t) (hk : 5 ≤ j := by decide) (hg : Gl X "Rules" := by rfl)
    (he : starEach (e :: es) X.env = (false, eval e X.env) :: starEach es X.env := by rfl) (hpl : (backTo pos (starEach es X.env)).any (·.1) = false := by rfl) :
    PE X (.Call (.Name "Rules" p) (e :: es) [] pos) (tMake (cR X.K) (spInit X.K G L) [] E t) := by
  obtain ⟨f, fd, ps, h1, F, b⟩ := M.ex
  exact pe_make h1 F (hr.mono hk) hg M.rc.g b .nil hx ha (by decide) he hpl
/-- what Rules(..) asks -/
def aRules (K : PySem.W.Frag) (G : List Addr) (L : List (Addr × Str)) (E : XK) (Q : VK) : List V → Hp → Prop := fun vs H1 => ∃ nv cv dn dc, vs = [nv, cv] ∧ Dp K H1 nv dn ∧ Dp K H1 cv dc ∧ okN dn ∧ okC dc ∧ TBS G L H1 ∧
  (∀ D, rulesBad dn dc = some D → ∀ cls dd H', Go G L H1 H' → Told K cls dd H' D → E cls dd H') ∧ (rulesBad dn dc = none → ∀ x dx H', Go G L H1 H' → H' x = some (.ins (cR K) dx (rfs nv cv)) → Q (.ref x) H')
theorem mk_rules {H1 : Hp} {vs : List V} {E : XK} {Q : VK} (h : aRules K G L E Q vs H1) : ∀ x dx, H1 x = none → H1 dx = none → dx ≠ x → spInit K G L (.ref x :: (vs ++ [])) (upd (upd H1 dx (.own x)) x (.ins (cR K) dx [])) (fun v H2 => v = .non ∧ Q (.ref x) H2) E := by
  obtain ⟨nv, cv, dn, dc, ev, hn, hc, on, oc, ht, qE, q⟩ := h
  subst ev
  intro x dx nx ndx nex
  have g0 : Go G L H1 (upd (upd H1 dx (.own x)) x (.ins (cR K) dx [])) := (Go.new ndx).trans (Go.new (by rw [upd_ne nex.symm]; exact nx))
  refine ⟨x, dx, nv, cv, dn, dc, rfl, upd_same, Dp.go g0.1 hn, Dp.go g0.1 hc, on, oc, g0.2 ht, fun D hD cls dd H' g t => qE D hD cls dd H' (g0.trans g) t, fun hb Hm g => ⟨rfl, q hb x dx _ ?_ upd_same⟩⟩
  have g1 := g0.trans g
  have hx : Hm x = some (.ins (cR K) dx []) := g.1 x _ upd_same fun _ z => by cases z
  refine ⟨fun b o e nt => by rw [upd_ne (ne_of_none e nx)]; exact g1.1 b o e nt, fun t => ?_⟩
  have t1 := g1.2 t
  have k : ∀ b o, (∀ z, o ≠ .ins (cR K) dx z) → Hm b = some o → upd Hm x (.ins (cR K) dx (rfs nv cv)) b = some o := fun b o n e => by
    rw [upd_ne (fun z => by rw [z, hx] at e; exact n _ (Option.some.inj e).symm)]
    exact e
  refine ⟨fun p hp => ?_, fun p hp => ?_⟩
  · obtain ⟨ps, e, _⟩ := t1.1 p hp
    exact tabG_keep (t1.1 p hp) fun o eo => k p o (fun z q => by rw [q, e] at eo; cases eo) eo
  · obtain ⟨ps, e, _⟩ := t1.2 p hp
    exact tabS_keep (t1.2 p hp) (fun o eo => k _ o (fun z q => by rw [q, e] at eo; cases eo) eo) fun c hc => k c _ (fun z q => by
      have q' : HO.ext _ = HO.ins (cR K) dx z := q
      cases q') hc
/-- tuples: slices and sums -/
theorem cut_whole {xs : List V} {lo hi : Option Int} (h : HT.sIx xs.length 0 lo = 0 ∧ HT.sIx xs.length xs.length hi = xs.length) : cutV xs lo hi = xs := by
  unfold cutV
  rw [h.1, h.2]
  simp
theorem r_slT {H : Hp} {Q : VK} {a : Addr} {xs : List V} {lo hi : Option Int} (h : Tp H a xs) (q : ∀ p H', (∀ b o, H b = some o → H' b = some o) → Tp H' p (cutV xs lo hi) → Q (.ref p) H') : rSlA K (.ref a) lo hi H Q :=
  ⟨a, xs, rfl, h.seq, fun hw => q a H (fun _ _ e => e) (by rw [cut_whole hw]; exact h), fun _ p hp => q p _ (fun b o e => by rw [upd_ne (ne_of_none e hp)]; exact e) (.inl upd_same)⟩
theorem r_catT {H : Hp} {Q : VK} {a b : Addr} {xs ys : List V} (h1 : Tp H a xs) (h2 : Tp H b ys) (hl : xs.length + ys.length ≤ sizeLine) (q : ∀ p H', (∀ b o, H b = some o → H' b = some o) → Tp H' p (xs ++ ys) → Q (.ref p) H') : rCatA K (.ref a) (.ref b) H Q := by
  refine ⟨a, b, xs, ys, rfl, rfl, h1.seq, h2.seq, hl, fun e => q b H (fun _ _ e => e) (by rw [e]; exact h2), fun _ e => q a H (fun _ _ e => e) (by rw [e, List.append_nil]; exact h1), fun _ _ p hp => q p _ (fun b o e => by rw [upd_ne (ne_of_none e hp)]; exact e) (.inl upd_same)⟩
/-! rules that stand -/
def RulesAt (K : PySem.W.Frag) (H : Hp) (x : Addr) (ns : List Str) (cd : List PyData) : Prop := ∃ dx an ac xs, H x = some (.ins (cR K) dx (rfs (.ref an) (.ref ac))) ∧ NT H an (ns.map V.str) ∧ Tp H ac xs ∧ Ims H xs cd
theorem RulesAt.kt {H H' : Hp} {x : Addr} {ns : List Str} {cd : List PyData} (h : RulesAt K H x ns cd) (k : KT H H') : RulesAt K H' x ns cd := by
  obtain ⟨dx, an, ac, xs, h1, h2, h3, h4⟩ := h
  exact ⟨dx, an, ac, xs, k x _ (fun _ z => by cases z) (fun _ z => by cases z) h1, h2.kt k, h3.kt k, h4.kt k⟩
structure OkR (ns : List Str) (cd : List PyData) : Prop where
  gs : goodS ns
  nb : namesBad (.tuple (ns.map PyData.str)) = none
  sm : ∀ z ∈ ns, z.length ≤ sizeLine
  cs : ∀ d ∈ cd, clauseOk (ns.map PyData.str) d = true
  cl : cd.length ≤ 40
theorem lv_strs {n : Nat} {ns : List Str} (h : ∀ z ∈ ns, PyData.strOk z = true) : lv (n + 1) (.tuple (ns.map PyData.str)) = true := lv_tup fun d hd => by
  obtain ⟨z, hz, e⟩ := List.mem_map.mp hd
  rw [← e]
  cases n <;> exact h z hz
theorem inD_str {d : PyData} {ns : List Str} (h : inD d (ns.map PyData.str) = true) : ∃ z, d = .str z ∧ z ∈ ns := by
  cases d with
  | str z =>
    rw [inD_strs] at h
    exact ⟨z, rfl, of_decide_eq_true h⟩
  | _ =>
    rw [inD_no (fun z q => by cases q)] at h
    cases h
theorem clause_shape {ns : List Str} {d : PyData} (h : clauseOk (ns.map PyData.str) d = true) : ∃ w a b, d = .tuple [.str w, .str a, .str b] ∧ (w = "needs" ∨ w = "excludes" ∨ w = "either") ∧ a ∈ ns ∧ b ∈ ns := by
  match d, h with
  | .tuple [x, y, z], h =>
    have h' : (inD x ((["needs", "excludes", "either"] : List Str).map PyData.str) && inD y (ns.map PyData.str) && inD z (ns.map PyData.str)) = true := h
    rw [Bool.and_eq_true, Bool.and_eq_true] at h'
    obtain ⟨⟨h1, h2⟩, h3⟩ := h'
    obtain ⟨w, rfl, hw⟩ := inD_str h1
    obtain ⟨a, rfl, ha⟩ := inD_str h2
    obtain ⟨b, rfl, hb⟩ := inD_str h3
    exact ⟨w, a, b, rfl, by simpa using hw, ha, hb⟩
theorem word_ok {w : Str} (h : w = "needs" ∨ w = "excludes" ∨ w = "either") : PyData.strOk w = true := by
  rcases h with rfl | rfl | rfl <;> decide +kernel
theorem OkR.lvc {ns : List Str} {cd : List PyData} (h : OkR ns cd) : ∀ d ∈ cd, lv 1 d = true := fun d hd => by
  obtain ⟨w, a, b, rfl, hw, ha, hb⟩ := clause_shape (h.cs d hd)
  refine lv_tup fun x hx => ?_
  have hx' : x = .str w ∨ x = .str a ∨ x = .str b := by simpa using hx
  rcases hx' with rfl | rfl | rfl
  · exact word_ok hw
  · exact h.gs.1 a ha
  · exact h.gs.1 b hb
theorem lv_up {n m : Nat} {d : PyData} (h : lv n d = true) (hm : n ≤ m) : lv m d = true := by
  induction hm with
  | refl => exact h
  | step _ ih => exact lv_succ ih
theorem OkR.on {ns : List Str} {cd : List PyData} (h : OkR ns cd) : okN (.tuple (ns.map PyData.str)) := ⟨lv_strs h.gs.1, fun ds e => by
  cases e
  refine ⟨by rw [List.length_map]; exact h.gs.2, fun x hx => ?_⟩
  obtain ⟨z, hz, e⟩ := List.mem_map.mp hx
  rw [← e]
  exact h.sm z hz⟩
theorem scanC_none {nd : List PyData} : ∀ {ds : List PyData} {i : Nat}, (∀ d ∈ ds, clauseOk nd d = true) → i + ds.length ≤ 40 → scanC nd i ds = none
  | [], _, _, _ => rfl
  | d :: ds, i, h, hl => by
    rw [List.length_cons] at hl
    show (if decide ((40 : Int) ≤ (i : Nat)) || !clauseOk nd d then some i else scanC nd (i + 1) ds) = none
    rw [h d (by simp), decide_eq_false (by omega)]
    exact scanC_none (fun d hd => h d (List.mem_cons_of_mem _ hd)) (by omega)
theorem scanC_full {nd : List PyData} : ∀ {ds : List PyData} {i : Nat}, (∀ d ∈ ds, clauseOk nd d = true) → i ≤ 40 → 40 < i + ds.length → scanC nd i ds = some 40
  | [], i, _, h1, h2 => by simp at h2; omega
  | d :: ds, i, h, h1, h2 => by
    rw [List.length_cons] at h2
    show (if decide ((40 : Int) ≤ (i : Nat)) || !clauseOk nd d then some i else scanC nd (i + 1) ds) = _
    rw [h d (by simp)]
    by_cases hi : i = 40
    · subst hi
      rfl
    · rw [decide_eq_false (by omega)]
      exact scanC_full (fun d hd => h d (List.mem_cons_of_mem _ hd)) (by omega) (by omega)
theorem OkR.rb {ns : List Str} {cd ce : List PyData} (h : OkR ns cd) (hc : ∀ d ∈ ce, clauseOk (ns.map PyData.str) d = true) : rulesBad (.tuple (ns.map PyData.str)) (.tuple ce) = if ce.length ≤ 40 then none else some (rulesE "clauses" 40) := by
  unfold rulesBad
  rw [h.nb]
  show (scanC (ns.map PyData.str) 0 ce).map (rulesE "clauses") = _
  by_cases hl : ce.length ≤ 40
  · rw [scanC_none hc (by omega), if_pos hl]
    rfl
  · rw [scanC_full hc (by omega) (by omega), if_neg hl]
    rfl
end
section
variable {P : Program} {w : World} {K : PySem.W.Frag} {mg : Str → Option Value} {base : Heap} {G : List Addr} {L : List (Addr × Str)}
/-- an own error without __init__ -/
structure Er0 (K : PySem.W.Frag) (mg : Str → Option Value) (x : Str) : Prop where
  q : PySem.W.excIn K (He.ga K x) He.veBase "ValueError.__new__" = true
  g : mg x = some (.ref (He.ga K x))
  k : PySem.W.keepIn K (.ref (He.ga K x)) = true
  b : PySem.W.subIn K (.ref (He.ga K x)) (.type "BaseException") = some true
  t : PySem.W.typeIn K (.ref (He.ga K x)) = some (.type "type")
theorem pmk_er0 {X : Cx} {x m : Str} {j : Nat} {p p2 pos : Pos} (T : Er0 X.K X.mg x) (hg : Gl X x := by rfl) (hdb : (x == ("__debug__" : Str)) = false := by decide) : PMk X (.Call (.Name x p) [.Constant (.str m) j p2] [] pos) (fun _ H Q => Q (.ref (He.ga X.K x)) none H) :=
  pmk_own PySem.F.excBase_ValueError T.q T.g T.k (raises_own T.b T.t) hg hdb
/-- a method of Rules -/
structure Fm (P : Program) (w : World) (K : PySem.W.Frag) (mg : Str → Option Value) (base : Heap) (m : Str) (k : Nat) (sp : Sp) : Prop where
  c : Cls K (cR K)
  ex : ∃ (f : Addr) (fd : FuncData) (ps : List Str), Meth K (cR K) m f ∧ FnOk P w K mg base (L2.CX P w) k f fd ps sp ∧ Binds K fd ps []
theorem pe_fm {X : Cx} {m : Str} {k j : Nat} {sp : Sp} {E : XK} {o e : Expr} {es : List Expr} {apos pos : Pos} {ta : TE} {t : TA} {pl : Sem Bool} (c : Fm X.prog X.w X.K X.mg X.base m k sp) (hr : Room j X.A) (he : PE X o ta) (hx : Passes (L2.CX X.prog X.w) X E) (ha : PA X (e :: es) t) (hk : k ≤ j := by decide)
    (hc : eval (.Call (.Attribute o m apos) (e :: es) [] pos) X.env = (do
      let ov ← eval o X.env
      standAt apos.atName
      let (f, first) ← holding [ov] (getMethod ov m pl)
      callWith pos f first (backTo pos (starEach (e :: es) X.env)) (backToKw pos (keywordEach [] X.env))) := by rfl)
    (hs : starEach (e :: es) X.env = (false, eval e X.env) :: starEach es X.env := by rfl) (hpl : (backTo pos (starEach es X.env)).any (·.1) = false := by rfl) :
    PE X (.Call (.Attribute o m apos) (e :: es) [] pos) (tMeth (cR X.K) m sp [] E ta t) := by
  obtain ⟨f, fd, ps, h1, F, b⟩ := c.ex
  exact pe_meth he c.c h1 F (hr.mono hk) b .nil hx ha hs hpl hc
theorem r_fm {σ : L2.St} {H : Hp} {m : Str} {sp : Sp} {E : XK} {ta : TE} {t : TA} {Q : VK} {x : Addr} {ns : List Str} {cd : List PyData} (hx : ∀ R : VK, R (.ref x) H → ta σ H R) (hR : RulesAt K H x ns cd) (hn : ∀ nv cv, (rfs nv cv).lookup m = none) (h : t σ H fun vs H2 => sp (.ref x :: (vs ++ [])) H2 Q E) : tMeth (cR K) m sp [] E ta t σ H Q := by
  obtain ⟨dx, an, ac, xs, h1, _⟩ := hR
  exact hx _ ⟨x, dx, _, rfl, h1, hn _ _, h⟩
/-- self._names, self._clauses -/
theorem r_fnames {H : Hp} {Q : VK} {x : Addr} {ns : List Str} {cd : List PyData} (R : RulC K mg) (h : RulesAt K H x ns cd) (q : ∀ an, NT H an (ns.map V.str) → Q (.ref an) H) : rFld K "_names" (.ref x) H Q := by
  obtain ⟨dx, an, ac, xs, h1, h2, _⟩ := h
  exact ⟨x, _, dx, _, .ref an, rfl, h1, R.cl, R.n1, rfl, q an h2⟩
theorem r_fclauses {H : Hp} {Q : VK} {x : Addr} {ns : List Str} {cd : List PyData} (R : RulC K mg) (h : RulesAt K H x ns cd) (q : ∀ ac xs, Tp H ac xs → Ims H xs cd → Q (.ref ac) H) : rFld K "_clauses" (.ref x) H Q := by
  obtain ⟨dx, an, ac, xs, h1, _, h3, h4⟩ := h
  exact ⟨x, _, dx, _, .ref ac, rfl, h1, R.cl, R.n2, rfl, q ac xs h3 h4⟩
def clauseE : PyData := .tuple [.str "clause"]
def noclauseE : PyData := .tuple [.str "noclause"]
theorem told_clause {H : Hp} : Told K (.ref (He.ga K "InvalidClause")) none H clauseE := .inr (.inr (.inl ⟨rfl, rfl, rfl⟩))
theorem told_noclause {H : Hp} : Told K (.ref (He.ga K "UnknownClause")) none H noclauseE := .inr (.inr (.inr ⟨rfl, rfl, rfl⟩))
def spWith (K : PySem.W.Frag) (G : List Addr) (L : List (Addr × Str)) : Sp := fun vs H Q E => ∃ (x : Addr) (v : V) (ns : List Str) (cd : List PyData) (d : PyData), vs = [.ref x, v] ∧ RulesAt K H x ns cd ∧ OkR ns cd ∧ Dp K H v d ∧ lv 6 d = true ∧ TBS G L H ∧
  (clauseOk (ns.map PyData.str) d = false → ∀ cls dd H', Go G L H H' → Told K cls dd H' clauseE → E cls dd H') ∧
  (clauseOk (ns.map PyData.str) d = true → Im H v d ∧ (cd.length = 40 → ∀ cls dd H', Go G L H H' → Told K cls dd H' (rulesE "clauses" 40) → E cls dd H') ∧ (cd.length < 40 → ∀ H' x2, Go G L H H' → RulesAt K H' x2 ns (cd ++ [d]) → Q (.ref x2) H'))
theorem scWith : FnScope ["self", "clause"] ["self", "clause"] (defScope (sM 4)) := C8.fnScope_by (by decide +kernel)
theorem ok_with {f : Addr} {fd : FuncData} (F : Fun K "with_clause" "Rules.with_clause" (sM 4) f fd) (M : Mkr P w K mg base G L) (C : Fd CX0 P w K mg base "is_clause" 1 (spIsClause K)) (T : Er0 K mg "InvalidClause") :
    FnOk P w K mg base (L2.CX P w) 6 f fd ["self", "clause"] (spWith K G L) := by
  refine F.okX scWith (fun vs H Q E h => ?_) (fun cdv A outer s H vs Q E hr h => ?_)
  · obtain ⟨x, v, ns, cd, d, e, _⟩ := h
    rw [e]
    rfl
  · obtain ⟨x, v, ns, cd, d, e, hR, ok, hd, hl, ht, qE, q⟩ := h
    subst e
    refine ⟨_, pss_cons (ps_if (pt_not (pt_val (pe_fd (E := E0) C hr pass0 (pa_cons (pe_fld (pv 0) rfl) (pa_cons (pv 1) pa_nil))))) (pss_one (ps_raise rfl (takes_of rfl rfl rfl rfl) (pmk_er0 T))) pss_nil)
      (pss_one (ps_ret (pe_rules M hr (passes_call (takes_of rfl rfl rfl rfl) fun _ _ _ _ z => z) (pa_cons (pe_fld (pv 0) rfl) (pa_cons (pe_op op_catA (pe_fld (pv 0) rfl) (pe_tup (pa_cons (pv 1) pa_nil))) pa_nil))))), ?_⟩
    repeat walk_at "rd"
    refine r_fnames M.rc hR fun an han => ?_
    repeat walk_at "rd"
    refine ⟨.ref an, v, _, d, rfl, .tup han.seq (dps_strs ns), hd, lv_strs ok.gs.1, lv_succ hl, ?_⟩
    repeat walk_at "rd"
    refine r_if (fun c1 => ?_) (fun c1 => ?_)
    · exact qE (by simpa using c1) _ _ _ (Go.refl H) told_clause
    · obtain ⟨him, q40, q1⟩ := q (by simpa using c1)
      have hok : clauseOk (ns.map PyData.str) d = true := by simpa using c1
      repeat walk_at "rd"
      refine r_fnames M.rc hR fun an2 han2 => ?_
      repeat walk_at "rd"
      refine r_fclauses M.rc hR fun ac xs hac hxs => ?_
      repeat walk_at "rd"
      refine ⟨(by show 1 ≤ sizeLine; decide), fun p hp => ?_⟩
      have g1 : Go G L H (upd H p (.tup [v])) := Go.new hp
      have hlx := hxs.length
      have hcl := ok.cl
      refine r_catT (hac.kt g1.kt) (.inl upd_same) (Nat.le_trans (show xs.length + 1 ≤ 41 by omega) (by decide)) fun p2 H2 k2 hp2 => ?_
      have g2 := g1.trans (Go.same (G := G) (L := L) k2)
      repeat walk_at "rd"
      have hce : ∀ d' ∈ cd ++ [d], clauseOk (ns.map PyData.str) d' = true := fun d' hd' => by
        rcases List.mem_append.mp hd' with z | z
        · exact ok.cs d' z
        · rw [List.mem_singleton.mp z]
          exact hok
      have hrb := ok.rb hce
      have hims : Ims H2 (xs ++ [v]) (cd ++ [d]) := (hxs.kt g2.kt).app (.cons (him.kt g2.kt) .nil)
      refine mk_rules ⟨.ref an2, .ref p2, .tuple (ns.map PyData.str), .tuple (cd ++ [d]), rfl, .tup (han2.kt g2.kt).seq (dps_strs ns), .tup hp2.seq hims.dp, ok.on, ⟨lv_tup fun d' hd' => ?_, fun ds e => ?_⟩, g2.2 ht, fun D hD cls dd H' g t => ?_, fun hn x2 dx2 H' g hx2 => ?_⟩
      · rcases List.mem_append.mp hd' with z | z
        · exact lv_up (ok.lvc d' z) (by decide)
        · rw [List.mem_singleton.mp z]
          exact lv_succ hl
      · cases e
        rw [List.length_append]
        show cd.length + 1 ≤ 60
        omega
      · rw [hrb, List.length_append] at hD
        by_cases h40 : cd.length + [d].length ≤ 40
        · rw [if_pos h40] at hD
          cases hD
        · rw [if_neg h40] at hD
          cases hD
          have h40' : ¬ cd.length + 1 ≤ 40 := h40
          exact q40 (by omega) cls dd H' (g2.trans g) t
      · rw [hrb, List.length_append] at hn
        by_cases h40 : cd.length + [d].length ≤ 40
        · have h40' : cd.length + 1 ≤ 40 := h40
          exact q1 (by omega) H' x2 (g2.trans g) ⟨dx2, an2, p2, _, hx2, han2.kt (g2.trans g).kt, hp2.kt g.kt, hims.kt g.kt⟩
        · rw [if_neg h40] at hn
          cases hn
end
section
variable {P : Program} {w : World} {K : PySem.W.Frag} {mg : Str → Option Value} {base : Heap} {G : List Addr} {L : List (Addr × Str)}
def spWithout (K : PySem.W.Frag) (G : List Addr) (L : List (Addr × Str)) : Sp := fun vs H Q E => ∃ (x : Addr) (v : V) (ns : List Str) (cd : List PyData) (d : PyData), vs = [.ref x, v] ∧ RulesAt K H x ns cd ∧ OkR ns cd ∧ Dp K H v d ∧ TBS G L H ∧
  ((∀ i : Nat, i < cd.length → d ≠ .int (i : Nat)) → ∀ cls dd H', Go G L H H' → Told K cls dd H' noclauseE → E cls dd H') ∧
  (∀ i : Nat, i < cd.length → d = .int (i : Nat) → ∀ H' x2, Go G L H H' → RulesAt K H' x2 ns (cd.take i ++ cd.drop (i + 1)) → Q (.ref x2) H')
theorem scWithout : FnScope ["self", "index"] ["self", "index"] (defScope (sM 5)) := C8.fnScope_by (by decide +kernel)
theorem ok_without {f : Addr} {fd : FuncData} (F : Fun K "without_clause" "Rules.without_clause" (sM 5) f fd) (zL : mg "len" = none) (M : Mkr P w K mg base G L) (C : Fd CX0 P w K mg base "is_number" 1 (spIsNumber K)) (T : Er0 K mg "UnknownClause") :
    FnOk P w K mg base (L2.CX P w) 6 f fd ["self", "index"] (spWithout K G L) := by
  refine F.okX scWithout (fun vs H Q E h => ?_) (fun cdv A outer s H vs Q E hr h => ?_)
  · obtain ⟨x, v, ns, cd, d, e, _⟩ := h
    rw [e]
    rfl
  · obtain ⟨x, v, ns, cd, d, e, hR, ok, hd, ht, qE, q⟩ := h
    subst e
    refine ⟨_, pss_cons (ps_if (PW.pt (pw_or (pt_not (pt_val (pe_fd (E := E0) C hr pass0 (pa_cons (pv 1) pa_nil)))) (pw_or1 (pt_not (pt_chain op_le op_lt pe_int (pv 1) (pe_callB c_len rfl zL boot_len (pa_cons (pe_fld (pv 0) rfl) pa_nil))))))) (pss_one (ps_raise rfl (takes_of rfl rfl rfl rfl) (pmk_er0 T))) pss_nil)
      (pss_one (ps_ret (pe_rules M hr (passes_call (takes_of rfl rfl rfl rfl) fun _ _ _ _ z => z) (pa_cons (pe_fld (pv 0) rfl) (pa_cons (pe_op op_catA (pe_slice sl_tupA (pe_fld (pv 0) rfl) po_none (po_some (pv 1))) (pe_slice sl_tupA (pe_fld (pv 0) rfl) (po_some (pe_op op_add (pv 1) pe_int)) po_none)) pa_nil))))), ?_⟩
    repeat walk_at "rd"
    refine ⟨v, _, rfl, Dp.kd hd, ?_⟩
    repeat walk_at "rd"
    by_cases hi : ∃ i, d = .int i
    · obtain ⟨i, rfl⟩ := hi
      cases hd
      refine r_if (fun cc => absurd cc (by simp [isNum, tyOf])) (fun _ => ?_)
      repeat walk_at "rd"
      have hcl := ok.cl
      refine r_if (fun c1 => ?_) (fun c1 => ?_)
      · repeat walk_at "rd"
        refine r_fclauses M.rc hR fun ac xs hac hxs => ?_
        repeat walk_at "rd"
        refine r_lenT hac.seq ?_
        have hlx := hxs.length
        repeat walk_at "rd"
        refine r_if (fun c2 => ?_) (fun c2 => ?_)
        · refine qE (fun j hj e => ?_) _ _ _ (Go.refl H) told_noclause
          cases e
          have z : decide (((j : Nat) : Int) < (xs.length : Nat)) = false := by simpa using c2
          have z2 := of_decide_eq_false z
          omega
        · have z : decide (i < (xs.length : Nat)) = true := by simpa using c2
          have z2 := of_decide_eq_true z
          have z1 := of_decide_eq_true c1
          obtain ⟨j, rfl⟩ := Int.eq_ofNat_of_zero_le z1
          have hj : j < cd.length := by omega
          repeat walk_at "rd"
          refine r_fnames M.rc hR fun an2 han2 => ?_
          repeat walk_at "rd"
          refine r_fclauses M.rc hR fun ac xs hac hxs => ?_
          have hlx := hxs.length
          repeat walk_at "rd"
          refine r_slT hac fun p1 H1 k1 hp1 => ?_
          have g1 : Go G L H H1 := Go.same k1
          repeat walk_at "rd"
          refine r_fclauses M.rc (hR.kt g1.kt) fun ac2 xs2 hac2 hxs2 => ?_
          repeat walk_at "rd"
          refine r_slT hac2 fun p2 H2 k2 hp2 => ?_
          have g12 : Go G L H1 H2 := Go.same k2
          have hlx2 := hxs2.length
          have e1 : cutV xs none (some ((j : Nat) : Int)) = xs.take j := cut_to (by omega)
          have e2 : cutV xs2 (some (((j : Nat) : Int) + 1)) none = xs2.drop (j + 1) := by
            have e0 : (((j : Nat) : Int) + 1) = ((j + 1 : Nat) : Int) := by omega
            rw [e0]
            exact cut_from (by omega)
          repeat walk_at "rd"
          have hl1 : (xs.take j).length ≤ 40 := by rw [List.length_take]; omega
          have hl2 : (xs2.drop (j + 1)).length ≤ 40 := by rw [List.length_drop]; omega
          refine r_catT (hp1.kt g12.kt) hp2 ?_ fun p3 H3 k3 hp3 => ?_
          · rw [e1, e2]
            exact Nat.le_trans (Nat.add_le_add hl1 hl2) (by decide)
          rw [e1, e2] at hp3
          have g3 := (g1.trans g12).trans (Go.same (G := G) (L := L) k3)
          repeat walk_at "rd"
          have hims : Ims H3 (xs.take j ++ xs2.drop (j + 1)) (cd.take j ++ cd.drop (j + 1)) := ((hxs.take j).kt g3.kt).app ((hxs2.drop (j + 1)).kt (g12.trans (Go.same (G := G) (L := L) k3)).kt)
          have hmem : ∀ d' ∈ cd.take j ++ cd.drop (j + 1), d' ∈ cd := fun d' hd' => by
            rcases List.mem_append.mp hd' with z | z
            · exact List.mem_of_mem_take z
            · exact List.mem_of_mem_drop z
          have hle : (cd.take j ++ cd.drop (j + 1)).length ≤ 40 := by
            rw [List.length_append, List.length_take, List.length_drop]
            omega
          have hrb := ok.rb (ce := cd.take j ++ cd.drop (j + 1)) fun d' hd' => ok.cs d' (hmem d' hd')
          rw [if_pos hle] at hrb
          refine mk_rules ⟨.ref an2, .ref p3, .tuple (ns.map PyData.str), .tuple (cd.take j ++ cd.drop (j + 1)), rfl, .tup (han2.kt g3.kt).seq (dps_strs ns), .tup hp3.seq hims.dp, ok.on, ⟨lv_tup fun d' hd' => lv_up (ok.lvc d' (hmem d' hd')) (by decide), fun ds e => (by cases e; omega)⟩, g3.2 ht, fun D hD => (by rw [hrb] at hD; cases hD), fun hn x2 dx2 H' g hx2 => ?_⟩
          exact q j hj rfl H' x2 (g3.trans g) ⟨dx2, an2, p3, _, hx2, han2.kt (g3.trans g).kt, hp3.kt g.kt, hims.kt g.kt⟩
      · repeat walk_at "rd"
        refine qE (fun j hj e => ?_) _ _ _ (Go.refl H) told_noclause
        cases e
        have z2 := of_decide_eq_false c1
        omega
    · have e1 : (!isNum (tyOf d)) = true := by
        cases d <;> first | rfl | exact absurd ⟨_, rfl⟩ hi
      rw [if_pos e1]
      repeat walk_at "rd"
      exact qE (fun j _ e => hi ⟨_, e⟩) _ _ _ (Go.refl H) told_noclause
/-! broken_clauses -/
def brk (sd : List PyData) : PyData → Bool
  | .tuple [.str w, a, b] => !holdsD sd w a b
  | _ => false
def brokenFrom (sd : List PyData) : Nat → List PyData → List Nat
  | _, [] => []
  | i, d :: ds => if brk sd d then i :: brokenFrom sd (i + 1) ds else brokenFrom sd (i + 1) ds
theorem broken_len (sd : List PyData) : ∀ (ds : List PyData) (i : Nat), (brokenFrom sd i ds).length ≤ ds.length
  | [], _ => Nat.le_refl _
  | d :: ds, i => by
    have ih := broken_len sd ds (i + 1)
    show (if brk sd d then i :: brokenFrom sd (i + 1) ds else brokenFrom sd (i + 1) ds).length ≤ ds.length + 1
    split
    · rw [List.length_cons]
      omega
    · omega
def spBroken (K : PySem.W.Frag) (G : List Addr) (L : List (Addr × Str)) : Sp := fun vs H Q E => ∃ (x : Addr) (v : V) (ns : List Str) (cd : List PyData) (d : PyData), vs = [.ref x, v] ∧ RulesAt K H x ns cd ∧ OkR ns cd ∧ Dp K H v d ∧ lv 7 d = true ∧ (∀ ds, d = .tuple ds → ds.length ≤ 60) ∧
  (∀ i, stateBad ns d = some i → ∀ cls dd H', Go G L H H' → Told K cls dd H' (.tuple [.str "invalid", .int (i : Nat)]) → E cls dd H') ∧
  (∀ ds, d = .tuple ds → stateBad ns d = none → ∀ H' l, Go G L H H' → H' l = some (.lst ((brokenFrom ds 0 cd).map fun i => V.int (i : Nat))) → Q (.ref l) H')
/-! broken_among -/
theorem lv_str {n : Nat} {z : Str} (h : PyData.strOk z = true) : lv n (.str z) = true := by
  cases n <;> exact h
def iOr (u v : TI) : TI := fun σ H R => u σ H R ∨ v σ H R
theorem pi_or {X : Cx} {tg iter : Expr} {u v : TI} (a : PI X tg iter u) (b : PI X tg iter v) : PI X tg iter (iOr u v) := ⟨fun pins s σ H R I h => by
  rcases h with h | h
  · exact a.run pins s σ H R I h
  · exact b.run pins s σ H R I h⟩
/-- what stands there: a list | a tuple -/
def Sq2 (H : Hp) (b : Bool) (a : Addr) (xs : List V) : Prop := if b = true then H a = some (.lst xs) else Tp H a xs
theorem Sq2.go {H H' : Hp} {b : Bool} {a : Addr} {xs : List V} (g : Go G L H H') (h : Sq2 H b a xs) : Sq2 H' b a xs := by
  cases b
  · exact Tp.kt h g.kt
  · exact g.lst h
theorem lcB {σ : L2.St} {H : Hp} {a : Addr} {xs : List V} {Q : VK} {te : TE} {g : TG} {tt : TT} {el : TE} {vs : List Nat} (b : Bool) (he : ∀ R : VK, R (.ref a) H → te σ H R) (hq : Sq2 H b a xs) (Pv : Addr → Nat → Hp → Prop)
    (h0 : ∀ D, H D = none → Pv D 0 (upd H D (.lst []))) (hG : ∀ D i H', H D = none → i ≤ xs.length → Pv D i H' → Sq2 H' b a xs)
    (hs : ∀ D i x H1, H D = none → xs[i]? = some x → Pv D i H1 → g x (wipe σ vs) H1 fun σ2 H2 => wipe σ2 vs = wipe σ vs ∧ tt σ2 H2 fun b H3 =>
      if b = true then el σ2 H3 fun y H4 => ∃ acc, H4 D = some (.lst acc) ∧ acc.length < sizeLine ∧ Pv D (i + 1) (upd H4 D (.lst (acc ++ [y]))) else Pv D (i + 1) H3) (hd : ∀ D H', H D = none → Pv D xs.length H' → Q (.ref D) H') : tLc (iOr (iTup K te) (iList K te)) g tt el vs σ H Q := by
  cases b
  · exact .inl (lcT (K := K) he (Tp.seq hq) Pv h0 (fun D i H' hD hi p => Tp.seq (hG D i H' hD hi p)) hs hd)
  · exact .inr (lcL (K := K) he (.of hq) Pv h0 (fun D i H' hD hi p => .of (hG D i H' hD hi p)) hs hd)
/-- enumerate of a list | of a tuple, in a comprehension -/
theorem lcEL {σ : L2.St} {H : Hp} {Q : VK} {te : TE} {g : TG} {tt : TT} {el : TE} {vs : List Nat} {a : Addr} {xs : List V} (he : ∀ R : VK, R (.ref a) H → te σ H R) (hq : SqL K H a xs) (Pv : Addr → Nat → Hp → Prop)
    (h0 : ∀ D, H D = none → Pv D 0 (upd H D (.lst []))) (hG : ∀ D i H', H D = none → i ≤ xs.length → Pv D i H' → SqL K H' a xs)
    (hs : ∀ D i x T H1, H D = none → xs[i]? = some x → H1 T = none → Pv D i H1 → g (.ref T) (wipe σ vs) (upd H1 T (.tup [.int (i : Nat), x])) fun σ2 H2 => wipe σ2 vs = wipe σ vs ∧ tt σ2 H2 fun b H3 =>
      if b = true then el σ2 H3 fun y H4 => ∃ acc, H4 D = some (.lst acc) ∧ acc.length < sizeLine ∧ Pv D (i + 1) (upd H4 D (.lst (acc ++ [y]))) else Pv D (i + 1) H3) (hd : ∀ D H', H D = none → Pv D xs.length H' → Q (.ref D) H') : tLc (iEnum K (tCons te tNil)) g tt el vs σ H Q := by
  refine r_lcI (fun R z => he _ ⟨a, xs, rfl, hq, z⟩) walk_enum Pv h0 hG ?_ hd
  rintro D i x H1 H2 hD hi p ⟨T, x1, y, ev, hT, eH, e1, e2⟩
  cases e1
  rw [ev, eH]
  exact hs D i y T H1 hD e2 hT p
theorem lcEB {σ : L2.St} {H : Hp} {a : Addr} {xs : List V} {Q : VK} {te : TE} {g : TG} {tt : TT} {el : TE} {vs : List Nat} (b : Bool) (he : ∀ R : VK, R (.ref a) H → te σ H R) (hq : Sq2 H b a xs) (Pv : Addr → Nat → Hp → Prop)
    (h0 : ∀ D, H D = none → Pv D 0 (upd H D (.lst []))) (hG : ∀ D i H', H D = none → i ≤ xs.length → Pv D i H' → Sq2 H' b a xs)
    (hs : ∀ D i x T H1, H D = none → xs[i]? = some x → H1 T = none → Pv D i H1 → g (.ref T) (wipe σ vs) (upd H1 T (.tup [.int (i : Nat), x])) fun σ2 H2 => wipe σ2 vs = wipe σ vs ∧ tt σ2 H2 fun b H3 =>
      if b = true then el σ2 H3 fun y H4 => ∃ acc, H4 D = some (.lst acc) ∧ acc.length < sizeLine ∧ Pv D (i + 1) (upd H4 D (.lst (acc ++ [y]))) else Pv D (i + 1) H3) (hd : ∀ D H', H D = none → Pv D xs.length H' → Q (.ref D) H') : tLc (iOr (iEnumT K (tCons te tNil)) (iEnum K (tCons te tNil))) g tt el vs σ H Q := by
  cases b
  · exact .inl (lcET (K := K) he (Tp.seq hq) Pv h0 (fun D i H' hD hi p => Tp.seq (hG D i H' hD hi p)) hs hd)
  · exact .inr (lcEL (K := K) he (.of hq) Pv h0 (fun D i H' hD hi p => .of (hG D i H' hD hi p)) hs hd)
def ClS (d : PyData) : Prop := ∃ w a b, d = .tuple [.str w, .str a, .str b] ∧ PyData.strOk w = true ∧ PyData.strOk a = true ∧ PyData.strOk b = true
theorem OkR.cls {ns : List Str} {cd : List PyData} (ok : OkR ns cd) : ∀ d ∈ cd, ClS d := fun d hd => by
  obtain ⟨w, a, b, rfl, hw, ha, hb⟩ := clause_shape (ok.cs d hd)
  exact ⟨w, a, b, rfl, word_ok hw, ok.gs.1 a ha, ok.gs.1 b hb⟩
def spAmong (K : PySem.W.Frag) (G : List Addr) (L : List (Addr × Str)) : Sp := fun vs H Q _ => ∃ (b : Bool) (ac : Addr) (xs : List V) (cd ds : List PyData) (v : V), vs = [.ref ac, v] ∧ Sq2 H b ac xs ∧ Ims H xs cd ∧ Dp K H v (.tuple ds) ∧ lv 7 (.tuple ds) = true ∧ cd.length ≤ 1000 ∧ (∀ d ∈ cd, ClS d) ∧
  ∀ H' l, Go G L H H' → H l = none → H' l = some (.lst ((brokenFrom ds 0 cd).map fun i => V.int (i : Nat))) → Q (.ref l) H'
abbrev nAmong : List Str := ["clauses", "state", "index", "clause"]
theorem scAmong : FnScope nAmong ["clauses", "state"] (defScope sAmong) := C8.fnScope_by (by decide +kernel)
theorem ok_among {f : Addr} {fd : FuncData} (F : Fun K "broken_among" "broken_among" sAmong f fd) (zE : mg "enumerate" = none) (FF : Fd CX0 P w K mg base "fulfils" 1 (spFul K)) :
    FnOk P w K mg base CX0 2 f fd ["clauses", "state"] (spAmong K G L) := by
  refine F.ok scAmong (fun vs H Q E h => ?_) (fun cdv A outer s H vs Q E hr h => ?_)
  · obtain ⟨b, ac, xs, cd, ds, v, e, _⟩ := h
    rw [e]
    rfl
  · obtain ⟨b, ac, xs, cd, ds, v, e, hac, hxs, hd, l7, hcl, hcs, q⟩ := h
    subst e
    refine ⟨_, pss_one (ps_ret (pe_lc (own := [("index", 2), ("clause", 3)]) (g := gTup K 2 (gCons (gName 2) (gCons (gName 3) gNil))) (wi := iOr (iEnumT K (tCons (tVar 0) tNil)) (iEnum K (tCons (tVar 0) tNil))) rfl scAmong.nd (pi_or (pi_enumT rfl zE (pa_cons (pv 0) pa_nil)) (pi_enum rfl zE (pa_cons (pv 0) pa_nil)))
        (blkOk_by (own := [("index", 2), ("clause", 3)]) (N := nAmong) (sc := defScope sAmong) (by decide +kernel))
        (fun _ _ _ _ _ => pg_tup rfl (pgs_cons (pg_name (i := 2) scAmong.nd rfl (.inl rfl)) (pgs_cons (pg_name (i := 3) scAmong.nd rfl (.inl rfl)) pgs_nil)))
        (fun _ _ _ _ _ => pts_one (pt_not (pt_val (pe_fd (E := E0) FF hr pass0 (pa_cons (pv 1) (pa_cons (pv 3) pa_nil)))))) (fun _ _ _ _ _ => pv 2))), ?_⟩
    have hlx := hxs.length
    repeat walk_at "rd"
    refine lcEB (a := ac) (xs := xs) b (fun R' z => ⟨_, rfl, z⟩) hac
      (fun D i H' => ∃ acc : List Nat, Go G L H H' ∧ H' D = some (.lst (acc.map fun i => V.int (i : Nat))) ∧ acc.length ≤ i ∧ brokenFrom ds 0 cd = acc ++ brokenFrom ds i (cd.drop i)) ?_ ?_ ?_ ?_
    · intro D hD
      exact ⟨[], Go.new hD, upd_same, Nat.le_refl _, rfl⟩
    · rintro D i H' hD _ ⟨acc, g, _⟩
      exact hac.go g
    · rintro D i y T2 H2 hD ey hT ⟨acc, g, hDl, hal, hb2⟩
      have g3 : Go G L H (upd H2 T2 (.tup [.int (i : Nat), y])) := g.trans (Go.new hT)
      have hDl3 : (upd H2 T2 (.tup [.int (i : Nat), y])) D = some (.lst (acc.map fun i => V.int (i : Nat))) := by rw [upd_ne (ne_of_none hDl hT)]; exact hDl
      refine r_pair (.of upd_same) ⟨rfl, ?_⟩
      generalize upd H2 T2 (.tup [.int (i : Nat), y]) = H3 at g3 hDl3
      obtain ⟨dy, hdy, hy⟩ := hxs.get ey
      obtain ⟨hil, e1⟩ := List.getElem?_eq_some_iff.mp hdy
      have hdrop : cd.drop i = dy :: cd.drop (i + 1) := by
        rw [← e1]
        exact List.drop_eq_getElem_cons hil
      have hmem := List.mem_of_getElem? hdy
      obtain ⟨w', a', b', rfl, hw', ha', hb'⟩ := hcs dy hmem
      repeat walk_at "rd"
      refine ⟨v, y, ds, w', _, _, rfl, Dp.go g3.1 hd, (hy.kt g3.kt).dp, lv_succ l7, lv_str ha', lv_str hb', ?_⟩
      repeat walk_at "rd"
      rw [hdrop] at hb2
      refine r_if (fun c => ?_) (fun c => ?_)
      · repeat walk_at "rd"
        refine ⟨_, hDl3, ?_, acc ++ [i], g3.updNew hD hDl3, ?_, ?_, ?_⟩
        · rw [List.length_map, sizeLine_eq]
          omega
        · rw [upd_same, List.map_append]
          rfl
        · rw [List.length_append]
          show acc.length + 1 ≤ i + 1
          omega
        · rw [hb2]
          have e : brokenFrom ds i (.tuple [.str w', .str a', .str b'] :: cd.drop (i + 1)) = i :: brokenFrom ds (i + 1) (cd.drop (i + 1)) := if_pos c
          rw [e, List.append_assoc]
          rfl
      · refine ⟨acc, g3, hDl3, by omega, ?_⟩
        rw [hb2]
        have e : brokenFrom ds i (.tuple [.str w', .str a', .str b'] :: cd.drop (i + 1)) = brokenFrom ds (i + 1) (cd.drop (i + 1)) := if_neg (by rw [show brk ds (.tuple [.str w', .str a', .str b']) = false from c]; decide)
        rw [e]
    · rintro D H' hD ⟨acc, g, hDl, _, hb2⟩
      have e : brokenFrom ds xs.length (cd.drop xs.length) = [] := by
        rw [hlx, List.drop_length]
        rfl
      rw [e, List.append_nil] at hb2
      exact q H' D g hD (by rw [hb2]; exact hDl)
theorem scBroken : FnScope ["self", "state"] ["self", "state"] (defScope (sM 6)) := C8.fnScope_by (by decide +kernel)
theorem ok_broken {f : Addr} {fd : FuncData} (F : Fun K "broken_clauses" "Rules.broken_clauses" (sM 6) f fd) (R : RulC K mg) (C : Fd (L2.CX P w) P w K mg base "check_state" 3 (spChkState K G L)) (AM : Fd CX0 P w K mg base "broken_among" 2 (spAmong K G L)) :
    FnOk P w K mg base (L2.CX P w) 4 f fd ["self", "state"] (spBroken K G L) := by
  refine F.okX scBroken (fun vs H Q E h => ?_) (fun cdv A outer s H vs Q E hr h => ?_)
  · obtain ⟨x, v, ns, cd, d, e, _⟩ := h
    rw [e]
    rfl
  · obtain ⟨x, v, ns, cd, d, e, hR, ok, hd, l7, hl, qE, q⟩ := h
    subst e
    refine ⟨_, pss_cons (ps_expr (pe_fd C hr (passes_call (takes_of rfl rfl rfl rfl) fun _ _ _ _ z => z) (pa_cons (pe_fld (pv 0) rfl) (pa_cons (pv 1) pa_nil))))
      (pss_one (ps_ret (pe_fd (E := E0) AM hr pass0 (pa_cons (pe_fld (pv 0) rfl) (pa_cons (pv 1) pa_nil))))), ?_⟩
    repeat walk_at "rd"
    refine r_fnames R hR fun an han => ?_
    repeat walk_at "rd"
    refine ⟨an, v, ns, d, rfl, han, hd, ok.gs, l7, hl, qE, fun hb H1 g1 => ?_⟩
    have hz : ∃ ds, d = .tuple ds := by
      cases d with
      | tuple ds => exact ⟨ds, rfl⟩
      | _ => cases hb
    obtain ⟨ds, rfl⟩ := hz
    repeat walk_at "rd"
    refine r_fclauses R (hR.kt g1.kt) fun ac xs hac hxs => ?_
    repeat walk_at "rd"
    exact ⟨false, ac, xs, cd, ds, v, rfl, hac, hxs, Dp.go g1.1 hd, l7, by have := ok.cl; omega, ok.cls, fun H' l g2 _ e => q ds rfl hb H' l (g1.trans g2) e⟩
end
section
variable {P : Program} {w : World} {K : PySem.W.Frag} {mg : Str → Option Value} {base : Heap} {G : List Addr} {L : List (Addr × Str)}
/-! is_legal -/
def spLegal (K : PySem.W.Frag) (G : List Addr) (L : List (Addr × Str)) : Sp := fun vs H Q E => ∃ (x : Addr) (v : V) (ns : List Str) (cd : List PyData) (d : PyData), vs = [.ref x, v] ∧ RulesAt K H x ns cd ∧ OkR ns cd ∧ Dp K H v d ∧ lv 7 d = true ∧ (∀ ds, d = .tuple ds → ds.length ≤ 60) ∧
  (∀ i, stateBad ns d = some i → ∀ cls dd H', Go G L H H' → Told K cls dd H' (.tuple [.str "invalid", .int (i : Nat)]) → E cls dd H') ∧
  (∀ ds, d = .tuple ds → stateBad ns d = none → ∀ H', Go G L H H' → Q (.bl (decide (brokenFrom ds 0 cd = []))) H')
theorem scLegal : FnScope ["self", "state"] ["self", "state"] (defScope (sM 7)) := C8.fnScope_by (by decide +kernel)
theorem ok_legal {f : Addr} {fd : FuncData} (F : Fun K "is_legal" "Rules.is_legal" (sM 7) f fd) (zL : mg "len" = none) (B : Fm P w K mg base "broken_clauses" 4 (spBroken K G L)) : FnOk P w K mg base (L2.CX P w) 5 f fd ["self", "state"] (spLegal K G L) := by
  refine F.okX scLegal (fun vs H Q E h => ?_) (fun cdv A outer s H vs Q E hr h => ?_)
  · obtain ⟨x, v, ns, cd, d, e, _⟩ := h
    rw [e]
    rfl
  · obtain ⟨x, v, ns, cd, d, e, hR, ok, hd, l7, hl, qE, q⟩ := h
    subst e
    refine ⟨_, pss_one (ps_ret (pe_cmpR op_eq (pe_callB c_len rfl zL boot_len (pa_cons (pe_fm B hr (pv 0) (passes_call (takes_of rfl rfl rfl rfl) fun _ _ _ _ z => z) (pa_cons (pv 1) pa_nil)) pa_nil)) pe_int (nomark _))), ?_⟩
    repeat walk_at "rd"
    refine r_fm (x := x) (fun R z => ⟨_, rfl, z⟩) hR (fun _ _ => rfl) ?_
    repeat walk_at "rd"
    refine ⟨x, v, ns, cd, d, rfl, hR, ok, hd, l7, hl, qE, fun ds ed hb H' l g hl' => ?_⟩
    repeat walk_at "rd"
    refine r_lenL (.of hl') ?_
    repeat walk_at "rd"
    refine r_eq rfl ?_
    have e : decide (V.int (((brokenFrom ds 0 cd).map fun i => V.int (i : Nat)).length : Nat) = V.int 0) = decide (brokenFrom ds 0 cd = []) := by
      rw [List.length_map]
      by_cases h : brokenFrom ds 0 cd = []
      · rw [h]
        rfl
      · rw [decide_eq_false h]
        refine decide_eq_false fun z => h ?_
        have z2 := V.int.inj z
        exact List.length_eq_zero_iff.mp (by omega)
    rw [e]
    exact q ds ed hb H' g
/-! the properties -/
structure Fp (P : Program) (w : World) (K : PySem.W.Frag) (mg : Str → Option Value) (base : Heap) (m f : Str) : Prop where
  c : Cls K (cR K)
  ex : ∃ (p g : Addr) (fd : FuncData), PropOf K (cR K) m p g ∧ FnOk P w K mg base CX0 1 g fd ["self"] (getSp (cR K) f) ∧ Binds K fd ["self"] []
theorem pe_fp {X : Cx} {m f : Str} {j : Nat} {e : Expr} {pos : Pos} {ta : TE} (c : Fp X.prog X.w X.K X.mg X.base m f) (hr : Room j X.A) (he : PE X e ta) (hk : 2 ≤ j := by decide) (hab : attributeBase e m X.env (eval e X.env) = eval e X.env := by rfl) :
    PE X (.Attribute e m pos) (tProp (cR X.K) (getSp (cR X.K) f) [] E0 ta) := by
  obtain ⟨p, g, fd, h1, F, b⟩ := c.ex
  exact pe_prop he c.c h1 F (hr.mono hk) b .nil pass0 hab
theorem scGet (i : Nat) (h : i = 1 ∨ i = 2) : FnScope ["self"] ["self"] (defScope (sM i)) := by
  rcases h with rfl | rfl <;> exact C8.fnScope_by (by decide +kernel)
theorem ok_names {g : Addr} {fd : FuncData} (F : Fun K "names" "Rules.names" (sM 1) g fd) (R : RulC K mg) : FnOk P w K mg base CX0 1 g fd ["self"] (getSp (cR K) "_names") := by
  obtain ⟨oc, od, kV, doc, pm, an, cdv, ct, osl, efd, lk, hcd⟩ := F.ex
  subst efd
  exact fn_getter (f := "_names") lk hcd (scGet 1 (.inl rfl)) rfl rfl R.cl R.n1
theorem ok_clauses {g : Addr} {fd : FuncData} (F : Fun K "clauses" "Rules.clauses" (sM 2) g fd) (R : RulC K mg) : FnOk P w K mg base CX0 1 g fd ["self"] (getSp (cR K) "_clauses") := by
  obtain ⟨oc, od, kV, doc, pm, an, cdv, ct, osl, efd, lk, hcd⟩ := F.ex
  subst efd
  exact fn_getter (f := "_clauses") lk hcd (scGet 2 (.inr rfl)) rfl rfl R.cl R.n2
theorem r_pnames {σ : L2.St} {H : Hp} {Q : VK} {ta : TE} {x : Addr} {ns : List Str} {cd : List PyData} (hx : ∀ R : VK, R (.ref x) H → ta σ H R) (h : RulesAt K H x ns cd) (q : ∀ an, NT H an (ns.map V.str) → Q (.ref an) H) : tProp (cR K) (getSp (cR K) "_names") [] E0 ta σ H Q := by
  obtain ⟨dx, an, ac, xs, h1, h2, _⟩ := h
  exact hx _ ⟨x, dx, _, rfl, h1, x, dx, _, .ref an, rfl, h1, rfl, q an h2⟩
theorem r_pclauses {σ : L2.St} {H : Hp} {Q : VK} {ta : TE} {x : Addr} {ns : List Str} {cd : List PyData} (hx : ∀ R : VK, R (.ref x) H → ta σ H R) (h : RulesAt K H x ns cd) (q : ∀ ac xs, Tp H ac xs → Ims H xs cd → Q (.ref ac) H) : tProp (cR K) (getSp (cR K) "_clauses") [] E0 ta σ H Q := by
  obtain ⟨dx, an, ac, xs, h1, _, h3, h4⟩ := h
  exact hx _ ⟨x, dx, _, rfl, h1, x, dx, _, .ref ac, rfl, h1, rfl, q ac xs h3 h4⟩
/-! free -/
theorem pe_makeL {X : Cx} {CX : CXT} {k i : Nat} {C f : Addr} {fd : FuncData} {ps : List Str} {sp : Sp} {dvs : List V} {ds : List Value} {E : XK} {x : Str} {p pos : Pos} {e : Expr} {es : List Expr} {t : TA} (M : Mk X.K C f) (F : FnOk X.prog X.w X.K X.mg X.base CX k f fd ps sp) (hr : Room (k + 1) X.A) (hN : X.N[i]? = some x) (hv : Vis X.env.scope x) (hb : Binds X.K fd ps ds) (hd : Vals dvs ds) (hx : Passes CX X E) (ha : PA X (e :: es) t)
    (hdb : (x == ("__debug__" : Str)) = false := by decide) (hcd : (x == ("__classdict__" : Str)) = false := by decide)
    (he : starEach (e :: es) X.env = (false, eval e X.env) :: starEach es X.env := by rfl) (hpl : (backTo pos (starEach es X.env)).any (·.1) = false := by rfl) :
    PE X (.Call (.Name x p) (e :: es) [] pos) (fun σ H Q => σ[i]? = some (some (.ref C)) ∧ tMake C sp dvs E t σ H Q) := by
  refine ⟨fun pins s σ H Q I ⟨hs, ht⟩ => ?_⟩
  refine wpAny_Call_Name_kw (thn ((pe_var (pos := p) hN hv hdb hcd).run pins s σ H (fun v H1 => v = .ref C ∧ H1 = H) I ⟨.ref C, hs, rfl, rfl⟩) fun u s1 ⟨v, H1, I1, r1, ev, eH⟩ => ?_)
  subst ev eH
  cases r1
  refine PySem.W.callWith_K (h₀ := X.base) I.ok.mod.kin M.kp (thn (ha.run pos pins s1 σ _ _ I1 ht) fun us s2 ⟨vs, H2, I2, r, q⟩ => ⟨I2.kIn, ?_⟩) he hpl
  exact run_make M F hr hb hd hx I2 r q
/-- free(*names), called with the class -/
def spFree (K : PySem.W.Frag) (G : List Addr) (L : List (Addr × Str)) : Sp := fun vs H Q E => ∃ (na : Addr) (xs : List V) (dn : List PyData), vs = [.ref (cR K), .ref na] ∧ H na = some (.tup xs) ∧ Ims H xs dn ∧ okN (.tuple dn) ∧ TBS G L H ∧
  (∀ D, rulesBad (.tuple dn) (.tuple []) = some D → ∀ cls dd H', Go G L H H' → Told K cls dd H' D → E cls dd H') ∧ (rulesBad (.tuple dn) (.tuple []) = none → ∀ H' x dx ac, Go G L H H' → H' x = some (.ins (cR K) dx (rfs (.ref na) (.ref ac))) → Tp H' ac [] → Q (.ref x) H')
theorem scFree : FnScope ["cls", "names"] ["cls", "names"] (defScope (sM 3)) := C8.fnScope_by (by decide +kernel)
def spFreeS (K : PySem.W.Frag) (G : List Addr) (L : List (Addr × Str)) : Sp := fun vs H Q E => ∃ ws rest, vs = ws ++ rest ∧ ws.length = (["cls"] : List Str).length ∧ rest.length ≤ sizeLine ∧ ∀ p, H p = none → spFree K G L (ws ++ [V.ref p]) (upd H p (.tup rest)) Q E
theorem ok_free {f : Addr} {fd : FuncData} (F : Fun K "free" "Rules.free" (sM 3) f fd) (M : Mkr P w K mg base G L) : FnR P w K mg base (L2.CX P w) 7 f (spFreeS K G L) := by
  obtain ⟨oc, od, kV, doc, pm, an, cdv, ct, osl, efd, lk, hcd⟩ := F.ex
  subst efd
  obtain ⟨fI, fdI, psI, mk, FI, bI⟩ := M.ex
  refine StX.fn_star (k := 6) (ps := ["cls"]) (pv := "names") lk hcd scFree StX.cxUp (StX.bind_star1 (B := fun us => bindArgs (PySem.W.fnOf "free" "Rules.free" (defArgs (sM 3)) (defBody (sM 3)) (defScope (sM 3)) .none kV doc pm an cdv ct) ⟨us, []⟩) (p1 := "cls") (pv := "names") (fun a => rfl) (fun a r rs => rfl)) (fun A outer s H vs Q E hr h => ?_)
  obtain ⟨na, xs, dn, e, hna, him, on, ht, qE, q⟩ := h
  subst e
  refine ⟨_, pss_one (ps_ret (pe_makeL (i := 0) mk FI (hr.mono (by decide)) rfl (.inl rfl) bI .nil (passes_call (takes_of rfl rfl rfl rfl) fun _ _ _ _ z => z) (pa_cons (pv 1) (pa_cons (pe_tup pa_nil) pa_nil)))), ?_⟩
  refine r_ret ⟨rfl, ?_⟩
  repeat walk_at "rd"
  refine ⟨Nat.zero_le _, fun p hp => ?_⟩
  have g1 : Go G L H (upd H p (.tup [])) := Go.new hp
  have t1 : Tp (upd H p (.tup [])) p [] := .inl upd_same
  have n1 : (upd H p (.tup [])) na = some (.tup xs) := by rw [upd_ne (ne_of_none hna hp)]; exact hna
  generalize upd H p (.tup []) = H1 at g1 t1 n1 ⊢
  repeat walk_at "rd"
  refine mk_rules ⟨.ref na, .ref p, .tuple dn, .tuple [], rfl, .tup (.of n1) (him.kt g1.kt).dp, .tup t1.seq .nil, on, ⟨rfl, fun ds e => (by cases e; exact Nat.zero_le _)⟩, g1.2 ht, fun D hD cls dd H' g t => qE D hD cls dd H' (g1.trans g) t, fun hn x dx H' g hx => q hn H' x dx p (g1.trans g) hx (t1.kt g.kt)⟩
end
/-! _law_holds -/
section
variable {P : Program} {w : World} {K : PySem.W.Frag} {mg : Str → Option Value} {base : Heap} {G : List Addr} {L : List (Addr × Str)}
theorem r_par {σ : L2.St} {H : Hp} {D : Ends} {i j : Nat} {ta : TA} (h : ta σ H fun vs H1 => ∃ v w, vs = [v, w] ∧ D.nx ((σ.set i (some v)).set j (some w)) H1) : tPar i j ta D σ H := h
theorem r_two {v w : V} {A : V → V → Prop} (h : A v w) : ∃ x y, [v, w] = [x, y] ∧ A x y := ⟨v, w, rfl, h⟩
def isWord (w : Str) : Prop := w = "needs" ∨ w = "excludes" ∨ w = "either"
def hKvs (b1 b2 b3 : Bool) : List (Key × V) := [(.inr "needs", .bl b1), (.inr "excludes", .bl b2), (.inr "either", .bl b3)]
theorem hKvs_get {w : Str} (b1 b2 b3 : Bool) (h : isWord w) : valV (hKvs b1 b2 b3) (.inr w) = some (.bl (if w = "needs" then b1 else if w = "excludes" then b2 else b3)) := by
  rcases h with rfl | rfl | rfl
  · rfl
  · rfl
  · rfl
theorem hKvs_merge (b1 b2 b3 : Bool) : mergeK [] (hKvs b1 b2 b3) = hKvs b1 b2 b3 := rfl
theorem r_disp3 {σ : L2.St} {H : Hp} {Q : VK} {k1 k2 k3 : Str} {t1 t2 t3 : TE} (b1 b2 b3 : Bool) (h1 : ∀ H1 (R : VK), R (.bl b1) H1 → t1 σ H1 R) (h2 : ∀ H1 (R : VK), R (.bl b2) H1 → t2 σ H1 R) (h3 : ∀ H1 (R : VK), R (.bl b3) H1 → t3 σ H1 R)
    (q : ∀ p H', (∀ b o, H b = some o → H' b = some o) → H' p = some (.dK (mergeK [] [(.inr k1, .bl b1), (.inr k2, .bl b2), (.inr k3, .bl b3)])) → Q (.ref p) H') : tDisp [(tC (.str k1), t1), (tC (.str k2), t2), (tC (.str k3), t3)] σ H Q := by
  intro p hp
  refine h1 _ _ (h2 _ _ (h3 _ _ ⟨upd_same, [(.inr k1, .bl b1), (.inr k2, .bl b2), (.inr k3, .bl b3)], rfl, by show 3 ≤ 15; decide, q p _ (fun b o e => ?_) upd_same⟩))
  rw [upd_ne (ne_of_none e hp), upd_ne (ne_of_none e hp)]
  exact e
def spHolds (K : PySem.W.Frag) (G : List Addr) (L : List (Addr × Str)) : Sp := fun vs H Q _ => ∃ cv sv sd w a b, vs = [cv, sv] ∧ Dp K H cv (.tuple [.str w, a, b]) ∧ Dp K H sv (.tuple sd) ∧ isWord w ∧ lv 8 (.tuple sd) = true ∧ lv 8 a = true ∧ lv 8 b = true ∧ ∀ H', Go G L H H' → Q (.bl (holdsD sd w a b)) H'
theorem scHolds : FnScope ["_law_clause_here", "_law_state", "_law_first", "_law_second"] ["_law_clause_here", "_law_state"] (defScope sHolds) := C8.fnScope_by (by decide +kernel)
theorem ok_holds {f : Addr} {fd : FuncData} (F : Fun K "_law_holds" "_law_holds" sHolds f fd) : FnOk P w K mg base CX0 1 f fd ["_law_clause_here", "_law_state"] (spHolds K G L) := by
  refine F.ok scHolds (fun vs H Q E h => ?_) (fun cdv A outer s H vs Q E hr h => ?_)
  · obtain ⟨cv, sv, sd, w, a, b, e, _⟩ := h
    rw [e]
    rfl
  · obtain ⟨cv, sv, sd, w, a, b, e, hc, hs, hw, l0, l1, l2, q⟩ := h
    subst e
    refine ⟨_, pss_cons (ps_par (i := 2) (j := 3) rfl scHolds.nd rfl rfl (by decide) rfl rfl
        (pa_cons (pe_cmpR (op_inT (u65 hr)) (pe_ix ix_tup (pv 0) pe_int (fun _ _ => rfl)) (pv 1) rfl) (pa_cons (pe_cmpR (op_inT (u65 hr)) (pe_ix ix_tup (pv 0) pe_int (fun _ _ => rfl)) (pv 1) rfl) pa_nil)) rfl)
      (pss_one (ps_ret (pe_dget (hu_of hr) (pe_disp (pps_cons pe_str (pe_or (pe_not (pv 2)) (pe_one (pv 3))) (pps_cons pe_str (pe_not (pe_and (pv 2) (pe_one (pv 3)))) (pps_cons pe_str (pe_or (pv 2) (pe_one (pv 3))) pps_nil))) rfl rfl (by simp) (by decide))
        (pe_ix ix_tup (pv 0) pe_int (fun _ _ => rfl)) (fun _ _ => rfl)))), ?_⟩
    cases hc with
    | @tup T xs _ hT hxs =>
      have h3 : xs.length = 3 := Dps.length hxs
      obtain ⟨x, y, z, dx, dy, dz, e1, e2, hx, hy, hz⟩ := three_of hxs h3
      cases e2
      subst e1
      cases hx
      refine r_seq (r_par ?_)
      repeat walk_at "rd"
      refine r_ixT hT (v := y) rfl ?_
      repeat walk_at "rd"
      refine r_inT hy hs l1 l0 ?_
      repeat walk_at "rd"
      refine r_ixT hT (v := z) rfl ?_
      repeat walk_at "rd"
      refine r_inT hz hs l2 l0 ?_
      repeat walk_at "rd"
      refine r_two ?_
      refine r_ret ?_
      refine r_disp3 (!inD a sd || inD b sd) (!(inD a sd && inD b sd)) (inD a sd || inD b sd) ?_ ?_ ?_ ?_
      · intro H1 R z
        cases h1 : inD a sd <;> cases h2 : inD b sd <;> rw [h1, h2] at z <;> (repeat walk_at "rd") <;> exact z
      · intro H1 R z
        cases h1 : inD a sd <;> cases h2 : inD b sd <;> rw [h1, h2] at z <;> (repeat walk_at "rd") <;> exact z
      · intro H1 R z
        cases h1 : inD a sd <;> cases h2 : inD b sd <;> rw [h1, h2] at z <;> (repeat walk_at "rd") <;> exact z
      · intro p H' k hp
        repeat walk_at "rd"
        refine r_ixT (sqT_go hT fun b o e _ => k b o e) (v := .str w) rfl ?_
        refine ⟨p, .bl (holdsD sd w a b), rfl, ?_, q H' (Go.same k)⟩
        have e := hKvs_get (!inD a sd || inD b sd) (!(inD a sd && inD b sd)) (inD a sd || inD b sd) hw
        have e2 : (if w = "needs" then (!inD a sd || inD b sd) else if w = "excludes" then (!(inD a sd && inD b sd)) else (inD a sd || inD b sd)) = holdsD sd w a b := by
          unfold holdsD
          rw [Bool.not_and]
        rw [e2] at e
        rw [← e]
        exact DGet.k (k := .inr w) hp
end
/-! _law_clause -/
section
variable {P : Program} {w : World} {K : PySem.W.Frag} {mg : Str → Option Value} {base : Heap} {G : List Addr} {L : List (Addr × Str)}
theorem Row.lst {H : Hp} {r : Rid} (h : Row K H r) : ∃ xs, H r.r = some (.lst xs) := by
  obtain ⟨_, _, _, _, _, h, _⟩ := h
  exact ⟨_, h⟩
theorem Row.kt {H H' : Hp} {r : Rid} (h : Row K H r) (g : GoR G L r.r H H') : KT H H' := by
  obtain ⟨_, h⟩ := h.lst
  exact g.kt h
theorem Row.ev {H H' : Hp} {r : Rid} (h : Row K H r) (g : Ev r.r H H') (hr : ∀ o, H r.r = some o → H' r.r = some o) : Row K H' r := by
  obtain ⟨i, s, l, sc, hn, h, hi⟩ := h
  exact .mk' sc hn g (hr _ h) hi
/-- the script of h0, the counts of h -/
theorem Row.re {H0 H H' : Hp} {r : Rid} (h0 : Row K H0 r) (h : Row K H r) (g : Ev r.r H0 H') (hr : H' r.r = H r.r) : Row K H' r := by
  obtain ⟨_, _, _, sc, hn, _, _⟩ := h0
  obtain ⟨i, s, l, _, _, e, hi⟩ := h
  exact .mk' sc hn g (hr.trans e) hi
theorem Row.go {H H' : Hp} {r : Rid} (h : Row K H r) (g : Go G L H H') : Row K H' r :=
  h.ev (ev_of g.1) fun o e => g.1 r.r o e (by
    obtain ⟨xs, z⟩ := h.lst
    rw [z] at e
    cases e
    intro ps q
    cases q)
/-- a call of _law_taken -/
theorem r_taken {H : Hp} {Q : VK} {r : Rid} {m : Int} {E : XK} (hR : Row K H r) (m0 : 0 < m) (m1 : m < 1000000) (q : ∀ (v : Nat) (H' : Hp), (v : Int) < m → GoR G L r.r H H' → Row K H' r → Q (.int (v : Nat)) H') : spTaken K G L ([.ref r.r, .int m] ++ []) H Q E := by
  refine ⟨r, m, rfl, hR, m0, m1, fun v H' h0 h1 g hR' => ?_⟩
  obtain ⟨n, rfl⟩ := Int.eq_ofNat_of_zero_le h0
  exact q n H' h1 g hR'
def wordAt (n : Nat) : Str := ["needs", "excludes", "needs", "either", "needs"].getD n "needs"
theorem wordAt_ok (n : Nat) (h : n < 5) : isWord (wordAt n) ∧ atI [V.str "needs", .str "excludes", .str "needs", .str "either", .str "needs"] (n : Nat) = some (.str (wordAt n)) := by
  match n, h with
  | 0, _ => exact ⟨.inl rfl, rfl⟩
  | 1, _ => exact ⟨.inr (.inl rfl), rfl⟩
  | 2, _ => exact ⟨.inl rfl, rfl⟩
  | 3, _ => exact ⟨.inr (.inr rfl), rfl⟩
  | 4, _ => exact ⟨.inl rfl, rfl⟩
theorem at_strs {ns : List Str} {n : Nat} (h : n < ns.length) : ∃ z, z ∈ ns ∧ atI (ns.map V.str) (n : Nat) = some (.str z) :=
  ⟨ns[n], List.getElem_mem h, atI_nat (by rw [List.getElem?_map, List.getElem?_eq_getElem h]; rfl)⟩
/-- a clause of the names -/
def ClD (ns : List Str) (d : PyData) : Prop := ∃ w a b, d = .tuple [.str w, .str a, .str b] ∧ isWord w ∧ a ∈ ns ∧ b ∈ ns
def spClause (K : PySem.W.Frag) (G : List Addr) (L : List (Addr × Str)) : Sp := fun vs H Q _ => ∃ (r : Rid) (an : Addr) (ns : List Str), vs = [.ref r.r, .ref an] ∧ Row K H r ∧ Tp H an (ns.map V.str) ∧ ns ≠ [] ∧ ns.length ≤ 60 ∧
  ∀ v d H', ClD ns d → Im H' v d → GoR G L r.r H H' → Row K H' r → Q v H'
theorem scClause : FnScope ["_law_row", "_law_names", "_law_word"] ["_law_row", "_law_names"] (defScope sClause) := C8.fnScope_by (by decide +kernel)
theorem ok_clause {f : Addr} {fd : FuncData} (F : Fun K "_law_clause" "_law_clause" sClause f fd) (zL : mg "len" = none) (TK : Fd CX0 P w K mg base "_law_taken" 1 (spTaken K G L)) : FnOk P w K mg base CX0 2 f fd ["_law_row", "_law_names"] (spClause K G L) := by
  refine F.ok scClause (fun vs H Q E h => ?_) (fun cdv A outer s H vs Q E hr h => ?_)
  · obtain ⟨r, an, ns, e, _⟩ := h
    rw [e]
    rfl
  · obtain ⟨r, an, ns, e, hR, ha, hne, hl, q⟩ := h
    subst e
    refine ⟨_, pss_cons (ps_set (i := 2) scClause.nd rfl (Or.inl rfl) (pe_ix ix_list (pe_lst (pa_cons pe_str (pa_cons pe_str (pa_cons pe_str (pa_cons pe_str (pa_cons pe_str pa_nil)))))) (pe_fd (E := E0) TK hr pass0 (pa_cons (pv 0) (pa_cons pe_int pa_nil))) (fun _ _ => rfl)))
      (pss_one (ps_ret (pe_tup (pa_cons (pv 2) (pa_cons (pe_ix ix_tup (pv 1) (pe_fd (E := E0) TK hr pass0 (pa_cons (pv 0) (pa_cons (pe_callB c_len rfl zL boot_len (pa_cons (pv 1) pa_nil)) pa_nil))) (fun _ _ => rfl))
        (pa_cons (pe_ix ix_tup (pv 1) (pe_fd (E := E0) TK hr pass0 (pa_cons (pv 0) (pa_cons (pe_callB c_len rfl zL boot_len (pa_cons (pv 1) pa_nil)) pa_nil))) (fun _ _ => rfl)) pa_nil)))))), ?_⟩
    have n0 : 0 < ns.length := List.length_pos_iff.mpr hne
    repeat walk_at "rd"
    refine ⟨(by show 5 ≤ sizeLine; decide), fun p hp => ?_⟩
    have g0 : Go G L H (upd H p (.lst [V.str "needs", .str "excludes", .str "needs", .str "either", .str "needs"])) := Go.new hp
    have hR0 := hR.go g0
    have hp0 : upd H p (.lst [V.str "needs", .str "excludes", .str "needs", .str "either", .str "needs"]) p = some (.lst [V.str "needs", .str "excludes", .str "needs", .str "either", .str "needs"]) := upd_same
    have pr : p ≠ r.r := by
      obtain ⟨xs, z⟩ := hR.lst
      exact (ne_of_none z hp).symm
    have ha0 := ha.kt g0.kt
    generalize upd H p (.lst [V.str "needs", .str "excludes", .str "needs", .str "either", .str "needs"]) = H0 at g0 hR0 hp0 ha0 ⊢
    repeat walk_at "rd"
    refine r_taken hR0 (by decide) (by decide) fun v1 H1 hv1 g1 hR1 => ?_
    obtain ⟨w1, w2⟩ := wordAt_ok v1 (by omega)
    refine r_ixL (.of (g1.lst pr hp0)) w2 ?_
    have ha1 := ha0.kt (hR0.kt g1)
    repeat walk_at "rd"
    refine r_lenT ha1.seq ?_
    rw [List.length_map]
    repeat walk_at "rd"
    refine r_taken hR1 (by omega) (by omega) fun v2 H2 hv2 g2 hR2 => ?_
    obtain ⟨z2, m2, e2⟩ := at_strs (ns := ns) (n := v2) (by omega)
    have ha2 := ha1.kt (hR1.kt g2)
    refine r_ixT ha2.seq e2 ?_
    repeat walk_at "rd"
    refine r_lenT ha2.seq ?_
    rw [List.length_map]
    repeat walk_at "rd"
    refine r_taken hR2 (by omega) (by omega) fun v3 H3 hv3 g3 hR3 => ?_
    obtain ⟨z3, m3, e3⟩ := at_strs (ns := ns) (n := v3) (by omega)
    refine r_ixT (ha2.kt (hR2.kt g3)).seq e3 ?_
    repeat walk_at "rd"
    refine ⟨(by show 3 ≤ sizeLine; decide), fun p4 hp4 => ?_⟩
    have g4 : Go G L H3 (upd H3 p4 (.tup [.str (wordAt v1), .str z2, .str z3])) := Go.new hp4
    exact q _ (.tuple [.str (wordAt v1), .str z2, .str z3]) _ ⟨_, _, _, rfl, w1, m2, m3⟩ (.tup (.inl upd_same) (.cons (.str _) (.cons (.str _) (.cons (.str _) .nil)))) ((((g0.toR.trans g1).trans g2).trans g3).trans g4.toR) (hR3.go g4)
end
/-! lists that are taken apart -/
section
variable {P : Program} {w : World} {K : PySem.W.Frag} {mg : Str → Option Value} {base : Heap} {G : List Addr} {L : List (Addr × Str)}
theorem u64 {k : Nat} {A : Around} (r : Room k A) : A.units + 64 < cLine := by
  have z := r.un
  omega
theorem lv_lst {n : Nat} {ds : List PyData} (h : ∀ d ∈ ds, lv n d = true) : lv (n + 1) (.list ds) = true := by
  have h' : ds.all (lv n) = true := List.all_eq_true.mpr h
  simpa only [lv] using h'
theorem r_neD {H : Hp} {Q : VK} {x y : V} {d e : PyData} (h1 : Dp K H x d) (h2 : Dp K H y e) (s1 : lv 8 d = true) (s2 : lv 8 e = true) (q : Q (.bl (!PyData.eqv d e)) H) : rNeD K x y H Q := ⟨d, e, h1, h2, shaped_of s1, shaped_of s2, q⟩
theorem r_eqD {H : Hp} {Q : VK} {x y : V} {d e : PyData} (h1 : Dp K H x d) (h2 : Dp K H y e) (s1 : lv 8 d = true) (s2 : lv 8 e = true) (q : Q (.bl (PyData.eqv d e)) H) : rEqD K x y H Q := ⟨d, e, h1, h2, shaped_of s1, shaped_of s2, q⟩
theorem eqv_nil (ds : List PyData) : PyData.eqv (.list ds) (.list []) = decide (ds = []) := by
  cases ds with
  | nil => simp [PyData.eqv, PyData.eqvAll]
  | cons d ds => simp [PyData.eqv, PyData.eqvAll]
theorem seqIx {n j : Nat} (h : j < n) : seqIndex? (j : Int) n = some j := by
  have z := (ixN_seq (n := n) (i := (j : Int)) (j := j) (by unfold ixN; rw [if_pos (by omega), if_pos (by omega)]; rfl)).1
  exact z
theorem mono_ne {i : Nat} : ∀ (σ : L2.St) (H : Hp) (Q Q' : Bool → Hp → Prop), (∀ b H1, Q b H1 → Q' b H1) → tB (tOp (rNeD K) (tVar i) (tLst tNil)) σ H Q → tB (tOp (rNeD K) (tVar i) (tLst tNil)) σ H Q' := by
  intro σ H Q Q' k h
  obtain ⟨v, hv, hl, h2⟩ := h
  refine ⟨v, hv, hl, fun p hp => ?_⟩
  obtain ⟨d, e, h3, h4, h5, h6, c, hc, q⟩ := h2 p hp
  exact ⟨d, e, h3, h4, h5, h6, c, hc, k _ _ q⟩
theorem Ims.erase {H : Hp} : ∀ {vs : List V} {ds : List PyData} (k : Nat), Ims H vs ds → Ims H (vs.eraseIdx k) (ds.eraseIdx k)
  | _, _, _, .nil => .nil
  | _, _, 0, .cons _ t => t
  | _, _, k + 1, .cons h t => .cons h (Ims.erase k t)
theorem r_bmL {σ : L2.St} {H : Hp} {Q : VK} {r : V → List V → Hp → VK → Prop} {to : TE} {t : TA} {p : Addr} {xs : List V} (ho : ∀ R : VK, R (.ref p) H → to σ H R) (hp : H p = some (.lst xs)) (h : t σ H fun vs H2 => r (.ref p) vs H2 Q) : tBM K "list" r to t σ H Q :=
  ho _ ⟨.inl ⟨rfl, _, SqL.of hp⟩, h⟩
theorem r_append {H : Hp} {Q : VK} {p : Addr} {xs : List V} {y : V} (hp : H p = some (.lst xs)) (hl : xs.length ≤ 5000) (q : Q .non (upd H p (.lst (xs ++ [y])))) : rAppend (.ref p) [y] H Q :=
  ⟨p, xs, y, rfl, rfl, hp, Nat.lt_of_le_of_lt hl (by decide), q⟩
theorem r_popAt {H : Hp} {Q : VK} {p : Addr} {xs : List V} {k : Nat} {y : V} (hp : H p = some (.lst xs)) (hy : xs[k]? = some y) (hl : xs.length ≤ 5000) (q : Q y (upd H p (.lst (xs.eraseIdx k)))) : rPopAt (.ref p) [.int (k : Nat)] H Q := by
  have hk : k < xs.length := (List.getElem?_eq_some_iff.mp hy).1
  exact ⟨p, xs, k, k, y, rfl, rfl, hp, by omega, by omega, seqIx hk, hy, q⟩
/-- new, or a table -/
def Nw (H : Hp) (D : Addr) : Prop := ∀ o, (∀ ps, o ≠ .tbl ps) → H D ≠ some o
theorem Nw.of {H : Hp} {D : Addr} (n : H D = none) : Nw H D := fun o _ e => by rw [n] at e; cases e
theorem Nw.back {H H' : Hp} {r D : Addr} (g : GoR G L r H H') (n : Nw H' D) (hr : D ≠ r) : Nw H D := fun o h e => n o h (g.1 D o hr h e)
theorem Nw.lst {H : Hp} {D b : Addr} {xs : List V} (n : Nw H D) (h : H b = some (.lst xs)) : D ≠ b := fun e => by
  subst e
  exact n _ (fun ps z => by cases z) h
theorem GoR.updNw {H H' : Hp} {r D : Addr} {xs ys : List V} (g : GoR G L r H H') (n : Nw H D) (h : H' D = some (.lst xs)) : GoR G L r H (L2.upd H' D (.lst ys)) :=
  ⟨fun b o nr nt e => by rw [upd_ne (fun z => by subst z; exact n o nt e)]; exact g.1 b o nr nt e, fun t => (GoR.upd (G := G) (L := L) h).2 (g.2 t)⟩
/-- while rest != []: order.append(rest.pop(taken(row, len(rest)))) -/
def tShuf (K : PySem.W.Frag) (G : List Addr) (L : List (Addr × Str)) (ir ip io : Nat) : TS :=
  tWhile (tB (tOp (rNeD K) (tVar ip) (tLst tNil))) (tDrop (tBM K "list" rAppend (tVar io) (tCons (tBM K "list" rPopAt (tVar ip) (tCons (tCall (spTaken K G L) [] E0 (tCons (tVar ir) (tCons (tCB (cLen K) (tCons (tVar ip) tNil)) tNil))) tNil)) tNil)))
def sizeP (H : Hp) (p : Addr) : Nat := match H p with
  | some (.lst xs) => xs.length
  | _ => 0
theorem sizeP_of {H : Hp} {p : Addr} {xs : List V} (h : H p = some (.lst xs)) : sizeP H p = xs.length := by
  unfold sizeP
  rw [h]
theorem r_shuf {σ : L2.St} {H0 H : Hp} {D : Ends} {ir ip io : Nat} {r : Rid} {p o : Addr} {xs : List V} {ds : List PyData} (sr : σ[ir]? = some (some (.ref r.r))) (sp : σ[ip]? = some (some (.ref p))) (so : σ[io]? = some (some (.ref o)))
    (hR : Row K H r) (hR0 : Row K H0 r) (hp : H p = some (.lst xs)) (ho : H o = some (.lst [])) (npo : p ≠ o) (np : Nw H0 p) (no : Nw H0 o) (g : GoR G L r.r H0 H) (hi : Ims H xs ds) (hl : xs.length ≤ 5000) (l7 : ∀ d ∈ ds, lv 7 d = true)
    (q : ∀ H' ys es, GoR G L r.r H0 H' → Row K H' r → H' o = some (.lst ys) → Ims H' ys es → es.length = ds.length → (∀ d ∈ es, d ∈ ds) → (∀ b zs, b ≠ r.r → b ≠ p → b ≠ o → H b = some (.lst zs) → H' b = some (.lst zs)) → KT H H' → D.nx σ H') : tShuf K G L ir ip io D σ H := by
  have npr : p ≠ r.r := by
    obtain ⟨zs, z⟩ := hR0.lst
    exact np.lst z
  have nor : o ≠ r.r := by
    obtain ⟨zs, z⟩ := hR0.lst
    exact no.lst z
  refine while_by (fun σ' H' => σ' = σ ∧ ∃ xs ys ds' es, GoR G L r.r H0 H' ∧ Row K H' r ∧ H' p = some (.lst xs) ∧ H' o = some (.lst ys) ∧ Ims H' xs ds' ∧ Ims H' ys es ∧ xs.length + ys.length ≤ 5000 ∧ ds'.length + es.length = ds.length ∧ (∀ d ∈ ds', d ∈ ds) ∧ (∀ d ∈ es, d ∈ ds) ∧ (∀ b zs, b ≠ r.r → b ≠ p → b ≠ o → H b = some (.lst zs) → H' b = some (.lst zs)) ∧ KT H H') (fun _ H' => sizeP H' p) ?_ ?_ mono_ne
  · exact ⟨rfl, xs, [], ds, [], g, hR, hp, ho, hi, .nil, by show xs.length + 0 ≤ 5000; omega, rfl, fun d hd => hd, fun d hd => absurd hd (by simp), fun _ _ _ _ _ e => e, KT.refl H⟩
  · rintro σ' H' ⟨rfl, xs', ys, ds', es, g', hR', hp', ho', hx, hy, hlen, hle, m1, m2, kp, kt0⟩
    rw [sizeP_of hp']
    refine ⟨_, sp, ?_⟩
    refine ⟨Nat.zero_le _, fun t ht => ?_⟩
    have g2 : Go G L H' (upd H' t (.lst [])) := Go.new ht
    have e1 : (upd H' t (.lst [])) p = some (.lst xs') := by rw [upd_ne (ne_of_none hp' ht)]; exact hp'
    have e2 : (upd H' t (.lst [])) o = some (.lst ys) := by rw [upd_ne (ne_of_none ho' ht)]; exact ho'
    have e3 : (upd H' t (.lst [])) t = some (.lst []) := upd_same
    have hR2 := hR'.go g2
    have hx2 := hx.kt g2.kt
    have hy2 := hy.kt g2.kt
    have g3 := g'.trans g2.toR
    have kt1 := kt0.trans g2.kt
    have kp2 := fun b zs n1 n2 n3 e => g2.lst (kp b zs n1 n2 n3 e)
    generalize upd H' t (.lst []) = H2 at e1 e2 e3 g3 hR2 hx2 hy2 kp2 kt1 ⊢
    refine r_neD (.lst (.of e1) hx2.dp) (.lst (.of e3) .nil) (lv_lst fun d hd => l7 d (m1 d hd)) (by decide) ⟨_, rfl, ?_⟩
    rw [eqv_nil]
    refine r_if (fun c => ?_) (fun c => ?_)
    · have hne : ds' ≠ [] := by simpa using c
      have hlx := hx2.length
      have hpos : 0 < xs'.length := by
        rw [hlx]
        exact List.length_pos_iff.mpr hne
      refine r_drop (r_bmL (fun R z => ⟨_, so, z⟩) e2 (r_cons (r_bmL (fun R z => ⟨_, sp, z⟩) e1 ?_)))
      refine r_cons (r_call (r_cons ⟨_, sr, r_cons (r_cb (r_cons ⟨_, sp, r_nil ?_⟩)) ⟩))
      refine r_lenL (.of e1) (r_nil ?_)
      refine r_taken hR2 (by omega) (by omega) fun k H3 hk g4 hR3 => r_nil ?_
      have hk' : k < xs'.length := by omega
      have e1' := g4.lst npr e1
      have e2' := g4.lst nor e2
      have kt := hR2.kt g4
      have g5 := g3.trans g4
      refine r_popAt e1' (List.getElem?_eq_getElem hk') (by omega) (r_nil ?_)
      have e4 : (upd H3 p (.lst (xs'.eraseIdx k))) o = some (.lst ys) := by rw [upd_ne npo.symm]; exact e2'
      refine r_append e4 (by omega) ?_
      have hpd : (upd H3 p (.lst (xs'.eraseIdx k))) p = some (.lst (xs'.eraseIdx k)) := upd_same
      have g6 : GoR G L r.r H0 (upd H3 p (.lst (xs'.eraseIdx k))) := g5.updNw np e1'
      have g7 : GoR G L r.r H0 (upd (upd H3 p (.lst (xs'.eraseIdx k))) o (.lst (ys ++ [xs'[k]]))) := g6.updNw no e4
      have kt2 : KT H3 (upd (upd H3 p (.lst (xs'.eraseIdx k))) o (.lst (ys ++ [xs'[k]]))) :=
        ((GoR.upd (G := G) (L := L) e1').kt e1').trans ((GoR.upd (G := G) (L := L) e4).kt e4)
      have hlen' : ds'.length = xs'.length := hlx.symm
      obtain ⟨dk, hdk, hik⟩ := (hx2.kt kt).get (List.getElem?_eq_getElem hk')
      have hmem := List.mem_of_getElem? hdk
      have hR4 : Row K (upd (upd H3 p (.lst (xs'.eraseIdx k))) o (.lst (ys ++ [xs'[k]]))) r := hR0.re hR3 g7.1 (by rw [upd_ne nor.symm, upd_ne npr.symm])
      refine ⟨⟨rfl, _, _, _, _, g7, hR4, by rw [upd_ne npo]; exact hpd, upd_same, ((hx2.kt kt).erase k).kt kt2, ((hy2.kt kt).app (.cons hik .nil)).kt kt2, ?_, ?_, ?_, ?_, fun b zs n1 n2 n3 e => by rw [upd_ne n3, upd_ne n2]; exact g4.lst n1 (kp2 b zs n1 n2 n3 e), (kt1.trans kt).trans kt2⟩, ?_⟩
      · rw [List.length_eraseIdx_of_lt hk', List.length_append]
        show xs'.length - 1 + (ys.length + 1) ≤ 5000
        omega
      · rw [List.length_eraseIdx_of_lt (by omega), List.length_append]
        show ds'.length - 1 + (es.length + 1) = ds.length
        omega
      · exact fun d hd => m1 d (List.mem_of_mem_eraseIdx hd)
      · intro d hd
        rcases List.mem_append.mp hd with z | z
        · exact m2 d z
        · rw [List.mem_singleton.mp z]
          exact m1 _ hmem
      · have e9 : (upd (upd H3 p (.lst (xs'.eraseIdx k))) o (.lst (ys ++ [xs'[k]]))) p = some (.lst (xs'.eraseIdx k)) := by rw [upd_ne npo]; exact hpd
        rw [sizeP_of e9, List.length_eraseIdx_of_lt hk']
        omega
    · have hnil : ds' = [] := by simpa using c
      subst hnil
      refine q H2 ys es g3 hR2 e2 hy2 ?_ m2 kp2 kt1
      simpa using hle
end
/-! _law_ordered -/
section
variable {P : Program} {w : World} {K : PySem.W.Frag} {mg : Str → Option Value} {base : Heap} {G : List Addr} {L : List (Addr × Str)}
theorem im_str {H : Hp} {v : V} {z : Str} (h : Im H v (.str z)) : v = .str z := by
  cases h
  rfl
theorem none_of {H : Hp} {a b : Addr} {o : HO} (h : upd H a o b = none) : H b = none := by
  by_cases e : b = a
  · subst e
    rw [upd_same] at h
    cases h
  · rw [upd_ne e] at h
    exact h
theorem r_par3 {σ : L2.St} {H : Hp} {D : Ends} {i j l : Nat} {ta : TA} (h : ta σ H fun vs H1 => ∃ u v w, vs = [u, v, w] ∧ D.nx (((σ.set i (some u)).set j (some v)).set l (some w)) H1) : tPar3 i j l ta D σ H := h
theorem r_three {u v w : V} {A : V → V → V → Prop} (h : A u v w) : ∃ x y z, [u, v, w] = [x, y, z] ∧ A x y z := ⟨u, v, w, rfl, h⟩
/-- tuple(list[:40]) -/
theorem r_slL {H : Hp} {Q : VK} {a : Addr} {xs : List V} {lo hi : Option Int} (h : H a = some (.lst xs)) (q : ∀ p H', (∀ b o, H b = some o → H' b = some o) → H' p = some (.lst (cutV xs lo hi)) → Q (.ref p) H') : rSlL K (.ref a) lo hi H Q :=
  ⟨a, xs, rfl, .of h, fun p hp => q p _ (fun b o e => by rw [upd_ne (ne_of_none e hp)]; exact e) upd_same⟩
theorem r_tupL2 {H : Hp} {Q : VK} {p : Addr} {ys : List V} (h : H p = some (.lst ys)) (q : ∀ l H', (∀ b o, H b = some o → H' b = some o) → NT H' l ys → Q (.ref l) H') : cTup K [.ref p] H Q :=
  r_tupL (.of h) fun l o hl h1 h2 => q l _ (fun b ob e => by rw [upd_ne (ne_of_none e hl)]; exact e) (.of h1 h2)
/-- what is drawn: a tuple of clauses -/
def endC (G : List Addr) (L : List (Addr × Str)) (K : PySem.W.Frag) (r : Rid) (ns : List Str) (H : Hp) (Q : VK) : Prop := ∀ (p : Addr) (cd : List PyData) H', (∀ d ∈ cd, ClD ns d) → cd.length ≤ 40 → Im H' (.ref p) (.tuple cd) → GoR G L r.r H H' → Row K H' r → Q (.ref p) H'
def spOrdered (K : PySem.W.Frag) (G : List Addr) (L : List (Addr × Str)) : Sp := fun vs H Q _ => ∃ (r : Rid) (an : Addr) (ns : List Str), vs = [.ref r.r, .ref an] ∧ Row K H r ∧ Tp H an (ns.map V.str) ∧ ns.length ≤ 60 ∧ (∀ z ∈ ns, PyData.strOk z = true) ∧ endC G L K r ns H Q
theorem scOrdered : FnScope ["_law_row", "_law_names", "_law_rest", "_law_order", "_law_clauses", "_law_k", "_law_j"] ["_law_row", "_law_names"] (defScope sOrdered) := C8.fnScope_by (by decide +kernel)
theorem ok_ordered {f : Addr} {fd : FuncData} (F : Fun K "_law_ordered" "_law_ordered" sOrdered f fd) (zL : mg "len" = none) (zl : mg "list" = none) (zR : mg "range" = none) (zT : mg "tuple" = none) (TK : Fd CX0 P w K mg base "_law_taken" 1 (spTaken K G L)) : FnOk P w K mg base CX0 2 f fd ["_law_row", "_law_names"] (spOrdered K G L) := by
  refine F.ok scOrdered (fun vs H Q E h => ?_) (fun cdv A outer s H vs Q E hr h => ?_)
  · obtain ⟨r, an, ns, e, _⟩ := h
    rw [e]
    rfl
  · obtain ⟨r, an, ns, e, hR, ha, hl, hok, q⟩ := h
    subst e
    refine ⟨_, pss_cons (ps_par3 (i := 2) (j := 3) (l := 4) rfl scOrdered.nd rfl rfl rfl (by decide) (by decide) (by decide) rfl rfl rfl (pa_cons (pe_callTy c_list rfl zl (by decide +kernel) (pa_cons (pv 1) pa_nil)) (pa_cons (pe_lst pa_nil) (pa_cons (pe_lst pa_nil) pa_nil))) rfl)
      (pss_cons (ps_while PassesOwn.never (pt_cmpR (op_neD (u64 hr)) (pv 2) (pe_lst pa_nil) rfl)
        (pss_one (ps_expr (pe_bm PySem.F.plainAttrs_list PySem.F.slot_list_append PySem.F.type_list_append mt_append (pv 3)
          (pa_cons (pe_bm PySem.F.plainAttrs_list PySem.F.slot_list_pop PySem.F.type_list_pop mt_popAt (pv 2) (pa_cons (pe_fd (E := E0) TK hr pass0 (pa_cons (pv 0) (pa_cons (pe_callB c_len rfl zL boot_len (pa_cons (pv 2) pa_nil)) pa_nil))) pa_nil)) pa_nil)))))
      (pss_cons (ps_for PassesOwn.never rfl (pi_range1 rfl zR (pa_cons (pe_callB c_len rfl zL boot_len (pa_cons (pv 3) pa_nil)) pa_nil)) (pg_name (i := 5) scOrdered.nd rfl (.inl rfl))
        (pss_one (ps_for PassesOwn.never rfl (pi_range1 rfl zR (pa_cons (pv 5) pa_nil)) (pg_name (i := 6) scOrdered.nd rfl (.inl rfl))
          (pss_one (ps_if (pt_cmpR op_eq (pe_fd (E := E0) TK hr pass0 (pa_cons (pv 0) (pa_cons pe_int pa_nil))) pe_int (nomark _))
            (pss_one (ps_expr (pe_bm PySem.F.plainAttrs_list PySem.F.slot_list_append PySem.F.type_list_append mt_append (pv 4)
              (pa_cons (pe_tup (pa_cons pe_str (pa_cons (pe_ix ix_list (pv 3) (pv 5) (fun _ _ => rfl)) (pa_cons (pe_ix ix_list (pv 3) (pv 6) (fun _ _ => rfl)) pa_nil)))) pa_nil)))) pss_nil)))))
      (pss_one (ps_ret (pe_callTy c_tup rfl zT (by decide +kernel) (pa_cons (pe_slice sl_list (pv 4) po_none (po_some pe_int)) pa_nil)))))), ?_⟩
    refine r_seq (r_par3 ?_)
    repeat walk_at "rd"
    refine r_listT ha.seq fun p2 hp2 => ?_
    repeat walk_at "rd"
    refine ⟨Nat.zero_le _, fun p3 hp3 => ?_⟩
    repeat walk_at "rd"
    refine ⟨Nat.zero_le _, fun p4 hp4 => ?_⟩
    repeat walk_at "rd"
    refine r_three ?_
    have g1 : Go G L H (upd H p2 (.lst (ns.map V.str))) := Go.new hp2
    have n3 : H p3 = none := none_of hp3
    have n4' := none_of hp4
    have n4 : H p4 = none := none_of n4'
    have g3 := (g1.trans (Go.new (G := G) (L := L) (o := .lst []) hp3)).trans (Go.new (G := G) (L := L) (o := .lst []) hp4)
    have n23 : p2 ≠ p3 := ne_of_none (H := upd H p2 (.lst (ns.map V.str))) upd_same hp3
    have n24 : p2 ≠ p4 := fun z => by subst z; rw [upd_ne n23, upd_same] at hp4; cases hp4
    have n34 : p3 ≠ p4 := ne_of_none (H := upd (upd H p2 (.lst (ns.map V.str))) p3 (.lst [])) upd_same hp4
    have e2 : (upd (upd (upd H p2 (.lst (ns.map V.str))) p3 (.lst [])) p4 (.lst [])) p2 = some (.lst (ns.map V.str)) := by rw [upd_ne n24, upd_ne n23, upd_same]
    have e3 : (upd (upd (upd H p2 (.lst (ns.map V.str))) p3 (.lst [])) p4 (.lst [])) p3 = some (.lst []) := by rw [upd_ne n34, upd_same]
    have e4 : (upd (upd (upd H p2 (.lst (ns.map V.str))) p3 (.lst [])) p4 (.lst [])) p4 = some (.lst []) := upd_same
    generalize upd (upd (upd H p2 (.lst (ns.map V.str))) p3 (.lst [])) p4 (.lst []) = H3 at g3 e2 e3 e4 ⊢
    have gR3 : GoR G L r.r H H3 := g3.toR
    have hR3 := hR.go g3
    refine r_seq (r_shuf (K := K) (G := G) (L := L) (r := r) (H0 := H) rfl rfl rfl hR3 hR e2 e3 n23 (.of hp2) (.of n3) gR3 ((ims_strs ns)) (by rw [List.length_map]; omega) (fun d hd => ?_) fun H4 ys es g4 hR4 e3b him hlen hmem kp _ => ?_)
    · obtain ⟨z, hz, e⟩ := List.mem_map.mp hd
      rw [← e]
      exact hok z hz
    have n4r : p4 ≠ r.r := by
      obtain ⟨zs, z⟩ := hR.lst
      exact (ne_of_none z n4).symm
    have n3r : p3 ≠ r.r := by
      obtain ⟨zs, z⟩ := hR.lst
      exact (ne_of_none z n3).symm
    have e4b := kp p4 [] n4r n24.symm n34.symm e4
    have hys := him.length
    rw [List.length_map] at hlen
    have hat : ∀ (k : Nat), k < ys.length → ∃ z, z ∈ ns ∧ atI ys (k : Nat) = some (.str z) := fun k hk => by
      obtain ⟨d, h1, h2⟩ := him.get (List.getElem?_eq_getElem hk)
      obtain ⟨z, hz, e⟩ := List.mem_map.mp (hmem d (List.mem_of_getElem? h1))
      rw [← e] at h2
      have h3 : ys[k] = .str z := im_str h2
      exact ⟨z, hz, atI_nat (by rw [List.getElem?_eq_getElem hk, h3])⟩
    have hys60 : ys.length ≤ 60 := by omega
    clear kp him
    dsimp only
    refine r_seq ?_
    refine forR (n := ys.length) (H0 := H4) (fun R z => r_cb (r_cons ⟨_, rfl, r_nil (r_lenL (.of e3b) z)⟩)) (by omega)
      (fun i σ H' => ∃ (x5 x6 : Option V) (xs : List V) (cd : List PyData), σ = [some (.ref r.r), some (.ref an), some (.ref p2), some (.ref p3), some (.ref p4), x5, x6] ∧ GoR G L r.r H H' ∧ Row K H' r ∧ H' p3 = some (.lst ys) ∧ H' p4 = some (.lst xs) ∧ Ims H' xs cd ∧ (∀ d ∈ cd, ClD ns d) ∧ xs.length ≤ 60 * i) ?_ ?_ ?_
    · exact ⟨none, none, [], [], rfl, g4, hR4, e3b, e4b, .nil, fun d hd => absurd hd (by simp), Nat.zero_le _⟩
    · rintro k σ H5 hk ⟨x5, x6, xs, cd, rfl, g5, hR5, e35, e45, hxs, hcd, hlx⟩
      refine r_gN ?_
      refine forR (n := k) (H0 := H5) (fun R z => ⟨_, rfl, z⟩) (by omega)
        (fun j σ H' => ∃ (x6 : Option V) (xs : List V) (cd : List PyData), σ = [some (.ref r.r), some (.ref an), some (.ref p2), some (.ref p3), some (.ref p4), some (.int (k : Nat)), x6] ∧ GoR G L r.r H H' ∧ Row K H' r ∧ H' p3 = some (.lst ys) ∧ H' p4 = some (.lst xs) ∧ Ims H' xs cd ∧ (∀ d ∈ cd, ClD ns d) ∧ xs.length ≤ 60 * k + j) ?_ ?_ ?_
      · exact ⟨x6, xs, cd, rfl, g5, hR5, e35, e45, hxs, hcd, hlx⟩
      · rintro j σ H6 hj ⟨x6, xs, cd, rfl, g6, hR6, e36, e46, hxs, hcd, hlx⟩
        refine r_gN ?_
        repeat walk_at "rd"
        refine r_taken hR6 (by decide) (by decide) fun v H7 hv g7 hR7 => ?_
        have e37 := g7.lst n3r e36
        have e47 := g7.lst n4r e46
        have hxs7 := hxs.kt (hR6.kt g7)
        have g67 := g6.trans g7
        repeat walk_at "rd"
        refine r_eq rfl ?_
        repeat walk_at "rd"
        refine r_if (fun c => ?_) (fun c => ?_)
        · refine r_drop (r_bmL (fun R z => ⟨_, rfl, z⟩) e47 (r_cons ?_))
          refine r_tup (r_cons (r_c (r_cons (r_op ⟨_, rfl, ⟨_, rfl, ?_⟩⟩))))
          obtain ⟨z1, m1, a1⟩ := hat k (by omega)
          refine r_ixL (.of e37) a1 ?_
          refine r_cons (r_op ⟨_, rfl, ⟨_, rfl, ?_⟩⟩)
          obtain ⟨z2, m2, a2⟩ := hat j (by omega)
          refine r_ixL (.of e37) a2 ?_
          refine r_nil ⟨(by show 3 ≤ sizeLine; decide), fun p hp => r_nil ?_⟩
          have g8 : Go G L H7 (upd H7 p (.tup [.str "needs", .str z1, .str z2])) := Go.new hp
          have e38 := g8.lst e37
          have e48 := g8.lst e47
          have hp8 : (upd H7 p (.tup [.str "needs", .str z1, .str z2])) p = some (.tup [.str "needs", .str z1, .str z2]) := upd_same
          have hxs8 := hxs7.kt g8.kt
          have hR8 := hR7.go g8
          have g68 := g67.trans g8.toR
          generalize upd H7 p (.tup [.str "needs", .str z1, .str z2]) = H8 at e38 e48 hp8 hxs8 hR8 g68 ⊢
          have hb : 60 * k + j ≤ 3600 := by
            have hk60 : k ≤ 59 := by omega
            omega
          refine r_append e48 (by omega) ?_
          have kt9 : KT H8 (upd H8 p4 (.lst (xs ++ [.ref p]))) := (GoR.upd (G := G) (L := L) e48).kt e48
          have g9 : GoR G L r.r H (upd H8 p4 (.lst (xs ++ [.ref p]))) := g68.updNew n4 e48
          refine ⟨_, _, cd ++ [.tuple [.str "needs", .str z1, .str z2]], rfl, g9, hR.re hR8 g9.1 (by rw [upd_ne n4r.symm]), by rw [upd_ne n34]; exact e38, upd_same, (hxs8.app (.cons (.tup (.inl hp8) (.cons (.str _) (.cons (.str _) (.cons (.str _) .nil)))) .nil)).kt kt9, fun d hd => ?_, ?_⟩
          · rcases List.mem_append.mp hd with z | z
            · exact hcd d z
            · rw [List.mem_singleton.mp z]
              exact ⟨_, _, _, rfl, .inl rfl, m1, m2⟩
          · rw [List.length_append]
            show xs.length + 1 ≤ 60 * k + (j + 1)
            omega
        · exact ⟨_, xs, cd, rfl, g67, hR7, e37, e47, hxs7, hcd, by omega⟩
      · rintro σ H6 ⟨x6, xs, cd, rfl, g6, hR6, e36, e46, hxs, hcd, hlx⟩
        exact ⟨_, _, xs, cd, rfl, g6, hR6, e36, e46, hxs, hcd, by omega⟩
    · rintro σ H5 ⟨x5, x6, xs, cd, rfl, g5, hR5, e35, e45, hxs, hcd, hlx⟩
      repeat walk_at "rd"
      refine r_slL e45 fun p H6 k6 e6 => ?_
      repeat walk_at "rd"
      refine r_tupL2 e6 fun p7 H7 k7 e7 => ?_
      have g67 : Go G L H5 H7 := (Go.same k6).trans (Go.same k7)
      have hc : ∃ cd', Ims H5 (cutV xs none (some 40)) cd' ∧ cd'.length ≤ 40 ∧ ∀ d ∈ cd', d ∈ cd := by
        have e : cutV xs none (some 40) = xs.take 40 := by
          unfold cutV
          rw [HT.sIx_none, show (some (40 : Int)) = some ((40 : Nat) : Int) from rfl, HT.sIx_nat, List.drop_zero, Nat.sub_zero]
          by_cases h : 40 ≤ xs.length
          · rw [Nat.min_eq_left h]
          · rw [Nat.min_eq_right (by omega), List.take_of_length_le (Nat.le_refl _), List.take_of_length_le (by omega)]
        rw [e]
        exact ⟨cd.take 40, hxs.take 40, by rw [List.length_take]; omega, fun d hd => List.mem_of_mem_take hd⟩
      obtain ⟨cd', hc1, hc2, hc3⟩ := hc
      exact q p7 cd' H7 (fun d hd => hcd d (hc3 d hd)) hc2 (.tup e7.tp (hc1.kt g67.kt)) (g5.trans g67.toR) (hR5.go g67)
end
/-! _law_rules -/
section
variable {P : Program} {w : World} {K : PySem.W.Frag} {mg : Str → Option Value} {base : Heap} {G : List Addr} {L : List (Addr × Str)}
/-- range(e): the number comes with its own heap -/
theorem lcRg {σ : L2.St} {H : Hp} {Q : VK} {te : TE} {g : TG} {tt : TT} {el : TE} {vs : List Nat} (good : Nat → Hp → Prop) (he : ∀ R : VK, (∀ n H0, good n H0 → R (.int (n : Nat)) H0) → te σ H R)
    (body : ∀ n H0, good n H0 → n < 1000000 ∧ ∃ Pv : Addr → Nat → Hp → Prop, (∀ D, H0 D = none → Pv D 0 (upd H0 D (.lst []))) ∧
      (∀ D i H1, H0 D = none → i < n → Pv D i H1 → g (.int (i : Nat)) (wipe σ vs) H1 fun σ2 H2 => wipe σ2 vs = wipe σ vs ∧ tt σ2 H2 fun b H3 =>
        if b = true then el σ2 H3 fun y H4 => ∃ acc, H4 D = some (.lst acc) ∧ acc.length < sizeLine ∧ Pv D (i + 1) (upd H4 D (.lst (acc ++ [y]))) else Pv D (i + 1) H3) ∧ (∀ D H', H0 D = none → Pv D n H' → Q (.ref D) H')) : tLc (iRng1 (tCons te tNil)) g tt el vs σ H Q := by
  refine he _ fun n H0 hg => ?_
  obtain ⟨hn, Pv, h0, hs, hd⟩ := body n H0 hg
  have z := lcR (σ := σ) (te := fun _ _ R => R (.int (n : Nat)) H0) (H := H) (g := g) (tt := tt) (el := el) (vs := vs) (n := n) (H0 := H0) (Q := Q) (fun _ z => z) hn Pv h0 hs hd
  exact z
theorem forRg {σ : L2.St} {H : Hp} {D : Ends} {te : TE} {g : TG} {tb : TS} (good : Nat → Hp → Prop) (he : ∀ R : VK, (∀ n H0, good n H0 → R (.int (n : Nat)) H0) → te σ H R)
    (body : ∀ n H0, good n H0 → n < 1000000 ∧ ∃ Pv : Nat → L2.St → Hp → Prop, Pv 0 σ H0 ∧
      (∀ i σ H, i < n → Pv i σ H → g (.int (i : Nat)) σ H fun σ2 H2 => tb { D with nx := Pv (i + 1), ct := Pv (i + 1), bk := D.nx } σ2 H2) ∧ (∀ σ H, Pv n σ H → D.nx σ H)) : tFor (iRng1 (tCons te tNil)) g tb D σ H := by
  refine he _ fun n H0 hg => ?_
  obtain ⟨hn, Pv, h0, hs, hd⟩ := body n H0 hg
  have z := forR (σ := σ) (te := fun _ _ R => R (.int (n : Nat)) H0) (H := H) (D := D) (g := g) (tb := tb) (n := n) (H0 := H0) (fun _ z => z) hn Pv h0 hs hd
  exact z
theorem r_yes {σ : L2.St} {H : Hp} {A B : Hp → Prop} (h : A H) : tYes σ H (fun b H3 => if b = true then A H3 else B H3) := by
  show (if true = true then A H else B H)
  rw [if_pos rfl]
  exact h
def cMin : List V → Hp → VK → Prop := fun xs H Q => ∃ i j, xs = [.int i, .int j] ∧ Q (.int (if j < i then j else i)) H
theorem c_min {X : Cx} (hc : X.calm = true) : CallR X (.builtin "min") cMin := call_min2 hc
theorem r_cat {H : Hp} {Q : VK} {a b : Addr} {xs ys : List V} (h1 : H a = some (.lst xs)) (h2 : H b = some (.lst ys)) (hl : xs.length + ys.length ≤ 5000) (q : ∀ p H', (∀ b o, H b = some o → H' b = some o) → H p = none → H' p = some (.lst (xs ++ ys)) → Q (.ref p) H') : rCat (.ref a) (.ref b) H Q :=
  ⟨a, b, xs, ys, rfl, rfl, h1, h2, Nat.le_trans hl (by decide), fun p hp => q p _ (fun b o e => by rw [upd_ne (ne_of_none e hp)]; exact e) hp upd_same⟩
theorem at_prev {xs : List V} {j : Nat} (h : j < xs.length) : ∃ z, z ∈ xs ∧ atI xs ((j : Nat) - 1 : Int) = some z := by
  cases j with
  | zero =>
    refine ⟨xs[xs.length - 1]'(by omega), List.getElem_mem _, ?_⟩
    unfold atI ixN
    rw [if_neg (by omega), if_pos (by omega)]
    have e : ((((0 : Nat) : Int) - 1 + (xs.length : Nat)).toNat) = xs.length - 1 := by omega
    rw [e]
    show xs[xs.length - 1]? = _
    rw [List.getElem?_eq_getElem]
  | succ j =>
    refine ⟨xs[j]'(by omega), List.getElem_mem _, ?_⟩
    rw [show (((j + 1 : Nat) : Int) - 1) = ((j : Nat) : Int) from by omega]
    exact atI_nat (List.getElem?_eq_getElem _)
theorem cut_mem {xs : List V} {lo hi : Option Int} {z : V} (h : z ∈ cutV xs lo hi) : z ∈ xs := List.mem_of_mem_drop (List.mem_of_mem_take h)
theorem cut40 {H : Hp} {xs : List V} {cd : List PyData} (hxs : Ims H xs cd) : ∃ cd', Ims H (cutV xs none (some 40)) cd' ∧ cd'.length ≤ 40 ∧ ∀ d ∈ cd', d ∈ cd := by
  have e : cutV xs none (some 40) = xs.take 40 := by
    unfold cutV
    rw [HT.sIx_none, show (some (40 : Int)) = some ((40 : Nat) : Int) from rfl, HT.sIx_nat, List.drop_zero, Nat.sub_zero]
    by_cases h : 40 ≤ xs.length
    · rw [Nat.min_eq_left h]
    · rw [Nat.min_eq_right (by omega), List.take_of_length_le (Nat.le_refl _), List.take_of_length_le (by omega)]
  rw [e]
  exact ⟨cd.take 40, hxs.take 40, by rw [List.length_take]; omega, fun d hd => List.mem_of_mem_take hd⟩
def nameL : List Str := ["q", "a", "zz", "bb", "m", "c", "xyz", "d", "k", "h"]
/-- what _law_rules gives -/
def endR (G : List Addr) (L : List (Addr × Str)) (K : PySem.W.Frag) (r : Rid) (H : Hp) (Q : VK) : Prop := ∀ (p an cp : Addr) (c : Nat) (cd : List PyData) H', 1 ≤ c → c ≤ 9 → NT H' an ((nameL.take c).map V.str) → (∀ d ∈ cd, ClD (nameL.take c) d) → cd.length ≤ 40 → Im H' (.ref cp) (.tuple cd) → H' p = some (.tup [.ref an, .ref cp]) → GoR G L r.r H H' → Row K H' r → Q (.ref p) H'
def spRulesL (K : PySem.W.Frag) (G : List Addr) (L : List (Addr × Str)) : Sp := fun vs H Q _ => ∃ (r : Rid), vs = [.ref r.r, .int 9] ∧ Row K H r ∧ endR G L K r H Q
theorem scRulesL : FnScope ["_law_row", "_law_most", "_law_count", "_law_names", "_law_k", "_law_clauses", "_law_size", "_law_start", "_law_ring", "_law_order", "_law_j"] ["_law_row", "_law_most"] (defScope sRulesL) := C8.fnScope_by (by decide +kernel)
theorem ok_rulesL {f : Addr} {fd : FuncData} (F : Fun K "_law_rules" "_law_rules" sRulesL f fd) (zL : mg "len" = none) (zR : mg "range" = none) (zT : mg "tuple" = none) (zI : mg "int" = none) (zM : mg "min" = none) (TK : Fd CX0 P w K mg base "_law_taken" 1 (spTaken K G L)) (TC : Fd CX0 P w K mg base "_law_clause" 2 (spClause K G L)) (TO : Fd CX0 P w K mg base "_law_ordered" 2 (spOrdered K G L)) : FnOk P w K mg base CX0 3 f fd ["_law_row", "_law_most"] (spRulesL K G L) := by
  refine F.ok scRulesL (fun vs H Q E h => ?_) (fun cdv A outer s H vs Q E hr h => ?_)
  · obtain ⟨r, e, _⟩ := h
    rw [e]
    rfl
  · obtain ⟨r, e, hR, q⟩ := h
    subst e
    refine ⟨_, pss_cons (ps_set (i := 2) scRulesL.nd rfl (Or.inl rfl) (pe_op op_add pe_int (pe_fd (E := E0) TK hr pass0 (pa_cons (pv 0) (pa_cons (pv 1) pa_nil)))))
      (pss_cons (ps_set (i := 3) scRulesL.nd rfl (Or.inr rfl) (pe_callTy c_tup rfl zT (by decide +kernel) (pa_cons (pe_slice sl_list (pe_lst (pa_cons pe_str (pa_cons pe_str (pa_cons pe_str (pa_cons pe_str (pa_cons pe_str (pa_cons pe_str (pa_cons pe_str (pa_cons pe_str (pa_cons pe_str (pa_cons pe_str pa_nil))))))))))) po_none (po_some (pv 2))) pa_nil)))
      (pss_cons (ps_setLc (i := 5) (own := [("_law_k", 4)]) (g := gName 4) (tt := tYes) rfl scRulesL.nd rfl rfl (sw_true rfl rfl rfl rfl)
          (pi_range1 rfl zR (pa_cons (pe_op op_mul (pe_fd (E := E0) TK hr pass0 (pa_cons (pv 0) (pa_cons (pe_op op_add (pv 2) pe_int) pa_nil))) (pe_callTy c_int rfl zI boot_int (pa_cons (pe_cmpR op_gt (pe_fd (E := E0) TK hr pass0 (pa_cons (pv 0) (pa_cons pe_int pa_nil))) pe_int (nomark _)) pa_nil))) pa_nil))
          (blkOk_by (own := [("_law_k", 4)]) (N := ["_law_row", "_law_most", "_law_count", "_law_names", "_law_k", "_law_clauses", "_law_size", "_law_start", "_law_ring", "_law_order", "_law_j"]) (sc := defScope sRulesL) (by decide +kernel))
          (fun _ _ _ _ _ => pg_name (i := 4) scRulesL.nd rfl (.inl rfl)) (fun _ _ _ _ _ => pts_nil) (fun _ _ _ _ _ => pe_fd (E := E0) TC hr pass0 (pa_cons (pv 0) (pa_cons (pv 3) pa_nil))))
      (pss_cons (ps_if (pt_cmpR op_eq (pe_fd (E := E0) TK hr pass0 (pa_cons (pv 0) (pa_cons pe_int pa_nil))) pe_int (nomark _)) (pss_one (ps_ret (pe_tup (pa_cons (pv 3) (pa_cons (pe_fd (E := E0) TO hr pass0 (pa_cons (pv 0) (pa_cons (pv 3) pa_nil))) pa_nil))))) pss_nil)
      (pss_cons (ps_for PassesOwn.never rfl (pi_range1 rfl zR (pa_cons (pe_op op_mul (pe_fd (E := E0) TK hr pass0 (pa_cons (pv 0) (pa_cons pe_int pa_nil))) (pe_callTy c_int rfl zI boot_int (pa_cons (pe_cmpR op_gt (pv 2) pe_int (nomark _)) pa_nil))) pa_nil)) (pg_name (i := 4) scRulesL.nd rfl (.inl rfl))
        (pss_cons (ps_par (i := 6) (j := 7) rfl scRulesL.nd rfl rfl (by decide) rfl rfl (pa_cons (pe_op op_add pe_int (pe_fd (E := E0) TK hr pass0 (pa_cons (pv 0) (pa_cons pe_int pa_nil)))) (pa_cons (pe_fd (E := E0) TK hr pass0 (pa_cons (pv 0) (pa_cons (pv 2) pa_nil))) pa_nil)) rfl)
        (pss_cons (ps_set (i := 8) scRulesL.nd rfl (Or.inr rfl) (pe_slice sl_tupA (pe_op op_catA (pv 3) (pv 3)) (po_some (pv 7)) (po_some (pe_op op_add (pv 7) (pe_callB (c_min rfl) rfl zM boot_min (pa_cons (pv 6) (pa_cons (pv 2) pa_nil)))))))
        (pss_one (ps_set (i := 5) scRulesL.nd rfl (Or.inl rfl) (pe_op op_cat (pv 5) (pe_lc (own := [("_law_j", 10)]) (g := gName 10) (tt := tYes) rfl scRulesL.nd
          (pi_range1 rfl zR (pa_cons (pe_callB c_len rfl zL boot_len (pa_cons (pv 8) pa_nil)) pa_nil))
          (blkOk_by (own := [("_law_j", 10)]) (N := ["_law_row", "_law_most", "_law_count", "_law_names", "_law_k", "_law_clauses", "_law_size", "_law_start", "_law_ring", "_law_order", "_law_j"]) (sc := defScope sRulesL) (by decide +kernel))
          (fun _ _ _ _ _ => pg_name (i := 10) scRulesL.nd rfl (.inl rfl)) (fun _ _ _ _ _ => pts_nil)
          (fun _ _ _ _ _ => pe_tup (pa_cons pe_str (pa_cons (pe_ix (r := rIxT K) ix_tup (pv 8) (pe_op op_sub (pv 10) pe_int) (fun _ _ => rfl)) (pa_cons (pe_ix (r := rIxT K) ix_tup (pv 8) (pv 10) (fun _ _ => rfl)) pa_nil))))))))))
        )
      (pss_cons (ps_set (i := 9) scRulesL.nd rfl (Or.inl rfl) (pe_lst pa_nil))
      (pss_cons (ps_while PassesOwn.never (pt_cmpR (op_neD (u64 hr)) (pv 5) (pe_lst pa_nil) rfl)
        (pss_one (ps_expr (pe_bm PySem.F.plainAttrs_list PySem.F.slot_list_append PySem.F.type_list_append mt_append (pv 9)
          (pa_cons (pe_bm PySem.F.plainAttrs_list PySem.F.slot_list_pop PySem.F.type_list_pop mt_popAt (pv 5) (pa_cons (pe_fd (E := E0) TK hr pass0 (pa_cons (pv 0) (pa_cons (pe_callB c_len rfl zL boot_len (pa_cons (pv 5) pa_nil)) pa_nil))) pa_nil)) pa_nil)))))
      (pss_one (ps_ret (pe_tup (pa_cons (pv 3) (pa_cons (pe_callTy c_tup rfl zT (by decide +kernel) (pa_cons (pe_slice sl_list (pv 9) po_none (po_some pe_int)) pa_nil)) pa_nil))))))))))), ?_⟩
    repeat walk_at "rd"
    refine r_taken hR (by decide) (by decide) fun v1 H1 hv1 g1 hR1 => ?_
    repeat walk_at "rd"
    rw [show (1 : Int) + (v1 : Nat) = ((1 + v1 : Nat) : Int) from rfl]
    have hc1' : 1 ≤ 1 + v1 := by omega
    have hc9 : 1 + v1 ≤ 9 := by omega
    generalize 1 + v1 = c at hc1' hc9 ⊢
    refine ⟨(by show 10 ≤ sizeLine; decide), fun p2 hp2 => ?_⟩
    have gn2 : Go G L H1 (upd H1 p2 (.lst (nameL.map V.str))) := Go.new hp2
    have en2 : (upd H1 p2 (.lst (nameL.map V.str))) p2 = some (.lst (nameL.map V.str)) := upd_same
    have hR2 := hR1.go gn2
    have g2 := g1.trans gn2.toR
    have e0 : upd H1 p2 (.lst [V.str "q", V.str "a", V.str "zz", V.str "bb", V.str "m", V.str "c", V.str "xyz", V.str "d", V.str "k", V.str "h"]) = upd H1 p2 (.lst (nameL.map V.str)) := rfl
    rw [e0]
    generalize upd H1 p2 (.lst (nameL.map V.str)) = H2 at gn2 en2 hR2 g2 ⊢
    clear e0
    repeat walk_at "rd"
    refine r_slL en2 fun p3 H3 k3 e3 => ?_
    repeat walk_at "rd"
    refine r_tupL2 e3 fun an H4 k4 hn4 => ?_
    have ecut : cutV (nameL.map V.str) none (some ((c : Nat) : Int)) = (nameL.take c).map V.str := by
      rw [cut_to (by rw [List.length_map]; show c ≤ 10; omega), List.map_take]
    rw [ecut] at hn4
    have g34 : Go G L H2 H4 := (Go.same k3).trans (Go.same k4)
    have g4 := g2.trans g34.toR
    have hR4 := hR2.go g34
    clear e3 k3 k4 en2 hR2 ecut
    have hnl : (nameL.take c).length = c := by
      rw [List.length_take]
      show min c 10 = c
      omega
    have hne : nameL.take c ≠ [] := fun z => by
      rw [z] at hnl
      have z2 : 0 = c := hnl
      omega
    have hso : ∀ z ∈ nameL.take c, PyData.strOk z = true := fun z hz => by
      have key : ∀ z ∈ nameL, PyData.strOk z = true := by decide +kernel
      exact key z (List.mem_of_mem_take hz)
    have hmul : ∀ (v m : Nat) (b : Bool), (v : Int) < (m : Nat) → ∃ n : Nat, (v : Int) * (if b = true then 1 else 0) = (n : Nat) ∧ n ≤ m := fun v m b hv => by
      cases b
      · exact ⟨0, by simp, Nat.zero_le _⟩
      · exact ⟨v, by simp, by omega⟩
    refine r_seq (r_asg ?_)
    refine lcRg (fun n H0 => n ≤ 12 ∧ GoR G L r.r H H0 ∧ Row K H0 r ∧ NT H0 an ((nameL.take c).map V.str)) (fun R z => ?_) (fun n H0 ⟨hn, g5, hR5, hn5⟩ => ⟨by omega, fun D i H' => ∃ (xs : List V) (cd : List PyData), Nw H D ∧ GoR G L r.r H H' ∧ Row K H' r ∧ NT H' an ((nameL.take c).map V.str) ∧ H' D = some (.lst xs) ∧ Ims H' xs cd ∧ (∀ d ∈ cd, ClD (nameL.take c) d) ∧ xs.length ≤ i, ?_, ?_, ?_⟩)
    · repeat walk_at "rd"
      rw [show ((c : Nat) : Int) + 3 = ((c + 3 : Nat) : Int) from rfl]
      refine r_taken hR4 (by omega) (by omega) fun v5 H5 hv5 g5 hR5 => ?_
      repeat walk_at "rd"
      refine r_taken hR5 (by decide) (by decide) fun v6 H6 hv6 g6 hR6 => ?_
      repeat walk_at "rd"
      obtain ⟨n, e1, e2⟩ := hmul v5 (c + 3) (decide ((v6 : Int) > 0)) hv5
      refine r_I (.inr (by split <;> decide)) ?_
      rw [e1]
      exact z n H6 ⟨by omega, (g4.trans g5).trans g6, hR6, (hn4.kt (hR4.kt g5)).kt (hR5.kt g6)⟩
    · intro D hD
      have nD : D ≠ r.r := by
        obtain ⟨zs, z⟩ := hR5.lst
        exact (ne_of_none z hD).symm
      have gN : Go G L H0 (upd H0 D (.lst [])) := Go.new hD
      exact ⟨[], [], (Nw.of hD).back g5 nD, g5.trans gN.toR, hR5.go gN, hn5.kt gN.kt, upd_same, .nil, fun d hd => absurd hd (by simp), Nat.zero_le _⟩
    · rintro D i H6 hD hi ⟨xs, cd, nw, g6, hR6, hn6, eD, hxs, hcd, hlx⟩
      have nD : D ≠ r.r := by
        obtain ⟨zs, z⟩ := hR5.lst
        exact (ne_of_none z hD).symm
      refine r_gN ⟨rfl, r_yes ?_⟩
      refine r_call (r_cons (r_var (v := .ref r.r) rfl (r_cons (r_var (v := .ref an) rfl (r_nil ?_)))))
      refine ⟨r, an, nameL.take c, rfl, hR6, hn6.tp, hne, by omega, fun v d H7 hcl him g7 hR7 => ?_⟩
      have eD7 := g7.lst nD eD
      have g67 := g6.trans g7
      have kt7 := hR6.kt g7
      have g8 : GoR G L r.r H (upd H7 D (.lst (xs ++ [v]))) := g67.updNw nw eD7
      have kt8 : KT H7 (upd H7 D (.lst (xs ++ [v]))) := (GoR.upd (G := G) (L := L) eD7).kt eD7
      refine ⟨xs, eD7, Nat.lt_of_le_of_lt (show xs.length ≤ 12 by omega) (by decide), xs ++ [v], cd ++ [d], nw, g8, hR.re hR7 g8.1 (by rw [upd_ne nD.symm]), (hn6.kt kt7).kt kt8, upd_same, ((hxs.kt kt7).app (.cons him .nil)).kt kt8, fun d' hd' => ?_, ?_⟩
      · rcases List.mem_append.mp hd' with z | z
        · exact hcd d' z
        · rw [List.mem_singleton.mp z]
          exact hcl
      · rw [List.length_append]
        show xs.length + 1 ≤ i + 1
        omega
    · rintro D H6 hD ⟨xs, cd, nw, g6, hR6, hn6, eD, hxs, hcd, hlx⟩
      have nD : D ≠ r.r := by
        obtain ⟨zs, z⟩ := hR5.lst
        exact (ne_of_none z hD).symm
      refine r_gN ?_
      dsimp only
      repeat walk_at "rd"
      refine r_taken hR6 (by decide) (by decide) fun v7 H7 hv7 g7 hR7 => ?_
      have eD7 := g7.lst nD eD
      have g67 := g6.trans g7
      have kt7 := hR6.kt g7
      have hn7 := hn6.kt kt7
      have hxs7 := hxs.kt kt7
      repeat walk_at "rd"
      refine r_eq rfl ?_
      repeat walk_at "rd"
      refine r_if (fun cc => ?_) (fun cc => ?_)
      · repeat walk_at "rd"
        refine ⟨r, an, nameL.take c, rfl, hR7, hn7.tp, by omega, hso, fun cp cd' H8 h1 h2 h3 g8 hR8 => ?_⟩
        repeat walk_at "rd"
        refine ⟨(by show 2 ≤ sizeLine; decide), fun p hp => ?_⟩
        have g9 : Go G L H8 (upd H8 p (.tup [.ref an, .ref cp])) := Go.new hp
        have kt8 := hR7.kt g8
        exact q p an cp c cd' _ hc1' hc9 ((hn7.kt kt8).kt g9.kt) h1 h2 (h3.kt g9.kt) upd_same ((g67.trans g8).trans g9.toR) (hR8.go g9)
      · repeat walk_at "rd"
        refine forRg (fun n H0 => n ≤ 5 ∧ GoR G L r.r H H0 ∧ Row K H0 r ∧ NT H0 an ((nameL.take c).map V.str) ∧ H0 D = some (.lst xs) ∧ Ims H0 xs cd) (fun R z => ?_) (fun n H0 ⟨hn, g8, hR8, hn8, eD8, hxs8⟩ => ⟨by omega, fun i σ H' => ∃ (x4 x6 x7 x8 : Option V) (lc : Addr) (xs : List V) (cd : List PyData), σ = [some (.ref r.r), some (.int 9), some (.int (c : Nat)), some (.ref an), x4, some (.ref lc), x6, x7, x8, none, none] ∧ Nw H lc ∧ lc ≠ r.r ∧ GoR G L r.r H H' ∧ Row K H' r ∧ NT H' an ((nameL.take c).map V.str) ∧ H' lc = some (.lst xs) ∧ Ims H' xs cd ∧ (∀ d ∈ cd, ClD (nameL.take c) d) ∧ xs.length ≤ 12 + 18 * i, ?_, ?_, ?_⟩)
        · repeat walk_at "rd"
          refine r_taken hR7 (by decide) (by decide) fun v8 H8 hv8 g8 hR8 => ?_
          repeat walk_at "rd"
          obtain ⟨n, e1, e2⟩ := hmul v8 5 (decide ((c : Int) > 1)) hv8
          refine r_I (.inr (by split <;> decide)) ?_
          rw [e1]
          have kt8 := hR7.kt g8
          exact z n H8 ⟨by omega, g67.trans g8, hR8, hn7.kt kt8, g8.lst nD eD7, hxs7.kt kt8⟩
        · exact ⟨none, none, none, none, D, xs, cd, rfl, nw, nD, g8, hR8, hn8, eD8, hxs8, hcd, by omega⟩
        · rintro i σ H9 hi ⟨x4, x6, x7, x8, lc, xs, cd, rfl, nwl, nlr, g9, hR9, hn9, e9, hxs9, hcd9, hlx9⟩
          refine r_gN ?_
          dsimp only
          refine r_seq (r_par ?_)
          repeat walk_at "rd"
          refine r_taken hR9 (by decide) (by decide) fun va Ha hva ga hRa => ?_
          repeat walk_at "rd"
          refine r_taken hRa (by omega) (by omega) fun vb Hb hvb gb hRb => ?_
          repeat walk_at "rd"
          refine r_two ?_
          have gab := (g9.trans ga).trans gb
          have ktb := (hR9.kt ga).trans (hRa.kt gb)
          have hnb := hn9.kt ktb
          have eb := gb.lst nlr (ga.lst nlr e9)
          have hxsb := hxs9.kt ktb
          repeat walk_at "rd"
          have hl20 : ((nameL.take c).map V.str).length ≤ 9 := by rw [List.length_map]; omega
          refine r_catT hnb.tp hnb.tp (Nat.le_trans (Nat.add_le_add hl20 hl20) (by decide)) fun p1 Hc kc hp1 => ?_
          repeat walk_at "rd"
          refine ⟨_, _, rfl, ?_⟩
          repeat walk_at "rd"
          refine r_slT hp1 fun ra Hd kd hra => ?_
          have gcd : Go G L Hb Hd := (Go.same kc).trans (Go.same kd)
          have hmem : ∀ z ∈ cutV ((nameL.take c).map V.str ++ (nameL.take c).map V.str) (some (vb : Nat)) (some ((vb : Nat) + if ((c : Nat) : Int) < 2 + (va : Nat) then ((c : Nat) : Int) else 2 + (va : Nat))), ∃ s, s ∈ nameL.take c ∧ z = .str s := fun z hz => by
            have hz2 := cut_mem hz
            have hz3 : z ∈ (nameL.take c).map V.str := by
              rcases List.mem_append.mp hz2 with h | h <;> exact h
            obtain ⟨s, h1, h2⟩ := List.mem_map.mp hz3
            exact ⟨s, h1, h2.symm⟩
          have hlen : (cutV ((nameL.take c).map V.str ++ (nameL.take c).map V.str) (some (vb : Nat)) (some ((vb : Nat) + if ((c : Nat) : Int) < 2 + (va : Nat) then ((c : Nat) : Int) else 2 + (va : Nat)))).length ≤ 18 := by
            refine Nat.le_trans (cutV_length _ _ _) ?_
            rw [List.length_append]
            omega
          generalize cutV ((nameL.take c).map V.str ++ (nameL.take c).map V.str) (some (vb : Nat)) (some ((vb : Nat) + if ((c : Nat) : Int) < 2 + (va : Nat) then ((c : Nat) : Int) else 2 + (va : Nat))) = ring at hra hmem hlen
          have gd := gab.trans gcd.toR
          have hRd := hRb.go gcd
          have hnd := hnb.kt gcd.kt
          have ed := gcd.lst eb
          have hxsd := hxsb.kt gcd.kt
          repeat walk_at "rd"
          refine lcR (n := ring.length) (H0 := Hd) (fun R z => r_cb (r_cons (r_var (v := .ref ra) rfl (r_nil (r_lenT hra.seq z))))) (by omega) (fun D j H' => ∃ (ys : List V) (ce : List PyData), Go G L Hd H' ∧ H' D = some (.lst ys) ∧ Ims H' ys ce ∧ (∀ d ∈ ce, ClD (nameL.take c) d) ∧ ys.length ≤ j) ?_ ?_ ?_
          · intro D hD
            exact ⟨[], [], Go.new hD, upd_same, .nil, fun d hd => absurd hd (by simp), Nat.zero_le _⟩
          · rintro D j He hD hj ⟨ys, ce, ge, ee, hys, hce, hly⟩
            refine r_gN ⟨rfl, r_yes ?_⟩
            obtain ⟨z1, m1, a1⟩ := at_prev hj
            obtain ⟨s1, n1, rfl⟩ := hmem z1 m1
            obtain ⟨s2, n2, es2⟩ := hmem ring[j] (List.getElem_mem hj)
            have a2 : atI ring (j : Nat) = some (.str s2) := atI_nat (by rw [List.getElem?_eq_getElem hj, es2])
            have hre := hra.kt ge.kt
            refine r_tup (r_cons (r_c (r_cons (r_op (r_var (v := .ref ra) rfl (r_op (r_var (v := .int (j : Nat)) rfl (r_c (r_I0 (r_ixT hre.seq a1 ?_))))))))))
            refine r_cons (r_op (r_var (v := .ref ra) rfl (r_var (v := .int (j : Nat)) rfl (r_ixT hre.seq a2 (r_nil ⟨(by show 3 ≤ sizeLine; decide), fun p hp => ?_⟩)))))
            have gf : Go G L Hd (upd He p (.tup [.str "needs", .str s1, .str s2])) := ge.trans (Go.new hp)
            have gf1 : Go G L He (upd He p (.tup [.str "needs", .str s1, .str s2])) := Go.new hp
            have ef := gf1.lst ee
            have hpf : (upd He p (.tup [.str "needs", .str s1, .str s2])) p = some (.tup [.str "needs", .str s1, .str s2]) := upd_same
            have hysf := hys.kt gf1.kt
            generalize upd He p (.tup [.str "needs", .str s1, .str s2]) = Hf at gf ef hpf hysf
            have ktg : KT Hf (upd Hf D (.lst (ys ++ [.ref p]))) := (GoR.upd (G := G) (L := L) ef).kt ef
            refine ⟨ys, ef, Nat.lt_of_le_of_lt (show ys.length ≤ 18 by omega) (by decide), ys ++ [.ref p], ce ++ [.tuple [.str "needs", .str s1, .str s2]], gf.updNew hD ef, upd_same, (hysf.app (.cons (.tup (.inl hpf) (.cons (.str _) (.cons (.str _) (.cons (.str _) .nil)))) .nil)).kt ktg, fun d hd => ?_, ?_⟩
            · rcases List.mem_append.mp hd with z | z
              · exact hce d z
              · rw [List.mem_singleton.mp z]
                exact ⟨_, _, _, rfl, .inl rfl, n1, n2⟩
            · rw [List.length_append]
              show ys.length + 1 ≤ j + 1
              omega
          · rintro D He hD ⟨ys, ce, ge, ee, hys, hce, hly⟩
            refine r_cat (ge.lst ed) ee (by omega) fun p Hf kf np ef => ?_
            have gef : Go G L Hd Hf := ge.trans (Go.same kf)
            have gf := gd.trans gef.toR
            have npr : p ≠ r.r := by
              obtain ⟨zs, z⟩ := (hRd.go ge).lst
              exact (ne_of_none z np).symm
            have nwp : Nw H p := (Nw.of np).back (gd.trans ge.toR) npr
            repeat walk_at "rd"
            refine ⟨_, _, _, _, p, _, cd ++ ce, rfl, nwp, npr, gf, hRd.go gef, hnd.kt gef.kt, ef, (hxsd.kt gef.kt).app (hys.kt (kt_of (Go.same (G := G) (L := L) kf).1)), fun d hd => ?_, ?_⟩
            · rcases List.mem_append.mp hd with z | z
              · exact hcd9 d z
              · exact hce d z
            · rw [List.length_append]
              omega
        · rintro σ H9 ⟨x4, x6, x7, x8, lc, xs, cd, rfl, nwl, nlr, g9, hR9, hn9, e9, hxs9, hcd9, hlx9⟩
          repeat walk_at "rd"
          refine ⟨Nat.zero_le _, fun p hp => ?_⟩
          have npr : p ≠ r.r := by
            obtain ⟨zs, z⟩ := hR9.lst
            exact (ne_of_none z hp).symm
          have nwp : Nw H p := (Nw.of hp).back g9 npr
          have nlp : lc ≠ p := ne_of_none e9 hp
          have ga : Go G L H9 (upd H9 p (.lst [])) := Go.new hp
          have ea : (upd H9 p (.lst [])) p = some (.lst []) := upd_same
          have e9a := ga.lst e9
          have hRa := hR9.go ga
          have hna := hn9.kt ga.kt
          have hxsa := hxs9.kt ga.kt
          have g9a := g9.trans ga.toR
          generalize upd H9 p (.lst []) = Ha at ga ea e9a hRa hna hxsa g9a ⊢
          repeat walk_at "rd"
          have hlv : ∀ d ∈ cd, lv 7 d = true := fun d hd => by
            obtain ⟨w', a', b', rfl, hw', ha', hb'⟩ := hcd9 d hd
            refine lv_tup fun x hx => ?_
            have hx' : x = .str w' ∨ x = .str a' ∨ x = .str b' := by simpa using hx
            rcases hx' with rfl | rfl | rfl
            · exact word_ok hw'
            · exact hso _ ha'
            · exact hso _ hb'
          refine r_shuf (K := K) (G := G) (L := L) (r := r) (H0 := H) (p := lc) (o := p) rfl rfl rfl hRa hR e9a ea nlp nwl nwp g9a hxsa (by omega) hlv fun Hb ys es gb hRb eb him hlen hmem kp ktb => ?_
          have hnb : NT Hb an ((nameL.take c).map V.str) := hna.kt ktb
          repeat walk_at "rd"
          refine r_slL eb fun p1 Hc kc ec => ?_
          repeat walk_at "rd"
          refine r_tupL2 ec fun cp Hd kd ed => ?_
          have gcd : Go G L Hb Hd := (Go.same kc).trans (Go.same kd)
          obtain ⟨cd', hc1, hc2, hc3⟩ := cut40 him
          repeat walk_at "rd"
          refine ⟨(by show 2 ≤ sizeLine; decide), fun pe hpe => ?_⟩
          have ge : Go G L Hd (upd Hd pe (.tup [.ref an, .ref cp])) := Go.new hpe
          exact q pe an cp c cd' _ hc1' hc9 (hnb.kt (gcd.trans ge).kt) (fun d hd => hcd9 d (hmem d (hc3 d hd))) hc2 (.tup (ed.tp.kt ge.kt) (hc1.kt (gcd.trans ge).kt)) upd_same (gb.trans (gcd.trans ge).toR) ((hRb.go gcd).go ge)
end
/-! _law_alike -/
section
variable {P : Program} {w : World} {K : PySem.W.Frag} {mg : Str → Option Value} {base : Heap} {G : List Addr} {L : List (Addr × Str)}
def isSeq (n : String) : Bool := n == "tuple" || n == "list"
theorem r_isiT {H : Hp} {Q : VK} {v : V} {n : String} {tp : Addr} (h : Kd K H v n) (ht : H tp = some (.tup [.ty "tuple", .ty "list"])) (q : Q (.bl (isSeq n)) H) : rIsiT K [v, .ref tp] H Q := by
  refine ⟨v, tp, _, .type n, [.type "tuple", .type "list"], isSeq n, rfl, ht, .cons (.ty _) (.cons (.ty _) .nil), h.2, ?_, q⟩
  have key : ∀ n ∈ ["NoneType", "bool", "int", "str", "tuple", "list"], isSeq n = ((n == "tuple" || (n == "bool" && "tuple" == "int")) || (n == "list" || (n == "bool" && "list" == "int"))) := by decide +kernel
  refine kitAny_cons (kit_ty (kit_in h.1 (m := "tuple") (by decide))) (fun e => kitAny_cons (kit_ty (kit_in h.1 (m := "list") (by decide))) (fun e2 => ?_) fun e2 => ?_) fun e => ?_
  · rw [kitAny_nil, key n h.1, e, e2]
    rfl
  · rw [key n h.1, e, e2]
    rfl
  · rw [key n h.1, e]
    rfl
/-- of lengths up to 100, to the depth n -/
def ln : Nat → PyData → Bool
  | n + 1, .tuple ds => decide (ds.length ≤ 100) && ds.all (ln n)
  | n + 1, .list ds => decide (ds.length ≤ 100) && ds.all (ln n)
  | _, .dict _ => false
  | 0, .tuple _ => false
  | 0, .list _ => false
  | _, .str z => PyData.strOk z
  | _, .none => true
  | _, .bool _ => true
  | _, .int _ => true
theorem ln_lv : ∀ (n : Nat) (d : PyData), ln n d = true → lv n d = true
  | n, .none, _ => by simp [lv]
  | n, .bool _, _ => by simp [lv]
  | n, .int _, _ => by simp [lv]
  | n, .str z, h => by cases n <;> simpa [lv, ln] using h
  | n + 1, .tuple ds, h => by
    have h' : ds.length ≤ 100 ∧ ∀ d ∈ ds, ln n d = true := by simpa [ln] using h
    exact lv_tup fun d hd => ln_lv n d (h'.2 d hd)
  | n + 1, .list ds, h => by
    have h' : ds.length ≤ 100 ∧ ∀ d ∈ ds, ln n d = true := by simpa [ln] using h
    exact lv_lst fun d hd => ln_lv n d (h'.2 d hd)
  | 0, .tuple ds, h => by simp [ln] at h
  | 0, .list ds, h => by simp [ln] at h
  | 0, .dict ds, h => by simp [ln] at h
  | n + 1, .dict ds, h => by simp [ln] at h
theorem ln_seq {n : Nat} {d : PyData} (h : ln n d = true) (hs : isSeq (tyOf d) = true) : ∃ m ds, n = m + 1 ∧ (d = .tuple ds ∨ d = .list ds) ∧ ds.length ≤ 100 ∧ ∀ d ∈ ds, ln m d = true := by
  cases n with
  | zero => cases d <;> first | (simp [ln] at h; done) | (simp [isSeq, tyOf] at hs; done)
  | succ m =>
    cases d with
    | tuple ds =>
      have h' : ds.length ≤ 100 ∧ ∀ d ∈ ds, ln m d = true := by simpa [ln] using h
      exact ⟨m, ds, rfl, .inl rfl, h'.1, h'.2⟩
    | list ds =>
      have h' : ds.length ≤ 100 ∧ ∀ d ∈ ds, ln m d = true := by simpa [ln] using h
      exact ⟨m, ds, rfl, .inr rfl, h'.1, h'.2⟩
    | _ => simp [isSeq, tyOf] at hs
/-- two alike pieces of data, at most n - 1 deep -/
def spAlike (K : PySem.W.Frag) (G : List Addr) (L : List (Addr × Str)) (n : Nat) : Sp := fun vs H Q _ => ∃ x y d m, n = m + 1 ∧ vs = [x, y] ∧ Dp K H x d ∧ Dp K H y d ∧ ln m d = true ∧ m ≤ 7 ∧ ∀ H', Go G L H H' → Q (.bl true) H'
theorem dp_seq {H : Hp} {v : V} {d : PyData} {ds : List PyData} (h : Dp K H v d) (e : d = .tuple ds ∨ d = .list ds) : ∃ p xs, v = .ref p ∧ (SqL K H p xs ∨ SqT K H p xs) ∧ DpAll K H xs ds := by
  rcases e with rfl | rfl
  · cases h with
    | tup h1 h2 => exact ⟨_, _, rfl, .inr h1, h2⟩
  · cases h with
    | lst h1 h2 => exact ⟨_, _, rfl, .inl h1, h2⟩
theorem sq_go {H H' : Hp} {p : Addr} {xs : List V} (h : SqL K H p xs ∨ SqT K H p xs) (e : LamX.ExtN H H') : SqL K H' p xs ∨ SqT K H' p xs := by
  rcases h with h | h
  · refine .inl ?_
    rcases h with (h | ⟨o, h⟩) | h
    · exact .inl (.inl (e _ _ h fun _ z => by cases z))
    · exact .inl (.inr ⟨o, e _ _ h fun _ z => by cases z⟩)
    · exact .inr h
  · exact .inr (sqT_go h e)
theorem scAlike : FnScope ["_law_one", "_law_due", "_law_k"] ["_law_one", "_law_due"] (defScope sAlike) := C8.fnScope_by (by decide +kernel)
theorem ok_alike {f : Addr} {fd : FuncData} (F : Fun K "_law_alike" "_law_alike" sAlike f fd) (hm : mg "_law_alike" = some (.ref f)) (b : Binds K fd ["_law_one", "_law_due"] []) (zI : mg "isinstance" = none) (zT : mg "tuple" = none) (zl : mg "list" = none) (zL : mg "len" = none) (zR : mg "range" = none) (zB : mg "bool" = none) : ∀ n : Nat, FnOk P w K mg base CX0 (n + 1) f fd ["_law_one", "_law_due"] (spAlike K G L n) := by
  intro n
  induction n with
  | zero =>
    refine F.ok (k := 0) scAlike (fun vs H Q E h => ?_) (fun cdv A outer s H vs Q E hr h => ?_)
    · obtain ⟨x, y, d, m, e, _⟩ := h
      cases e
    · obtain ⟨x, y, d, m, e, _⟩ := h
      cases e
  | succ n ih =>
    have C : Fd CX0 P w K mg base "_law_alike" (n + 1) (spAlike K G L n) := .mk' F hm b ih
    refine F.ok (k := n + 1) scAlike (fun vs H Q E h => ?_) (fun cdv A outer s H vs Q E hr h => ?_)
    · obtain ⟨x, y, d, m, _, e, _⟩ := h
      rw [e]
      rfl
    · obtain ⟨x, y, d, m, en, e, hx, hy, hl, hm7, q⟩ := h
      cases en
      subst e
      refine ⟨_, pss_cons (ps_if (PW.pt (pw_and (pt_val (pe_callB call_isiT rfl zI boot_isinstance (pa_cons (pv 0) (pa_cons (pe_tup (pa_cons (pe_bltn (v := .ty "tuple") rfl zT (by decide +kernel) rfl) (pa_cons (pe_bltn (v := .ty "list") rfl zl (by decide +kernel) rfl) pa_nil))) pa_nil))))
          (pw_and1 (pt_val (pe_callB call_isiT rfl zI boot_isinstance (pa_cons (pv 1) (pa_cons (pe_tup (pa_cons (pe_bltn (v := .ty "tuple") rfl zT (by decide +kernel) rfl) (pa_cons (pe_bltn (v := .ty "list") rfl zl (by decide +kernel) rfl) pa_nil))) pa_nil)))))))
          (pss_cons (ps_if (PW.pt (pw_or (pt_cmpR op_ne (pe_callB call_isi rfl zI boot_isinstance (pa_cons (pv 0) (pa_cons (pe_bltn (v := .ty "tuple") rfl zT (by decide +kernel) rfl) pa_nil))) (pe_callB call_isi rfl zI boot_isinstance (pa_cons (pv 1) (pa_cons (pe_bltn (v := .ty "tuple") rfl zT (by decide +kernel) rfl) pa_nil))) (nomark _))
              (pw_or1 (pt_cmpR op_ne (pe_callB c_len rfl zL boot_len (pa_cons (pv 0) pa_nil)) (pe_callB c_len rfl zL boot_len (pa_cons (pv 1) pa_nil)) (nomark _)))))
            (pss_one (ps_ret pe_bl)) pss_nil)
          (pss_one (ps_ret (pe_cmpR (op_eqD (u64 hr)) (pe_lc (own := [("_law_k", 2)]) (g := gName 2) rfl scAlike.nd (pi_range1 rfl zR (pa_cons (pe_callB c_len rfl zL boot_len (pa_cons (pv 0) pa_nil)) pa_nil))
              (blkOk_by (own := [("_law_k", 2)]) (N := ["_law_one", "_law_due", "_law_k"]) (sc := defScope sAlike) (by decide +kernel))
              (fun _ _ _ _ _ => pg_name (i := 2) scAlike.nd rfl (.inl rfl))
              (fun _ _ _ _ _ => pts_one (pt_not (pt_val (pe_fd (E := E0) C hr pass0 (pa_cons (pe_ix (r := rIx K) ix_seq (pv 0) (pv 2) (fun _ _ => rfl)) (pa_cons (pe_ix (r := rIx K) ix_seq (pv 1) (pv 2) (fun _ _ => rfl)) pa_nil)) (Nat.le_refl _)))))
              (fun _ _ _ _ _ => pv 2)) (pe_lst pa_nil) rfl)))) pss_nil)
        (pss_one (ps_ret (pe_and (pe_cmpR (op_eqD (u64 hr)) (pv 0) (pv 1) rfl) (pe_one (pe_cmpR op_eq (pe_callB call_isi rfl zI boot_isinstance (pa_cons (pv 0) (pa_cons (pe_bltn (v := .ty "bool") rfl zB (by decide +kernel) rfl) pa_nil))) (pe_callB call_isi rfl zI boot_isinstance (pa_cons (pv 1) (pa_cons (pe_bltn (v := .ty "bool") rfl zB (by decide +kernel) rfl) pa_nil))) (nomark _)))))), ?_⟩
      repeat walk_at "rd"
      refine ⟨(by show 2 ≤ sizeLine; decide), fun p1 hp1 => ?_⟩
      have g1 : Go G L H (upd H p1 (.tup [.ty "tuple", .ty "list"])) := Go.new hp1
      have e1 : (upd H p1 (.tup [.ty "tuple", .ty "list"])) p1 = some (.tup [.ty "tuple", .ty "list"]) := upd_same
      generalize upd H p1 (.tup [.ty "tuple", .ty "list"]) = H1 at g1 e1 ⊢
      have hx1 := Dp.go g1.1 hx
      have hy1 := Dp.go g1.1 hy
      repeat walk_at "rd"
      refine r_isiT (Dp.kd hx1) e1 ?_
      repeat walk_at "rd"
      refine r_if (fun c => ?_) (fun c => ?_)
      · repeat walk_at "rd"
        refine ⟨(by show 2 ≤ sizeLine; decide), fun p2 hp2 => ?_⟩
        have g2 : Go G L H1 (upd H1 p2 (.tup [.ty "tuple", .ty "list"])) := Go.new hp2
        have e2 : (upd H1 p2 (.tup [.ty "tuple", .ty "list"])) p2 = some (.tup [.ty "tuple", .ty "list"]) := upd_same
        generalize upd H1 p2 (.tup [.ty "tuple", .ty "list"]) = H2 at g2 e2 ⊢
        have hx2 := Dp.go g2.1 hx1
        have hy2 := Dp.go g2.1 hy1
        have g12 := g1.trans g2
        clear hx hy hx1 hy1 e1
        repeat walk_at "rd"
        refine r_isiT (Dp.kd hy2) e2 ?_
        rw [c]
        repeat walk_at "rd"
        refine r_isi (m := "tuple") (Dp.kd hx2) (by decide) ?_
        repeat walk_at "rd"
        refine r_isi (m := "tuple") (Dp.kd hy2) (by decide) ?_
        repeat walk_at "rd"
        refine r_ne rfl ?_
        rw [decide_eq_true rfl]
        repeat walk_at "rd"
        obtain ⟨m', ds, rfl, hd, hlen, hall⟩ := ln_seq hl c
        obtain ⟨px, xs, rfl, sx, dx⟩ := dp_seq hx2 hd
        obtain ⟨py, ys, rfl, sy, dy⟩ := dp_seq hy2 hd
        have hlx := Dps.length dx
        have hly := Dps.length dy
        refine ⟨px, xs, rfl, sx, ?_⟩
        repeat walk_at "rd"
        refine ⟨py, ys, rfl, sy, ?_⟩
        repeat walk_at "rd"
        refine r_ne rfl ?_
        rw [decide_eq_true (by rw [hlx, hly])]
        repeat walk_at "rd"
        refine lcR (n := xs.length) (H0 := H2) (fun R z => r_cb (r_cons (r_var (v := .ref px) rfl (r_nil ⟨px, xs, rfl, sx, z⟩)))) (by omega) (fun D j H' => Go G L H2 H' ∧ H' D = some (.lst [])) ?_ ?_ ?_
        · intro D hD
          exact ⟨Go.new hD, upd_same⟩
        · rintro D j H3 hD hj ⟨g3, e3⟩
          refine r_gN ⟨rfl, ?_⟩
          have hix : ∀ (p : Addr) (zs : List V) (z : V) (R : VK), (SqL K H3 p zs ∨ SqT K H3 p zs) → zs[j]? = some z → R z H3 → rIx K (.ref p) (.int (j : Nat)) H3 R := fun p zs z R hs hz hq => by
            rcases hs with h | h
            · exact .inl (r_ixL h (atI_nat hz) hq)
            · exact .inr (.inl (r_ixT h (atI_nat hz) hq))
          have hjd : j < ds.length := by omega
          obtain ⟨d1, h1, h2⟩ := Dps.get dx (List.getElem?_eq_getElem hj)
          have hjy : j < ys.length := by omega
          obtain ⟨d2, h3, h4⟩ := Dps.get dy (List.getElem?_eq_getElem hjy)
          have e12 : d2 = d1 := Option.some.inj (h3.symm.trans h1)
          subst e12
          repeat walk_at "rd"
          refine hix px xs xs[j] _ (sq_go sx g3.1) (List.getElem?_eq_getElem hj) ?_
          repeat walk_at "rd"
          refine hix py ys ys[j] _ (sq_go sy g3.1) (List.getElem?_eq_getElem hjy) ?_
          repeat walk_at "rd"
          refine ⟨_, _, d2, m', rfl, rfl, Dp.go g3.1 h2, Dp.go g3.1 h4, hall d2 (List.mem_of_getElem? h1), by omega, fun H4 g4 => ?_⟩
          repeat walk_at "rd"
          exact ⟨g3.trans g4, g4.lst e3⟩
        · rintro D H3 hD ⟨g3, e3⟩
          repeat walk_at "rd"
          refine ⟨Nat.zero_le _, fun p4 hp4 => ?_⟩
          have g4 : Go G L H3 (upd H3 p4 (.lst [])) := Go.new hp4
          refine r_eqD (.lst (.of (g4.lst e3)) .nil) (.lst (.of upd_same) .nil) (by decide) (by decide) ?_
          have z := q _ ((g12.trans g3).trans g4)
          exact z
      · have nd : isSeq (tyOf d) = false := c
        repeat walk_at "rd"
        refine r_eqD hx1 hy1 (lv_up (ln_lv _ _ hl) (by omega)) (lv_up (ln_lv _ _ hl) (by omega)) ?_
        rw [PySem.SeqAt.eqv_refl d (lv_ok _ _ (ln_lv _ _ hl)).1]
        repeat walk_at "rd"
        refine r_isi (m := "bool") (Dp.kd hx1) (by decide) ?_
        repeat walk_at "rd"
        refine r_isi (m := "bool") (Dp.kd hy1) (by decide) ?_
        repeat walk_at "rd"
        refine r_eq rfl ?_
        rw [decide_eq_true rfl]
        exact q _ g1
end
/-! _law_raised -/
def kindsN : List Str := ["InvalidState", "IllegalState", "InvalidRules", "IllegalStep", "UnknownSwitch", "NoWay", "InvalidClause", "UnknownClause", "Impossible"]
def fourN : List Str := ["InvalidState", "InvalidRules", "InvalidClause", "UnknownClause"]
theorem four_kinds : ∀ x ∈ fourN, x ∈ kindsN := by decide +kernel
structure Rz (K : PySem.W.Frag) (mg : Str → Option Value) : Prop where
  zI : mg "isinstance" = none
  zV : mg "ValueError" = none
  gS : mg "StepError" = some (.ref (He.ga K "StepError"))
  gC : ∀ x ∈ kindsN, mg x = some (.ref (He.ga K x))
  ec : ∀ x ∈ fourN, ExcC K (He.ga K x)
  xm : ∀ x ∈ fourN, PySem.W.exmOne K (.ref (He.ga K x)) (.ref (He.ga K "StepError")) = some true
  kv : ∀ x ∈ fourN, PySem.W.kitOne K (.ref (He.ga K x)) (.type "ValueError") = some true
  kt : ∀ x ∈ fourN, ∀ y ∈ kindsN, PySem.W.kitOne K (.ref (He.ga K x)) (.ref (He.ga K y)) = some (decide (x = y))
  xR : XfC K (He.ga K "InvalidRules")
  xS : XfC K (He.ga K "InvalidState")
  n1 : PySem.W.findIn K (.ref (He.ga K "InvalidRules")) "part" = some none
  n2 : PySem.W.findIn K (.ref (He.ga K "InvalidRules")) "index" = some none
  n3 : PySem.W.findIn K (.ref (He.ga K "InvalidState")) "index" = some none
section
variable {K : PySem.W.Frag} {G : List Addr} {L : List (Addr × Str)}
theorem told_is {cls : Value} {d : Option Addr} {H : Hp} {D : PyData} (h : Told K cls d H D) : ∃ x, x ∈ fourN ∧ cls = .ref (He.ga K x) ∧ (d = none ∨ ∃ dd fs, d = some dd ∧ H dd = some (.xd fs)) := by
  rcases h with ⟨a, p, i, e1, e2, e3, _⟩ | ⟨a, i, e1, e2, e3, _⟩ | ⟨e1, e2, _⟩ | ⟨e1, e2, _⟩
  · exact ⟨"InvalidRules", by decide, e1, .inr ⟨a, _, e2, e3⟩⟩
  · exact ⟨"InvalidState", by decide, e1, .inr ⟨a, _, e2, e3⟩⟩
  · exact ⟨"InvalidClause", by decide, e1, .inl e2⟩
  · exact ⟨"UnknownClause", by decide, e1, .inl e2⟩
theorem Told.kt {cls : Value} {d : Option Addr} {H H' : Hp} {D : PyData} (h : Told K cls d H D) (k : KT H H') : Told K cls d H' D := by
  rcases h with ⟨a, p, i, e1, e2, e3, e4⟩ | ⟨a, i, e1, e2, e3, e4⟩ | ⟨e1, e2, e3⟩ | ⟨e1, e2, e3⟩
  · exact .inl ⟨a, p, i, e1, e2, k a _ (fun _ z => by cases z) (fun _ z => by cases z) e3, e4⟩
  · exact .inr (.inl ⟨a, i, e1, e2, k a _ (fun _ z => by cases z) (fun _ z => by cases z) e3, e4⟩)
  · exact .inr (.inr (.inl ⟨e1, e2, e3⟩))
  · exact .inr (.inr (.inr ⟨e1, e2, e3⟩))
/-- isinstance(e, c) -/
def rIsG (K : PySem.W.Frag) (cls : Value) (d : Option Addr) (a : Addr) : List V → Hp → VK → Prop := fun xs H Q => ∃ D, cls = .ref D ∧ ExcC K D ∧ rIsE K D a xs H Q ∧ (d = none ∨ ∃ dd fs, d = some dd ∧ H dd = some (.xd fs))
theorem call_isG {X : Cx} {a : Addr} {cls : Value} {d : Option Addr} {oe : Obj} {pn : List (Addr × Obj)} (hz : Zc cls d oe) (hf : ∃ vs, oe.data = .fields vs) : CallR (X.suite a ((a, oe) :: pn)) (.builtin "isinstance") (rIsG X.K cls d a) := by
  intro pins s σ H xs us Q I r h
  obtain ⟨D, rfl, C, h1, h2⟩ := h
  rcases h2 with rfl | ⟨dd, fs, rfl, h2⟩
  · exact call_isE C hz hf pins s σ H xs us Q I r h1
  · exact call_isD C hz hf pins s σ H xs us Q I r ⟨h1, fs, h2⟩
/-- e.f -/
def tXfG (K : PySem.W.Frag) (a : Addr) (cls : Value) (d : Option Addr) (f : Str) (te : TE) : TE := fun σ H Q => ∃ C, XfC K C ∧ PySem.W.findIn K (.ref C) f = some none ∧ tXf a cls d C f te σ H Q
theorem pe_xfG {X : Cx} {a : Addr} {oe : Obj} {cls : Value} {d : Option Addr} {pn : List (Addr × Obj)} {e : Expr} {te : TE} {pos : Pos} {n : Str}
    (hz : Zc cls d oe) (hf : ∃ vs, oe.data = .fields vs) (he : PE (X.suite a ((a, oe) :: pn)) e te) (hb : attributeBase e n X.env (eval e X.env) = eval e X.env := by rfl) :
    PE (X.suite a ((a, oe) :: pn)) (.Attribute e n pos) (tXfG X.K a cls d n te) :=
  ⟨fun pins s σ H Q I ⟨_, T, hno, h⟩ => (pe_xf T hno hz hf he hb).run pins s σ H Q I h⟩
theorem r_xf {σ : L2.St} {H : Hp} {Q : VK} {a dd C : Addr} {f : Str} {te : TE} {fs : List (Str × V)} {v : V} (T : XfC K C) (n : PySem.W.findIn K (.ref C) f = some none) (he : ∀ R : VK, R (.ref a) H → te σ H R) (hd : H dd = some (.xd fs)) (hl : fs.lookup f = some v) (q : Q v H) : tXfG K a (.ref C) (some dd) f te σ H Q :=
  ⟨C, T, n, he _ ⟨rfl, rfl, dd, fs, v, rfl, hd, hl, q⟩⟩
/-- a list's method, in a suite -/
theorem pe_bmU {X : Cx} {a : Addr} {pn : List (Addr × Obj)} {o e : Expr} {es : List Expr} {to : TE} {t : TA} {name : Str} {apos cpos : Pos} {id : String} {r : V → List V → Hp → VK → Prop} (pa : PlainAttrs "list") (slot : Slot "list" name id) (hty : typeOf (.builtin id) = pure (.type "method_descriptor")) (hm : MtR (X.suite a pn) id r) (ho : PE (X.suite a pn) o to) (ha : PA (X.suite a pn) (e :: es) t)
    (hbase : attributeBase o name (X.suite a pn).env (eval o (X.suite a pn).env) = eval o (X.suite a pn).env := by rfl)
    (hfew : ((backTo cpos (starEach (e :: es) (X.suite a pn).env)).all (fun x => !x.1) && (backToKw cpos (keywordEach [] (X.suite a pn).env)).all (fun x => x.1.isSome)
      && decide ((e :: es).length + ([] : List Keyword).length + (if ([] : List Keyword).isEmpty then 0 else 1) < 30)) = true := by rfl)
    (hline : (apos.endLine == cpos.line) = true := by rfl) (hs : starEach (e :: es) (X.suite a pn).env = (false, eval e (X.suite a pn).env) :: starEach es (X.suite a pn).env := by rfl) (hplain : (backTo cpos (starEach es (X.suite a pn).env)).any (·.1) = false := by rfl) :
    PE (X.suite a pn) (.Call (.Attribute o name apos) (e :: es) [] cpos) (tBM X.K "list" r to t) := pe_bm (X := X.suite a pn) pa slot hty hm ho ha hbase hfew hline hs hplain
/-- as many slots as names -/
def tLen (n : Nat) (t : TS) : TS := fun D σ H => σ.length = n → t D σ H
theorem pss_len {X : Cx} {b : List Stmt} {t : TS} {n : Nat} (hn : X.N.length = n) (h : PSs X b t) : PSs X b (tLen n t) := ⟨fun pins s σ H D I q => h.run pins s σ H D I (q (I.len.trans hn))⟩
def hitsN (x : Str) : List Bool := kindsN.map fun y => decide (x = y)
theorem hits_one : ∀ x ∈ fourN, (hitsN x).count true = 1 := by decide +kernel
theorem hits_at : ∀ x ∈ fourN, ∀ j, j = (hitsN x).idxOf true → (hitsN x)[j]? = some true ∧ ∀ m < j, ∀ b, (hitsN x)[m]? = some b → b = false := by
  intro x hx j hj
  subst hj
  have key : ∀ x ∈ fourN, (hitsN x)[(hitsN x).idxOf true]? = some true ∧ ∀ m < (hitsN x).idxOf true, ∀ b, (hitsN x)[m]? = some b → b = false := by decide +kernel
  exact key x hx
/-- what _law_raised makes of a call that raises -/
def TR (K : PySem.W.Frag) (G : List Addr) (L : List (Addr × Str)) : (XK → Hp → VK → Prop) → Hp → VK → Prop := fun tl H Q => tl (fun cls d H' => ∃ D, Told K cls d H' D ∧ ∀ v H2, Go G L H' H2 → Im H2 v D → Q v H2) H (fun _ H1 => Q .non H1)
theorem scRaised : FnScope ["_law_work", "e", "_law_kinds", "_law_at"] ["_law_work"] (defScope sRaised) := C8.fnScope_by (by decide +kernel)
theorem r_isG {H : Hp} {Q : VK} {mg : Str → Option Value} {x y : Str} {d : Option Addr} {a : Addr} (R : Rz K mg) (hx : x ∈ fourN) (hy : y ∈ kindsN) (hd : d = none ∨ ∃ dd fs, d = some dd ∧ H dd = some (.xd fs)) (q : Q (.bl (decide (x = y))) H) : rIsG K (.ref (He.ga K x)) d a [.ref a, .ref (He.ga K y)] H Q :=
  ⟨_, rfl, R.ec x hx, ⟨_, _, _, rfl, fun u h => h, R.kt x hx y hy, q⟩, hd⟩
theorem raised_gives {X : Cx} {g : Addr} {cdg : Value} {q : Str} (R : Rz X.K X.mg) : LamX.GivesTo X ["_law_work", "e", "_law_kinds", "_law_at"] "_law_raised" (defScope sRaised) g cdg (defBody sRaised) "_law_work" q (TR X.K G L) := by
  intro f c' s H Q tl act hc h
  have gC : ∀ x, x ∈ kindsN → X.mg x = some (.ref (He.ga X.K x)) := R.gC
  refine ⟨_, pss_cons (ps_try_as (i := 1) (X := (cxOf C8.CX0 X.prog X.w X.K X.mg X.base ["_law_work", "e", "_law_kinds", "_law_at"] "_law_raised" (defScope sRaised) g cdg X.A X.stack s H C8.E0).nox) (c := .ref (He.ga X.K "StepError"))
      (tb := fun W D σ H => ∃ Ech : XK, (∀ cls d σ' H', Ech cls d H' → W cls d σ' H') ∧ σ[0]? = some (some (.ref f)) ∧ H c' = some (LamX.CodeO c' q) ∧ tl Ech H (fun _ H1 => D.nx σ H1))
      rfl rfl scRaised.nd rfl rfl ⟨rfl, by decide, .inl R.gS⟩ L2.takes0 (fun W pn xe tk _ => ?_)
      (fun a oe cls d pn hz hf => pss_len (n := 4) rfl (pss_cons (ps_set (i := 2) scRaised.nd rfl (Or.inl rfl) (pe_lst (pa_cons (pe_callB (call_isG hz hf) rfl R.zI boot_isinstance (pa_cons (pv 1) (pa_cons (pe_glob (v := .ref (He.ga X.K "InvalidState")) rfl (gC _ (by decide)) rfl) pa_nil)))
          (pa_cons (pe_callB (call_isG hz hf) rfl R.zI boot_isinstance (pa_cons (pv 1) (pa_cons (pe_glob (v := .ref (He.ga X.K "IllegalState")) rfl (gC _ (by decide)) rfl) pa_nil)))
          (pa_cons (pe_callB (call_isG hz hf) rfl R.zI boot_isinstance (pa_cons (pv 1) (pa_cons (pe_glob (v := .ref (He.ga X.K "InvalidRules")) rfl (gC _ (by decide)) rfl) pa_nil))) pa_nil)))))
        (pss_cons (ps_set (i := 2) scRaised.nd rfl (Or.inl rfl) (pe_op op_cat (pv 2) (pe_lst (pa_cons (pe_callB (call_isG hz hf) rfl R.zI boot_isinstance (pa_cons (pv 1) (pa_cons (pe_glob (v := .ref (He.ga X.K "IllegalStep")) rfl (gC _ (by decide)) rfl) pa_nil)))
          (pa_cons (pe_callB (call_isG hz hf) rfl R.zI boot_isinstance (pa_cons (pv 1) (pa_cons (pe_glob (v := .ref (He.ga X.K "UnknownSwitch")) rfl (gC _ (by decide)) rfl) pa_nil)))
          (pa_cons (pe_callB (call_isG hz hf) rfl R.zI boot_isinstance (pa_cons (pv 1) (pa_cons (pe_glob (v := .ref (He.ga X.K "NoWay")) rfl (gC _ (by decide)) rfl) pa_nil))) pa_nil))))))
        (pss_cons (ps_set (i := 2) scRaised.nd rfl (Or.inl rfl) (pe_op op_cat (pv 2) (pe_lst (pa_cons (pe_callB (call_isG hz hf) rfl R.zI boot_isinstance (pa_cons (pv 1) (pa_cons (pe_glob (v := .ref (He.ga X.K "InvalidClause")) rfl (gC _ (by decide)) rfl) pa_nil)))
          (pa_cons (pe_callB (call_isG hz hf) rfl R.zI boot_isinstance (pa_cons (pv 1) (pa_cons (pe_glob (v := .ref (He.ga X.K "UnknownClause")) rfl (gC _ (by decide)) rfl) pa_nil)))
          (pa_cons (pe_callB (call_isG hz hf) rfl R.zI boot_isinstance (pa_cons (pv 1) (pa_cons (pe_glob (v := .ref (He.ga X.K "Impossible")) rfl (gC _ (by decide)) rfl) pa_nil))) pa_nil))))))
        (pss_cons (ps_if (PW.pt (pw_or (pt_cmpR op_ne (pe_bmU (X := (cxOf C8.CX0 X.prog X.w X.K X.mg X.base ["_law_work", "e", "_law_kinds", "_law_at"] "_law_raised" (defScope sRaised) g cdg X.A X.stack s H C8.E0).nox) (r := rCntB X.K) PySem.F.plainAttrs_list PySem.F.slot_list_count PySem.F.type_list_count mt_lcountB (pv 2) (pa_cons pe_bl pa_nil)) pe_int (nomark _))
            (pw_or1 (pt_not (pt_val (pe_callB (call_isG hz hf) rfl R.zI boot_isinstance (pa_cons (pv 1) (pa_cons (pe_bltn (v := .ty "ValueError") rfl R.zV (by decide +kernel) rfl) pa_nil))))))))
          (pss_one (ps_ret (pe_tup (pa_cons pe_str pa_nil)))) pss_nil)
        (pss_cons (ps_set (i := 3) scRaised.nd rfl (Or.inl rfl) (pe_bmU (X := (cxOf C8.CX0 X.prog X.w X.K X.mg X.base ["_law_work", "e", "_law_kinds", "_law_at"] "_law_raised" (defScope sRaised) g cdg X.A X.stack s H C8.E0).nox) (r := rIndex X.K) PySem.F.plainAttrs_list PySem.F.slot_list_index PySem.F.type_list_index mt_index (pv 2) (pa_cons pe_bl pa_nil)))
        (pss_cons (ps_if (pt_cmpR op_lt (pv 3) pe_int (nomark _)) (pss_one (ps_ret (pe_tup (pa_cons (pe_ix (r := rIxL X.K) ix_list (pe_lst (pa_cons pe_str (pa_cons pe_str pa_nil))) (pv 3) (fun _ _ => rfl)) (pa_cons (pe_xfG hz hf (pv 1)) pa_nil))))) pss_nil)
        (pss_cons (ps_if (pt_cmpR op_eq (pv 3) pe_int (nomark _)) (pss_one (ps_ret (pe_tup (pa_cons pe_str (pa_cons (pe_xfG hz hf (pv 1)) (pa_cons (pe_xfG hz hf (pv 1)) pa_nil)))))) pss_nil)
        (pss_cons (ps_if (pt_cmpR op_eq (pv 3) pe_int (nomark _)) (pss_one (ps_ret (pe_tup (pa_cons pe_str (pa_cons (pe_xfG hz hf (pv 1)) (pa_cons (pe_xfG hz hf (pv 1)) pa_nil)))))) pss_nil)
        (pss_cons (ps_if (pt_cmpR op_lt (pv 3) pe_int (nomark _)) (pss_one (ps_ret (pe_ifExp (pt_cmpR op_eq (pv 3) pe_int (nomark _)) (pe_tup (pa_cons pe_str (pa_cons (pe_xfG hz hf (pv 1)) pa_nil))) (pe_tup (pa_cons pe_str (pa_cons (pe_xfG hz hf (pv 1)) pa_nil)))))) pss_nil)
        (pss_one (ps_ret (pe_tup (pa_cons (pe_ix (r := rIxL X.K) ix_list (pe_lst (pa_cons pe_str (pa_cons pe_str (pa_cons pe_str pa_nil)))) (pe_op op_sub (pv 3) pe_int) (fun _ _ => rfl)) pa_nil)))))))))))))))
    (pss_one (ps_ret pe_non)), ?_⟩
  · refine ⟨fun pins s' σ H' D I h' => ?_⟩
    obtain ⟨Ech, hW, h1, h2, h3⟩ := h'
    exact (pss_one (ps_expr (act W pn xe Ech _ _ tk hW))).run pins s' σ H' D I ⟨h1, h2, h3⟩
  · refine ⟨_, fun cls d σ' H' h' => ?_, rfl, hc, h⟩
    obtain ⟨D, td, qD⟩ := h'
    obtain ⟨x, hx, rfl, hd⟩ := told_is td
    refine ⟨true, R.xm x hx, fun _ a ha hlen => ?_, fun z => by cases z⟩
    have hlen' : σ'.length = 4 := by
      rw [List.length_set] at hlen
      exact hlen
    obtain ⟨s0, s1, s2, s3, rfl⟩ : ∃ s0 s1 s2 s3, σ' = [s0, s1, s2, s3] := by
      match σ', hlen' with
      | [s0, s1, s2, s3], _ => exact ⟨s0, s1, s2, s3, rfl⟩
    clear hlen hlen'
    have gd : ∀ H1, Go G L H' H1 → (d = none ∨ ∃ dd fs, d = some dd ∧ H1 dd = some (.xd fs)) := fun H1 g => by
      rcases hd with z | ⟨dd, fs, z1, z2⟩
      · exact .inl z
      · exact .inr ⟨dd, fs, z1, g.1 dd _ z2 fun ps q => by cases q⟩
    have g0 : Go G L H' H' := Go.refl H'
    repeat walk_at "rd"
    refine r_isG R hx (by decide) (gd _ g0) ?_
    repeat walk_at "rd"
    refine r_isG R hx (by decide) (gd _ g0) ?_
    repeat walk_at "rd"
    refine r_isG R hx (by decide) (gd _ g0) ?_
    repeat walk_at "rd"
    refine ⟨(by show 3 ≤ sizeLine; decide), fun p1 hp1 => ?_⟩
    have g1 := g0.trans (Go.new (G := G) (L := L) (o := .lst [.bl (decide (x = "InvalidState")), .bl (decide (x = "IllegalState")), .bl (decide (x = "InvalidRules"))]) hp1)
    have e1 : (upd H' p1 (.lst [.bl (decide (x = "InvalidState")), .bl (decide (x = "IllegalState")), .bl (decide (x = "InvalidRules"))])) p1 = some (.lst [.bl (decide (x = "InvalidState")), .bl (decide (x = "IllegalState")), .bl (decide (x = "InvalidRules"))]) := upd_same
    generalize upd H' p1 (.lst [.bl (decide (x = "InvalidState")), .bl (decide (x = "IllegalState")), .bl (decide (x = "InvalidRules"))]) = H1 at g1 e1 ⊢
    repeat walk_at "rd"
    refine r_isG R hx (by decide) (gd _ g1) ?_
    repeat walk_at "rd"
    refine r_isG R hx (by decide) (gd _ g1) ?_
    repeat walk_at "rd"
    refine r_isG R hx (by decide) (gd _ g1) ?_
    repeat walk_at "rd"
    refine ⟨(by show 3 ≤ sizeLine; decide), fun p2 hp2 => ?_⟩
    have g12 : Go G L H1 (upd H1 p2 (.lst [.bl (decide (x = "IllegalStep")), .bl (decide (x = "UnknownSwitch")), .bl (decide (x = "NoWay"))])) := Go.new hp2
    have e2 : (upd H1 p2 (.lst [.bl (decide (x = "IllegalStep")), .bl (decide (x = "UnknownSwitch")), .bl (decide (x = "NoWay"))])) p2 = some (.lst [.bl (decide (x = "IllegalStep")), .bl (decide (x = "UnknownSwitch")), .bl (decide (x = "NoWay"))]) := upd_same
    generalize upd H1 p2 (.lst [.bl (decide (x = "IllegalStep")), .bl (decide (x = "UnknownSwitch")), .bl (decide (x = "NoWay"))]) = H2 at g12 e2 ⊢
    refine r_cat (g12.lst e1) e2 (by show 6 ≤ 5000; decide) fun p3 H3 k3 _ e3 => ?_
    have g3 := (g1.trans g12).trans (Go.same (G := G) (L := L) k3)
    repeat walk_at "rd"
    refine r_isG R hx (by decide) (gd _ g3) ?_
    repeat walk_at "rd"
    refine r_isG R hx (by decide) (gd _ g3) ?_
    repeat walk_at "rd"
    refine r_isG R hx (by decide) (gd _ g3) ?_
    repeat walk_at "rd"
    refine ⟨(by show 3 ≤ sizeLine; decide), fun p4 hp4 => ?_⟩
    have g34 : Go G L H3 (upd H3 p4 (.lst [.bl (decide (x = "InvalidClause")), .bl (decide (x = "UnknownClause")), .bl (decide (x = "Impossible"))])) := Go.new hp4
    have e4 : (upd H3 p4 (.lst [.bl (decide (x = "InvalidClause")), .bl (decide (x = "UnknownClause")), .bl (decide (x = "Impossible"))])) p4 = some (.lst [.bl (decide (x = "InvalidClause")), .bl (decide (x = "UnknownClause")), .bl (decide (x = "Impossible"))]) := upd_same
    generalize upd H3 p4 (.lst [.bl (decide (x = "InvalidClause")), .bl (decide (x = "UnknownClause")), .bl (decide (x = "Impossible"))]) = H4 at g34 e4 ⊢
    refine r_cat (g34.lst e3) e4 (by show 9 ≤ 5000; decide) fun p5 H5 k5 _ e5 => ?_
    have g5 := (g3.trans g34).trans (Go.same (G := G) (L := L) k5)
    have e5' : H5 p5 = some (.lst ((hitsN x).map V.bl)) := e5
    repeat walk_at "rd"
    refine ⟨.inl ⟨rfl, _, SqL.of e5'⟩, ?_⟩
    repeat walk_at "rd"
    refine ⟨p5, hitsN x, true, rfl, rfl, .of e5', ?_⟩
    rw [hits_one x hx]
    repeat walk_at "rd"
    refine r_ne rfl ?_
    rw [show decide (V.int ((1 : Nat) : Int) = V.int 1) = true from decide_eq_true rfl]
    repeat walk_at "rd"
    refine ⟨_, rfl, R.ec x hx, ⟨.ty "ValueError", .type "ValueError", true, rfl, fun u h => h, R.kv x hx, ?_⟩, gd _ g5⟩
    repeat walk_at "rd"
    refine ⟨.inl ⟨rfl, _, SqL.of e5'⟩, ?_⟩
    repeat walk_at "rd"
    obtain ⟨i1, i2⟩ := hits_at x hx _ rfl
    refine ⟨p5, (hitsN x).map V.bl, .bl true, (hitsN x).idxOf true, .bl true, rfl, rfl, .of e5', rfl, ?_, by rw [List.getElem?_map, i1]; rfl, rfl, fun m z' hm hz => ?_, ?_⟩
    · rw [List.all_eq_true]
      intro z hz
      obtain ⟨b, _, e⟩ := List.mem_map.mp hz
      rw [← e]
      rfl
    · rw [List.getElem?_map] at hz
      cases hb : (hitsN x)[m]? with
      | none => rw [hb] at hz; cases hz
      | some b =>
        rw [hb] at hz
        have e : z' = .bl b := (Option.some.inj hz).symm
        rw [e, i2 m hm b hb]
        rfl
    · clear i1 i2 e5 e4 e3 e2 e1 hd
      have inj : ∀ x, x ∈ fourN → ∀ y ∈ fourN, Value.ref (He.ga X.K x) = .ref (He.ga X.K y) → x = y := fun x hx y hy e => by
        have k1 := R.kt x hx x (four_kinds x hx)
        have k2 := R.kt y hy x (four_kinds x hx)
        rw [← e] at k2
        have k3 := Option.some.inj (k1.symm.trans k2)
        rw [decide_eq_true (rfl : x = x)] at k3
        exact (of_decide_eq_true k3.symm).symm
      rcases td.kt g5.kt with ⟨dd, p, i, ec, rfl, exd, rfl⟩ | ⟨dd, i, ec, rfl, exd, rfl⟩ | ⟨ec, rfl, rfl⟩ | ⟨ec, rfl, rfl⟩
      · have ex : x = "InvalidRules" := inj x hx _ (by decide) ec
        subst ex
        rw [show (hitsN "InvalidRules").idxOf true = 2 from by decide +kernel]
        repeat walk_at "rd"
        refine r_if (fun c => absurd c (by decide)) (fun _ => ?_)
        repeat walk_at "rd"
        refine r_eq rfl ?_
        rw [show decide (V.int ((2 : Nat) : Int) = V.int 2) = true from decide_eq_true rfl]
        repeat walk_at "rd"
        refine r_xf R.xR R.n1 (fun R z => ⟨_, rfl, z⟩) exd (v := .str p) rfl ?_
        repeat walk_at "rd"
        refine r_xf R.xR R.n2 (fun R z => ⟨_, rfl, z⟩) exd (v := .int i) rfl ?_
        repeat walk_at "rd"
        refine ⟨(by show 3 ≤ sizeLine; decide), fun pt hpt => ?_⟩
        exact qD _ _ (g5.trans (Go.new hpt)) (.tup (.inl upd_same) (.cons (.str _) (.cons (.str _) (.cons (.int _) .nil))))
      · have ex : x = "InvalidState" := inj x hx _ (by decide) ec
        subst ex
        rw [show (hitsN "InvalidState").idxOf true = 0 from by decide +kernel]
        repeat walk_at "rd"
        refine r_if (fun _ => ?_) (fun c => absurd c (by decide))
        repeat walk_at "rd"
        refine ⟨(by show 2 ≤ sizeLine; decide), fun pl hpl => ?_⟩
        have g6 : Go G L H5 (upd H5 pl (.lst [V.str "invalid", V.str "illegal"])) := Go.new hpl
        have e6 : (upd H5 pl (.lst [V.str "invalid", V.str "illegal"])) pl = some (.lst [V.str "invalid", V.str "illegal"]) := upd_same
        have exd6 := g6.1 dd _ exd (fun ps q => by cases q)
        generalize upd H5 pl (.lst [V.str "invalid", V.str "illegal"]) = H6 at g6 e6 exd6 ⊢
        repeat walk_at "rd"
        refine r_ixL (.of e6) (v := .str "invalid") rfl ?_
        repeat walk_at "rd"
        refine r_xf R.xS R.n3 (fun R z => ⟨_, rfl, z⟩) exd6 (v := .int i) rfl ?_
        repeat walk_at "rd"
        refine ⟨(by show 2 ≤ sizeLine; decide), fun pt hpt => ?_⟩
        exact qD _ _ ((g5.trans g6).trans (Go.new hpt)) (.tup (.inl upd_same) (.cons (.str _) (.cons (.int _) .nil)))
      · have ex : x = "InvalidClause" := inj x hx _ (by decide) ec
        subst ex
        rw [show (hitsN "InvalidClause").idxOf true = 6 from by decide +kernel]
        repeat walk_at "rd"
        refine r_if (fun c => absurd c (by decide)) (fun _ => ?_)
        repeat walk_at "rd"
        refine r_eq rfl ?_
        rw [show decide (V.int ((6 : Nat) : Int) = V.int 2) = false from by decide]
        repeat walk_at "rd"
        refine r_eq rfl ?_
        rw [show decide (V.int ((6 : Nat) : Int) = V.int 3) = false from by decide]
        repeat walk_at "rd"
        refine r_if (fun c => absurd c (by decide)) (fun _ => ?_)
        repeat walk_at "rd"
        refine ⟨(by show 3 ≤ sizeLine; decide), fun pl hpl => ?_⟩
        have g6 : Go G L H5 (upd H5 pl (.lst [V.str "clause", V.str "noclause", V.str "impossible"])) := Go.new hpl
        have e6 : (upd H5 pl (.lst [V.str "clause", V.str "noclause", V.str "impossible"])) pl = some (.lst [V.str "clause", V.str "noclause", V.str "impossible"]) := upd_same
        generalize upd H5 pl (.lst [V.str "clause", V.str "noclause", V.str "impossible"]) = H6 at g6 e6 ⊢
        repeat walk_at "rd"
        refine r_ixL (.of e6) (v := .str "clause") rfl ?_
        repeat walk_at "rd"
        refine ⟨(by show 1 ≤ sizeLine; decide), fun pt hpt => ?_⟩
        exact qD _ _ ((g5.trans g6).trans (Go.new hpt)) (.tup (.inl upd_same) (.cons (.str _) .nil))
      · have ex : x = "UnknownClause" := inj x hx _ (by decide) ec
        subst ex
        rw [show (hitsN "UnknownClause").idxOf true = 7 from by decide +kernel]
        repeat walk_at "rd"
        refine r_if (fun c => absurd c (by decide)) (fun _ => ?_)
        repeat walk_at "rd"
        refine r_eq rfl ?_
        rw [show decide (V.int ((7 : Nat) : Int) = V.int 2) = false from by decide]
        repeat walk_at "rd"
        refine r_eq rfl ?_
        rw [show decide (V.int ((7 : Nat) : Int) = V.int 3) = false from by decide]
        repeat walk_at "rd"
        refine r_if (fun c => absurd c (by decide)) (fun _ => ?_)
        repeat walk_at "rd"
        refine ⟨(by show 3 ≤ sizeLine; decide), fun pl hpl => ?_⟩
        have g6 : Go G L H5 (upd H5 pl (.lst [V.str "clause", V.str "noclause", V.str "impossible"])) := Go.new hpl
        have e6 : (upd H5 pl (.lst [V.str "clause", V.str "noclause", V.str "impossible"])) pl = some (.lst [V.str "clause", V.str "noclause", V.str "impossible"]) := upd_same
        generalize upd H5 pl (.lst [V.str "clause", V.str "noclause", V.str "impossible"]) = H6 at g6 e6 ⊢
        repeat walk_at "rd"
        refine r_ixL (.of e6) (v := .str "noclause") rfl ?_
        repeat walk_at "rd"
        refine ⟨(by show 1 ≤ sizeLine; decide), fun pt hpt => ?_⟩
        exact qD _ _ ((g5.trans g6).trans (Go.new hpt)) (.tup (.inl upd_same) (.cons (.str _) .nil))
end
/-! a call of _law_raised -/
theorem passN {X : Cx} : Passes (L2.CX X.prog X.w) X E0 := fun _ _ _ _ _ _ _ h => by
  obtain ⟨_, _, _, _, _, _, _, _, _, _, _, _, h⟩ := h
  exact h.elim
section
variable {P : Program} {w : World} {K : PySem.W.Frag} {mg : Str → Option Value} {base : Heap} {G : List Addr} {L : List (Addr × Str)}
structure RzD (K : PySem.W.Frag) (mg : Str → Option Value) : Prop where
  rz : Rz K mg
  ex : ∃ (g : Addr) (fd : FuncData), Fun K "_law_raised" "_law_raised" sRaised g fd ∧ mg "_law_raised" = some (.ref g) ∧ Binds K fd ["_law_work"] []
theorem pe_raised {X : Cx} {c Pn : Addr} {k j : Nat} {params : Arguments} {body : Expr} {sc : Scope} {t : XK → TE} {p lpos pos : Pos} (C : RzD X.K X.mg) (TB : LamX.TabB X.base X.mg c Pn) (hcode : X.env.code = .ref c) (hr : Room j X.A) (Lm : LamX.LamS X.env.scope sc)
    (hbody : ∀ (A : Around) (outer : List Env) (s : Shared) (H : Hp) (E : XK) (f c' : Addr), Room k (A.deeper (LamX.lamEnv X sc s.heap.objs.size f c')) → PE (LamX.lamCx X A outer s H E sc f c') body (t E))
    (hk : k + 2 ≤ j := by decide) (hg : Gl X "_law_raised" := by rfl) (hdef : defaultsOf params X.env = ([], []) := by rfl)
    (hbind : ∀ (q : Str) (cl : List (Str × Addr)) (pm cv ctv : Value), bindArgs (PySem.W.kla_fn "<lambda>" q params body sc cl pm cv ctv) ⟨[], []⟩ = pure [] := by intro _ _ _ _ _; rfl) :
    PE X (.Call (.Name "_law_raised" p) [.Lambda params body sc lpos] [] pos) (tLamS Pn (X.env.qual ++ "<lambda>") (TR X.K G L) t) := by
  obtain ⟨g, fd, F, hm, b⟩ := C.ex
  obtain ⟨oc, od, kV, doc, pm, an, cdv, ct, osl, efd, lk, hcd⟩ := F.ex
  subst efd
  exact pe_lamS hg hm F.kp lk hcd b scRaised rfl (.inl rfl) (raised_gives C.rz) TB hcode (hr.mono hk) Lm hdef hbind hbody
theorem r_lam {σ : L2.St} {H : Hp} {Q : VK} {Pn : Addr} {q : Str} {t : XK → TE} (A : Apart G L) (hp : (Pn, q) ∈ L) (ht : TBS G L H)
    (h : ∀ H1, Go G L H H1 → t (fun cls d H' => ∃ D, Told K cls d H' D ∧ ∀ v H2, Go G L H' H2 → Im H2 v D → Q v H2) σ H1 (fun _ H2 => Q .non H2)) : tLamS Pn q (TR K G L) t σ H Q :=
  ⟨ht.2 _ hp, fun H1 e ts => h H1 (Go.but A hp ht e ts)⟩
/-- a call that tells D -/
theorem tells {H H' : Hp} {Q : VK} {D : PyData} {cls : Value} {dd : Option Addr} (t : Told K cls dd H' D) (q : ∀ v H2, Go G L H' H2 → Im H2 v D → Q v H2) : ∃ D, Told K cls dd H' D ∧ ∀ v H2, Go G L H' H2 → Im H2 v D → Q v H2 := ⟨D, t, q⟩
theorem Im.dpK {H : Hp} {v : V} {d : PyData} (h : Im H v d) : Dp K H v d := h.dp
theorem eqv_same {n : Nat} {d : PyData} (h : lv n d = true) : PyData.eqv d d = true := PySem.SeqAt.eqv_refl d (lv_ok n d h).1
end
/-! the data of _law_are_rules -/
def nmD (c : Nat) : List PyData := (nameL.take c).map PyData.str
def insD (xs : List PyData) (k : Nat) (d : PyData) : List PyData := xs.take k ++ [d] ++ xs.drop k
def bad8 : List PyData := [.str "", .str "A", .str "a1", .str "abcdefghi", .none, .int 5, .bool true, .tuple [.str "a"]]
def signsD (z : Str) : List PyData := z.cps.toList.map fun c => PyData.str ⟨#[c]⟩
def smS : PyData → Bool
  | .str z => decide (z.length ≤ 100)
  | _ => true
def okNb (ds : List PyData) : Bool := decide (ds.length ≤ 60) && (ds.all (lv 6) && ds.all smS)
theorem okN_of {ds : List PyData} (h : okNb ds = true) : okN (.tuple ds) := by
  unfold okNb at h
  rw [Bool.and_eq_true, Bool.and_eq_true, List.all_eq_true, List.all_eq_true] at h
  obtain ⟨h1, h2, h3⟩ := h
  refine ⟨lv_tup h2, fun es e => ?_⟩
  cases e
  refine ⟨of_decide_eq_true h1, fun x hx => ?_⟩
  have h4 := h3 x hx
  cases x with
  | str z => exact Nat.le_trans (of_decide_eq_true h4) (by decide)
  | _ => trivial
theorem nm_bad : ∀ c < 10, 1 ≤ c → namesBad (.tuple (nmD c)) = none ∧ okNb (nmD c) = true ∧ (∀ z ∈ nameL.take c, PyData.strOk z = true ∧ z.length ≤ 100) ∧ ((nameL.take c).length = c) ∧ (nameL.take c)[0]? = some ("q" : Str) ∧ ("nono" : Str) ∉ nameL.take c := by decide +kernel
theorem bad8_at : ∀ c < 10, 1 ≤ c → ∀ k < c + 1, ∀ d ∈ bad8, namesBad (.tuple (insD (nmD c) k d)) = some k ∧ okNb (insD (nmD c) k d) = true := by decide +kernel
theorem badq_at : ∀ c < 10, 1 ≤ c → ∀ k < c + 1, 1 ≤ k → namesBad (.tuple (insD (nmD c) k (.str "q"))) = some k ∧ okNb (insD (nmD c) k (.str "q")) = true := by decide +kernel
theorem long_at : namesBad (.tuple (signsD "abcdefghijk")) = some 10 ∧ okNb (signsD "abcdefghijk") = true := by decide +kernel
theorem bad8_q : ∀ d ∈ bad8, PyData.eqv d (.str "q") = false := by decide +kernel
theorem ClD.ok {ns : List Str} {d : PyData} (h : ClD ns d) : clauseOk (ns.map PyData.str) d = true := by
  obtain ⟨w, a, b, rfl, hw, ha, hb⟩ := h
  show (inD (.str w) ((["needs", "excludes", "either"] : List Str).map PyData.str) && inD (.str a) (ns.map PyData.str) && inD (.str b) (ns.map PyData.str)) = true
  rw [inD_strs, inD_strs, inD_strs, decide_eq_true ha, decide_eq_true hb]
  have e : w ∈ (["needs", "excludes", "either"] : List Str) := by
    rcases hw with rfl | rfl | rfl <;> decide
  rw [decide_eq_true e]
  rfl
theorem nm_okR {c : Nat} {cd : List PyData} (h1 : 1 ≤ c) (h9 : c ≤ 9) (hc : ∀ d ∈ cd, ClD (nameL.take c) d) (hl : cd.length ≤ 40) : OkR (nameL.take c) cd := by
  obtain ⟨a1, a2, a3, a4, _⟩ := nm_bad c (by omega) h1
  exact ⟨⟨fun z hz => (a3 z hz).1, by omega⟩, a1, fun z hz => Nat.le_trans (a3 z hz).2 (by decide), fun d hd => (hc d hd).ok, hl⟩
theorem scanC_bad {nd : List PyData} {d : PyData} (hb : clauseOk nd d = false) : ∀ {xs ys : List PyData} {i : Nat}, (∀ d ∈ xs, clauseOk nd d = true) → i + xs.length ≤ 40 → scanC nd i (xs ++ d :: ys) = some (i + xs.length)
  | [], ys, i, _, _ => by
    show (if decide ((40 : Int) ≤ (i : Nat)) || !clauseOk nd d then some i else scanC nd (i + 1) ys) = some (i + 0)
    rw [hb]
    simp
  | x :: xs, ys, i, h, hl => by
    rw [List.length_cons] at hl
    show (if decide ((40 : Int) ≤ (i : Nat)) || !clauseOk nd x then some i else scanC nd (i + 1) (xs ++ d :: ys)) = _
    rw [h x (by simp), decide_eq_false (by omega)]
    show scanC nd (i + 1) (xs ++ d :: ys) = _
    rw [scanC_bad hb (fun d hd => h d (List.mem_cons_of_mem _ hd)) (by omega), List.length_cons]
    congr 1
    omega
theorem rb_names {d : PyData} {dc : PyData} {i : Nat} (h : namesBad d = some i) : rulesBad d dc = some (rulesE "names" i) := by
  unfold rulesBad
  rw [h]
theorem rb_clauses {nd : List PyData} {dc : PyData} {i : Nat} (h : namesBad (.tuple nd) = none) (h2 : clausesBad nd dc = some i) : rulesBad (.tuple nd) dc = some (rulesE "clauses" i) := by
  unfold rulesBad
  rw [h]
  show (clausesBad nd dc).map (rulesE "clauses") = _
  rw [h2]
  rfl
def goodD (c : Nat) : PyData := .tuple [.str "needs", .str "q", .str ((nameL.take c).getD (c - 1) "q")]
theorem good_cl {c : Nat} (h1 : 1 ≤ c) (h9 : c ≤ 9) : ClD (nameL.take c) (goodD c) := by
  have key : ∀ c < 10, 1 ≤ c → ("q" : Str) ∈ nameL.take c ∧ (nameL.take c).getD (c - 1) "q" ∈ nameL.take c := by decide +kernel
  obtain ⟨a, b⟩ := key c (by omega) h1
  exact ⟨_, _, _, rfl, .inl rfl, a, b⟩
/-- the wrong clauses -/
def bads (c : Nat) : List PyData := [.tuple [.str "needs", .str "q"], .tuple [.str "needs", .str "q", .str ((nameL.take c).getD (c - 1) "q"), .str "a"], .list [.str "needs", .str "q", .str ((nameL.take c).getD (c - 1) "q")],
  .tuple [.str "need", .str "q", .str ((nameL.take c).getD (c - 1) "q")], .tuple [.str "needs", .str "q", .str "nono"], .none, .int 5, .str "needs"]
theorem bads_no : ∀ c < 10, 1 ≤ c → ∀ d ∈ bads c, clauseOk (nmD c) d = false ∧ lv 6 d = true := by decide +kernel
theorem ins_ok {c j : Nat} {cd : List PyData} {d : PyData} (h1 : 1 ≤ c) (h9 : c ≤ 9) (hc : ∀ d ∈ cd, ClD (nameL.take c) d) (hl : cd.length ≤ 40) (hj : j ≤ cd.length) (hd : d ∈ bads c) : rulesBad (.tuple (nmD c)) (.tuple (insD cd j d)) = some (rulesE "clauses" j) ∧ okC (.tuple (insD cd j d)) := by
  obtain ⟨b1, b2⟩ := bads_no c (by omega) h1 d hd
  obtain ⟨a1, _⟩ := nm_bad c (by omega) h1
  have ok := nm_okR h1 h9 hc hl
  have hlen : (cd.take j).length = j := by rw [List.length_take]; omega
  refine ⟨rb_clauses a1 ?_, lv_tup fun x hx => ?_, fun ds e => ?_⟩
  · show scanC (nmD c) 0 (cd.take j ++ [d] ++ cd.drop j) = some j
    rw [List.append_assoc]
    have z := scanC_bad b1 (xs := cd.take j) (ys := cd.drop j) (i := 0) (fun x hx => ok.cs x (List.mem_of_mem_take hx)) (by omega)
    rw [hlen, Nat.zero_add] at z
    exact z
  · unfold insD at hx
    rcases List.mem_append.mp hx with hx | hx
    · rcases List.mem_append.mp hx with hx | hx
      · exact lv_up (ok.lvc x (List.mem_of_mem_take hx)) (by decide)
      · rw [List.mem_singleton.mp hx]
        exact lv_up b2 (by decide)
    · exact lv_up (ok.lvc x (List.mem_of_mem_drop hx)) (by decide)
  · cases e
    unfold insD
    rw [List.length_append, List.length_append, List.length_take, List.length_drop]
    show min j cd.length + 1 + (cd.length - j) ≤ 60
    omega
/-! _law_are_rules -/
section
variable {P : Program} {w : World} {K : PySem.W.Frag} {mg : Str → Option Value} {base : Heap} {G : List Addr} {L : List (Addr × Str)}
def lamQ (x : Str) : Str := x ++ ".<locals>." ++ "<lambda>"
/-- Rules.free may be called -/
structure FreeC (P : Program) (w : World) (K : PySem.W.Frag) (mg : Str → Option Value) (base : Heap) (G : List Addr) (L : List (Addr × Str)) : Prop where
  g : mg "Rules" = some (.ref (cR K))
  ex : ∃ (mc : Value) (p g : Addr), ClX.CRead K (cR K) mc ∧ ClX.CMet K (cR K) mc "free" p g ∧ FnR P w K mg base (L2.CX P w) 7 g (spFreeS K G L)
theorem pe_free {X : Cx} {j : Nat} {E : XK} {e : Expr} {es : List Expr} {p1 apos pos : Pos} {t : TA} {pl : Sem Bool} (C : FreeC X.prog X.w X.K X.mg X.base G L) (hr : Room j X.A) (hx : Passes (L2.CX X.prog X.w) X E) (ha : PA X (e :: es) t) (hk : 7 ≤ j := by decide) (hg : Gl X "Rules" := by rfl)
    (hc : eval (.Call (.Attribute (.Name "Rules" p1) "free" apos) (e :: es) [] pos) X.env = (do
      let ov ← eval (.Name "Rules" p1) X.env
      standAt apos.atName
      let (f, first) ← holding [ov] (getMethod ov "free" pl)
      callWith pos f first (backTo pos (starEach (e :: es) X.env)) (backToKw pos (keywordEach [] X.env))) := by rfl)
    (hs : starEach (e :: es) X.env = (false, eval e X.env) :: starEach es X.env := by rfl) (hpl : (backTo pos (starEach es X.env)).any (·.1) = false := by rfl) :
    PE X (.Call (.Attribute (.Name "Rules" p1) "free" apos) (e :: es) [] pos) (ClX.tCMeth (cR X.K) (spFreeS X.K G L) E (tC (.ref (cR X.K))) t) := by
  obtain ⟨mc, p, g, rd, cm, F⟩ := C.ex
  exact ClX.pe_cmeth (pe_glob (v := .ref (cR X.K)) hg C.g rfl) rd cm F (hr.mono hk) hx ha hs hpl hc
/-! the same in a lambda's body -/
section
variable {X : Cx} {A : Around} {outer : List Env} {s : Shared} {H : Hp} {E : XK} {sc : Scope} {fL c' : Addr} {j : Nat} {e : Expr} {es : List Expr} {t : TA}
theorem pe_rulesL {p pos : Pos} (M : Mkr X.prog X.w X.K X.mg X.base G L) (hr : Room j (A.deeper (LamX.lamEnv X sc s.heap.objs.size fL c'))) (ha : PA (LamX.lamCx X A outer s H E sc fL c') (e :: es) t) (hk : 5 ≤ j := by decide) (hg : Gl (LamX.lamCx X A outer s H E sc fL c') "Rules" := by rfl)
    (he : starEach (e :: es) (LamX.lamCx X A outer s H E sc fL c').env = (false, eval e (LamX.lamCx X A outer s H E sc fL c').env) :: starEach es (LamX.lamCx X A outer s H E sc fL c').env := by rfl) (hpl : (backTo pos (starEach es (LamX.lamCx X A outer s H E sc fL c').env)).any (·.1) = false := by rfl) :
    PE (LamX.lamCx X A outer s H E sc fL c') (.Call (.Name "Rules" p) (e :: es) [] pos) (tMake (cR X.K) (spInit X.K G L) [] E t) :=
  pe_rules (X := LamX.lamCx X A outer s H E sc fL c') M hr (passes_call (takes_of rfl rfl rfl rfl) fun _ _ _ _ z => z) ha hk hg he hpl
theorem pe_fmL {m : Str} {k : Nat} {sp : Sp} {o : Expr} {apos pos : Pos} {ta : TE} {pl : Sem Bool} (c : Fm X.prog X.w X.K X.mg X.base m k sp) (hr : Room j (A.deeper (LamX.lamEnv X sc s.heap.objs.size fL c'))) (he : PE (LamX.lamCx X A outer s H E sc fL c') o ta) (ha : PA (LamX.lamCx X A outer s H E sc fL c') (e :: es) t) (hk : k ≤ j := by decide)
    (hc : eval (.Call (.Attribute o m apos) (e :: es) [] pos) (LamX.lamCx X A outer s H E sc fL c').env = (do
      let ov ← eval o (LamX.lamCx X A outer s H E sc fL c').env
      standAt apos.atName
      let (f, first) ← holding [ov] (getMethod ov m pl)
      callWith pos f first (backTo pos (starEach (e :: es) (LamX.lamCx X A outer s H E sc fL c').env)) (backToKw pos (keywordEach [] (LamX.lamCx X A outer s H E sc fL c').env))) := by rfl)
    (hs : starEach (e :: es) (LamX.lamCx X A outer s H E sc fL c').env = (false, eval e (LamX.lamCx X A outer s H E sc fL c').env) :: starEach es (LamX.lamCx X A outer s H E sc fL c').env := by rfl) (hpl : (backTo pos (starEach es (LamX.lamCx X A outer s H E sc fL c').env)).any (·.1) = false := by rfl) :
    PE (LamX.lamCx X A outer s H E sc fL c') (.Call (.Attribute o m apos) (e :: es) [] pos) (tMeth (cR X.K) m sp [] E ta t) :=
  pe_fm (X := LamX.lamCx X A outer s H E sc fL c') c hr he (passes_call (takes_of rfl rfl rfl rfl) fun _ _ _ _ z => z) ha hk hc hs hpl
theorem pe_freeL {p1 apos pos : Pos} {pl : Sem Bool} (C : FreeC X.prog X.w X.K X.mg X.base G L) (hr : Room j (A.deeper (LamX.lamEnv X sc s.heap.objs.size fL c'))) (ha : PA (LamX.lamCx X A outer s H E sc fL c') (e :: es) t) (hk : 7 ≤ j := by decide) (hg : Gl (LamX.lamCx X A outer s H E sc fL c') "Rules" := by rfl)
    (hc : eval (.Call (.Attribute (.Name "Rules" p1) "free" apos) (e :: es) [] pos) (LamX.lamCx X A outer s H E sc fL c').env = (do
      let ov ← eval (.Name "Rules" p1) (LamX.lamCx X A outer s H E sc fL c').env
      standAt apos.atName
      let (f, first) ← holding [ov] (getMethod ov "free" pl)
      callWith pos f first (backTo pos (starEach (e :: es) (LamX.lamCx X A outer s H E sc fL c').env)) (backToKw pos (keywordEach [] (LamX.lamCx X A outer s H E sc fL c').env))) := by rfl)
    (hs : starEach (e :: es) (LamX.lamCx X A outer s H E sc fL c').env = (false, eval e (LamX.lamCx X A outer s H E sc fL c').env) :: starEach es (LamX.lamCx X A outer s H E sc fL c').env := by rfl) (hpl : (backTo pos (starEach es (LamX.lamCx X A outer s H E sc fL c').env)).any (·.1) = false := by rfl) :
    PE (LamX.lamCx X A outer s H E sc fL c') (.Call (.Attribute (.Name "Rules" p1) "free" apos) (e :: es) [] pos) (ClX.tCMeth (cR X.K) (spFreeS X.K G L) E (tC (.ref (cR X.K))) t) :=
  pe_free (X := LamX.lamCx X A outer s H E sc fL c') C hr (passes_call (takes_of rfl rfl rfl rfl) fun _ _ _ _ z => z) ha hk hg hc hs hpl
end
/-! the cases -/
theorem Nw.backG {H H' : Hp} {D : Addr} (g : Go G L H H') (n : Nw H' D) : Nw H D := fun o h e => n o h (g.1 D o e h)
theorem Go.updNw {H H' : Hp} {D : Addr} {xs ys : List V} (g : Go G L H H') (n : Nw H D) (h : H' D = some (.lst xs)) : Go G L H (L2.upd H' D (.lst ys)) :=
  ⟨fun b o e nt => by rw [upd_ne (fun z => by subst z; exact n o nt e)]; exact g.1 b o e nt, fun t => (GoR.upd (G := G) (L := L) h).2 (g.2 t)⟩
def Case (K : PySem.W.Frag) (H : Hp) (p : Addr) (v : V) : Prop := ∃ (a : Addr) (s m : V) (part : Str) (i : Nat) (dn dc : PyData), v = .ref a ∧ (part = "names" ∨ part = "clauses") ∧ okN dn ∧ okC dc ∧ rulesBad dn dc = some (rulesE part i) ∧
  ∀ H', Ev p H H' → H' a = some (.tup [s, m, .str part, .int (i : Nat)]) ∧ Dp K H' s dn ∧ Dp K H' m dc
theorem Case.ev {H H1 : Hp} {p : Addr} {v : V} (h : Case K H p v) (e : Ev p H H1) : Case K H1 p v := by
  obtain ⟨a, s, m, part, i, dn, dc, h1, h2, h3, h4, h5, h6⟩ := h
  exact ⟨a, s, m, part, i, dn, dc, h1, h2, h3, h4, h5, fun H' e' => h6 H' (e.trans e')⟩
theorem Case.swap {H H1 : Hp} {p p' : Addr} {v : V} (h : Case K H p v) (np : H p' = none) (e : Ev p H H1) : Case K H1 p' v := by
  obtain ⟨a, s, m, part, i, dn, dc, h1, h2, h3, h4, h5, h6⟩ := h
  exact ⟨a, s, m, part, i, dn, dc, h1, h2, h3, h4, h5, fun H' e' => h6 H' fun b o nb nt eb => e' b o (ne_of_none eb np) nt (e b o nb nt eb)⟩
/-- made before the list -/
theorem Case.old {H H1 : Hp} {p a : Addr} {s m : V} {part : Str} {i : Nat} {dn dc : PyData} (np : H p = none) (e : ∀ b o, H b = some o → H1 b = some o) (ha : H a = some (.tup [s, m, .str part, .int (i : Nat)])) (hs : Dp K H s dn) (hm : Dp K H m dc) (hp : part = "names" ∨ part = "clauses") (on : okN dn) (oc : okC dc) (hb : rulesBad dn dc = some (rulesE part i)) : Case K H1 p (.ref a) :=
  ⟨a, s, m, part, i, dn, dc, rfl, hp, on, oc, hb, fun H' e' => by
    have x : LamX.ExtN H H' := fun b o eb nt => e' b o (ne_of_none eb np) nt (e b o eb)
    exact ⟨x a _ ha fun ps z => (by cases z), Dp.go x hs, Dp.go x hm⟩⟩
/-- made while the list stands -/
theorem Case.im {H : Hp} {p a : Addr} {xs : List V} {s m : V} {part : Str} {i : Nat} {dn dc : PyData} (hp : H p = some (.lst xs)) (ha : H a = some (.tup [s, m, .str part, .int (i : Nat)])) (hs : Im H s dn) (hm : ∀ H', Ev p H H' → Dp K H' m dc) (hpt : part = "names" ∨ part = "clauses") (on : okN dn) (oc : okC dc) (hb : rulesBad dn dc = some (rulesE part i)) : Case K H p (.ref a) :=
  ⟨a, s, m, part, i, dn, dc, rfl, hpt, on, oc, hb, fun H' e' => ⟨e' a _ (fun z => by subst z; rw [hp] at ha; cases ha) (fun ps z => by cases z) ha, (hs.kt (e'.kt hp)).dp, hm H' e'⟩⟩
theorem cases_app {H : Hp} {p : Addr} {xs : List V} {v : V} (hp : H p = some (.lst xs)) (hc : ∀ v ∈ xs, Case K H p v) (hv : Case K H p v) : ∀ u ∈ xs ++ [v], Case K (upd H p (.lst (xs ++ [v]))) p u := by
  have e : Ev p H (upd H p (.lst (xs ++ [v]))) := (GoR.upd (G := []) (L := []) hp).1
  intro u hu
  rcases List.mem_append.mp hu with z | z
  · exact (hc u z).ev e
  · rw [List.mem_singleton.mp z]
    exact hv.ev e
theorem dps_app {H : Hp} : ∀ {vs ws : List V} {ds es : List PyData}, DpAll K H vs ds → DpAll K H ws es → DpAll K H (vs ++ ws) (ds ++ es)
  | _, _, _, _, .nil, s => s
  | _, _, _, _, .cons h t, s => .cons h (dps_app t s)
theorem r_ifV {t : TT} {ta tb : TE} {σ : L2.St} {H : Hp} {Q : VK} (b : Bool) (v : V) (ht : ∀ R : Bool → Hp → Prop, R b H → t σ H R) (ha : b = true → ∀ R : VK, R v H → ta σ H R) (hb : b = false → ∀ R : VK, R v H → tb σ H R) (q : Q v H) : tIf t ta tb σ H Q := by
  refine ht _ ?_
  cases b
  · exact hb rfl _ q
  · exact ha rfl _ q
theorem ims_signs {H : Hp} (z : Str) : Ims H (signs z) (signsD z) := by
  have e1 : signs z = (z.cps.toList.map fun c => (⟨#[c]⟩ : Str)).map V.str := by unfold signs; rw [List.map_map]; rfl
  have e2 : signsD z = (z.cps.toList.map fun c => (⟨#[c]⟩ : Str)).map PyData.str := by unfold signsD; rw [List.map_map]; rfl
  rw [e1, e2]
  exact ims_strs _
/-- xs[:k] + (v,) + xs[k:] -/
theorem r_ins {σ : L2.St} {H : Hp} {Q : VK} {a : Addr} {xs : List V} {k : Nat} {v : V} {te tk tv : TE} (ha : Tp H a xs) (hk : k ≤ xs.length) (hl : xs.length ≤ 1000) (ie : ∀ H1 (R : VK), R (.ref a) H1 → te σ H1 R) (ik : ∀ H1 (R : VK), R (.int (k : Nat)) H1 → tk σ H1 R) (iv : ∀ H1 (R : VK), R v H1 → tv σ H1 R)
    (q : ∀ p H', (∀ b o, H b = some o → H' b = some o) → Tp H' p (xs.take k ++ [v] ++ xs.drop k) → Q (.ref p) H') : tOp (rCatA K) (tOp (rCatA K) (tSl (rSlA K) te tNoPart (tPart tk)) (tTup (tCons tv tNil))) (tSl (rSlA K) te (tPart tk) tNoPart) σ H Q := by
  refine r_op (r_op (r_sl (ie _ _ (r_nopart (r_part (ik _ _ ⟨_, rfl, r_slT ha fun p1 H1 k1 e1 => ?_⟩))))))
  rw [cut_to hk] at e1
  refine r_tup (r_cons (iv _ _ (r_nil ⟨(by show 1 ≤ sizeLine; decide), fun p2 hp2 => ?_⟩)))
  have k2 : ∀ b o, H1 b = some o → (upd H1 p2 (.tup [v])) b = some o := fun b o e => by rw [upd_ne (ne_of_none e hp2)]; exact e
  have kt2 : KT H1 (upd H1 p2 (.tup [v])) := fun b o _ _ e => k2 b o e
  refine r_catT (e1.kt kt2) (.inl upd_same) ?_ fun p3 H3 k3 e3 => ?_
  · rw [List.length_take]
    exact Nat.le_trans (show min k xs.length + 1 ≤ 1001 by omega) (by decide)
  have ka : ∀ b o, H b = some o → H3 b = some o := fun b o e => k3 b o (k2 b o (k1 b o e))
  refine r_sl (ie _ _ (r_part (ik _ _ ⟨_, rfl, r_nopart (r_slT (ha.kt fun b o _ _ e => ka b o e) fun p4 H4 k4 e4 => ?_)⟩)))
  rw [cut_from hk] at e4
  refine r_catT (e3.kt fun b o _ _ e => k4 b o e) e4 ?_ fun p5 H5 k5 e5 => q p5 H5 (fun b o e => k5 b o (k4 b o (ka b o e))) e5
  rw [List.length_append, List.length_take, List.length_drop]
  exact Nat.le_trans (show min k xs.length + 1 + (xs.length - k) ≤ 1001 by omega) (by decide)
theorem keep_new {H : Hp} {p : Addr} {o : HO} (hp : H p = none) : ∀ b ob, H b = some ob → upd H p o b = some ob := fun b ob e => by rw [upd_ne (ne_of_none e hp)]; exact e
theorem new_facts {H H' : Hp} {p : Addr} {o : HO} (h : upd H p o = H') (hp : H p = none) : (∀ b ob, H b = some ob → H' b = some ob) ∧ H' p = some o := by
  subst h
  exact ⟨keep_new hp, upd_same⟩
theorem forTg {σ : L2.St} {H : Hp} {D : Ends} {te : TE} {g : TG} {tb : TS} (good : Addr → Hp → Prop) (he : ∀ R : VK, (∀ a H0, good a H0 → R (.ref a) H0) → te σ H R)
    (body : ∀ a H0, good a H0 → ∃ xs, SqT K H0 a xs ∧ ∃ Pv : Nat → L2.St → Hp → Prop, Pv 0 σ H0 ∧ (∀ i σ H, i ≤ xs.length → Pv i σ H → SqT K H a xs) ∧
      (∀ i x σ H, xs[i]? = some x → Pv i σ H → g x σ H fun σ2 H2 => tb { D with nx := Pv (i + 1), ct := Pv (i + 1), bk := D.nx } σ2 H2) ∧ (∀ σ H, Pv xs.length σ H → D.nx σ H)) : tFor (iTup K te) g tb D σ H := by
  refine he _ fun a H0 hg => ?_
  obtain ⟨xs, hq, Pv, h0, hG, hs, hd⟩ := body a H0 hg
  have z := forT (σ := σ) (te := fun _ _ R => R (.ref a) H0) (H := H0) (D := D) (g := g) (tb := tb) (fun _ z => z) hq Pv h0 hG hs hd
  exact z
theorem forLg {σ : L2.St} {H : Hp} {D : Ends} {te : TE} {g : TG} {tb : TS} (good : Addr → Hp → Prop) (he : ∀ R : VK, (∀ a H0, good a H0 → R (.ref a) H0) → te σ H R)
    (body : ∀ a H0, good a H0 → ∃ xs, SqL K H0 a xs ∧ ∃ Pv : Nat → L2.St → Hp → Prop, Pv 0 σ H0 ∧ (∀ i σ H, i ≤ xs.length → Pv i σ H → SqL K H a xs) ∧
      (∀ i x σ H, xs[i]? = some x → Pv i σ H → g x σ H fun σ2 H2 => tb { D with nx := Pv (i + 1), ct := Pv (i + 1), bk := D.nx } σ2 H2) ∧ (∀ σ H, Pv xs.length σ H → D.nx σ H)) : tFor (iList K te) g tb D σ H := by
  refine he _ fun a H0 hg => ?_
  obtain ⟨xs, hq, Pv, h0, hG, hs, hd⟩ := body a H0 hg
  have z := forL (σ := σ) (te := fun _ _ R => R (.ref a) H0) (H := H0) (D := D) (g := g) (tb := tb) (fun _ z => z) hq Pv h0 hG hs hd
  exact z
abbrev Kp (H H' : Hp) : Prop := ∀ b ob, H b = some ob → H' b = some ob
theorem kp_t {H H1 H2 : Hp} (a : Kp H H1) (b : Kp H1 H2) : Kp H H2 := fun c o e => b c o (a c o e)
theorem kp_kt {H H' : Hp} (a : Kp H H') : KT H H' := fun b o _ _ e => a b o e
theorem kp_ev {H H' : Hp} {r : Addr} (a : Kp H H') : Ev r H H' := fun b o _ _ e => a b o e
/-- where the wrong name goes -/
def atOf (d : PyData) (k : Nat) : Nat := if PyData.eqv d (.str "q") = true then (if 1 > k then 1 else k) else k
theorem atOf_ok {c k : Nat} {d : PyData} (h1 : 1 ≤ c) (h9 : c ≤ 9) (hk : k ≤ c) (hd : d ∈ bad8 ++ [.str "q"]) : atOf d k ≤ c ∧ namesBad (.tuple (insD (nmD c) (atOf d k) d)) = some (atOf d k) ∧ okNb (insD (nmD c) (atOf d k) d) = true := by
  rcases List.mem_append.mp hd with z | z
  · have e : atOf d k = k := by
      unfold atOf
      rw [bad8_q d z]
      rfl
    rw [e]
    obtain ⟨a, b⟩ := bad8_at c (by omega) h1 k (by omega) d z
    exact ⟨hk, a, b⟩
  · rw [List.mem_singleton.mp z]
    have e : atOf (.str "q") k = if 1 > k then 1 else k := by
      unfold atOf
      rw [if_pos (by decide)]
    rw [e]
    have hk2 : (if 1 > k then 1 else k) ≤ c := by split <;> omega
    have hk3 : 1 ≤ (if 1 > k then 1 else k) := by split <;> omega
    obtain ⟨a, b⟩ := badq_at c (by omega) h1 _ (by omega) hk3
    exact ⟨hk2, a, b⟩
theorem r_un {r : V → Hp → VK → Prop} {ta : TE} {σ : L2.St} {H : Hp} {Q : VK} (h : ta σ H fun x H1 => r x H1 Q) : tUn r ta σ H Q := h
theorem g_four {σ : L2.St} {H : Hp} {T : Addr} {x y z u : V} {i j k l : Nat} {Q : L2.St → Hp → Prop} (h : SqT K H T [x, y, z, u]) (q : Q ((((σ.set i (some x)).set j (some y)).set k (some z)).set l (some u)) H) : gTup K 4 (gCons (gName i) (gCons (gName j) (gCons (gName k) (gCons (gName l) gNil)))) (.ref T) σ H Q :=
  ⟨T, _, rfl, h, rfl, _, _, rfl, _, _, rfl, _, _, rfl, _, _, rfl, rfl, q⟩
def lastN (c : Nat) : Str := (nameL.take c).getD (c - 1) "q"
theorem at_lastN {c : Nat} (h1 : 1 ≤ c) (h9 : c ≤ 9) : atI ((nameL.take c).map V.str) (-1) = some (.str (lastN c)) := by
  obtain ⟨_, _, _, nlen, _⟩ := nm_bad c (by omega) h1
  unfold atI ixN
  rw [List.length_map, nlen, if_neg (by omega), if_pos (by omega)]
  have e : ((-1 + (c : Nat) : Int)).toNat = c - 1 := by omega
  rw [e]
  show ((nameL.take c).map V.str)[c - 1]? = _
  have hl : c - 1 < (nameL.take c).length := by omega
  rw [List.getElem?_map, List.getElem?_eq_getElem hl]
  unfold lastN
  rw [List.getD_eq_getElem?_getD, List.getElem?_eq_getElem hl]
  rfl
theorem ims_rep {H : Hp} {v : V} {d : PyData} (h : Im H v d) : ∀ n : Nat, Ims H ((List.replicate n [v]).flatten) (List.replicate n d)
  | 0 => .nil
  | n + 1 => .cons h (ims_rep h n)
theorem r_rep {H : Hp} {Q : VK} {a : Addr} {v : V} {n : Nat} (h : H a = some (.tup [v])) (h2 : 2 ≤ n) (h3 : n ≤ 1000) (q : ∀ p H', (∀ b o, H b = some o → H' b = some o) → H' p = some (.tup ((List.replicate n [v]).flatten)) → Q (.ref p) H') : rRepT K (.ref a) (.int (n : Nat)) H Q :=
  ⟨a, n, [v], rfl, rfl, .of h, by simp, by omega, by omega, by show 1 ≤ 1000; decide, fun p hp => q p _ (keep_new hp) (by rw [upd_same]; rfl)⟩
/-- Rules(..) that is made -/
theorem mk_rulesR {H1 : Hp} {nv cv : V} {dn dc : PyData} {E : XK} {Qx : Addr → Hp → Prop} (hn : Dp K H1 nv dn) (hc : Dp K H1 cv dc) (on : okN dn) (oc : okC dc) (ht : TBS G L H1) (hb : rulesBad dn dc = none) (q : ∀ x dx H', Go G L H1 H' → H' x = some (.ins (cR K) dx (rfs nv cv)) → Qx x H') :
    ∀ x dx, H1 x = none → H1 dx = none → dx ≠ x → spInit K G L (.ref x :: ([nv, cv] ++ [])) (upd (upd H1 dx (.own x)) x (.ins (cR K) dx [])) (fun v H2 => v = .non ∧ Qx x H2) E :=
  mk_rules (Q := fun v H2 => match v with | .ref x => Qx x H2 | _ => False) ⟨nv, cv, dn, dc, rfl, hn, hc, on, oc, ht, fun D hD => (by rw [hb] at hD; cases hD), fun _ x dx H' g h => q x dx H' g h⟩
theorem lv_rules {part : Str} {i : Nat} (h : PyData.strOk part = true) : lv 8 (rulesE part i) = true := lv_tup (n := 7) fun x hx => by
  have hx' : x = .str "rules" ∨ x = .str part ∨ x = .int (i : Nat) := by simpa using hx
  rcases hx' with rfl | rfl | rfl
  · decide +kernel
  · exact h
  · rfl
/-- Rules(..) that is refused -/
theorem mk_rulesX {H1 : Hp} {nv cv : V} {dn dc D : PyData} {E : XK} {Qn : Hp → Prop} (hn : Dp K H1 nv dn) (hc : Dp K H1 cv dc) (on : okN dn) (oc : okC dc) (ht : TBS G L H1) (hb : rulesBad dn dc = some D) (qE : ∀ cls dd H', Go G L H1 H' → Told K cls dd H' D → E cls dd H') :
    ∀ x dx, H1 x = none → H1 dx = none → dx ≠ x → spInit K G L (.ref x :: ([nv, cv] ++ [])) (upd (upd H1 dx (.own x)) x (.ins (cR K) dx [])) (fun v H2 => v = .non ∧ Qn H2) E :=
  mk_rules (Q := fun _ H2 => Qn H2) ⟨nv, cv, dn, dc, rfl, hn, hc, on, oc, ht, fun D' hD cls dd H' g t => by
    have e : D' = D := Option.some.inj (hD.symm.trans hb)
    subst e
    exact qE cls dd H' g t, fun h => by rw [hb] at h; cases h⟩
def spAreRules (K : PySem.W.Frag) (G : List Addr) (L : List (Addr × Str)) : Sp := fun vs H Q _ => ∃ (r : Rid) (an : Addr) (cv : V) (c : Nat) (cd : List PyData), vs = [.ref r.r, .ref an, cv] ∧ Row K H r ∧ 1 ≤ c ∧ c ≤ 9 ∧ NT H an ((nameL.take c).map V.str) ∧ (∀ d ∈ cd, ClD (nameL.take c) d) ∧ cd.length ≤ 40 ∧ Im H cv (.tuple cd) ∧ TBS G L H ∧
  ∀ H', GoR G L r.r H H' → Row K H' r → Q (.bl true) H'
abbrev nAreRules : List Str := ["_law_row", "_law_names", "_law_clauses", "_law_k", "_law_j", "_law_cases", "_law_bad", "_law_at", "_law_bads", "_law_part", "_law_index", "_law_full", "_law_good", "_law_more", "_law_some"]
theorem scAreRules : FnScope nAreRules ["_law_row", "_law_names", "_law_clauses"] (defScope sAreRules) := C8.fnScope_by (by decide +kernel)
def cMax : List V → Hp → VK → Prop := fun xs H Q => ∃ i j, xs = [.int i, .int j] ∧ Q (.int (if j > i then j else i)) H
theorem c_max {X : Cx} (hc : X.calm = true) : CallR X (.builtin "max") cMax := call_max2 hc
theorem ok_areRules {f c Pn : Addr} {fd : FuncData} (F : Fun K "_law_are_rules" "_law_are_rules" sAreRules f fd) (hc : fd.code = .ref c) (TB : LamX.TabB base mg c Pn) (hL : (Pn, lamQ "_law_are_rules") ∈ L) (AP : Apart G L) (zL : mg "len" = none) (zl : mg "list" = none) (zX : mg "max" = none) (zT : mg "tuple" = none)
    (TK : Fd CX0 P w K mg base "_law_taken" 1 (spTaken K G L)) (RZ : RzD K mg) (M : Mkr P w K mg base G L) (W : Fm P w K mg base "with_clause" 6 (spWith K G L)) (FC : FreeC P w K mg base G L) : FnOk P w K mg base CX0 11 f fd ["_law_row", "_law_names", "_law_clauses"] (spAreRules K G L) := by
  obtain ⟨oc, od, kV, doc, pm, an, cdv, ct, osl, efd, lk, hcd⟩ := F.ex
  subst efd
  have ec : cdv = .ref c := hc
  subst ec
  refine fn_of lk hcd scAreRules (fun vs H Q E h => ?_) (fun A outer s H vs Q E hr h => ?_)
  · obtain ⟨r, an, cv, c, cd, e, _⟩ := h
    rw [e]
    rfl
  · obtain ⟨r, an, cv, c, cd, e, hR, h1, h9, hn, hcl, hl40, hcv, ht, q⟩ := h
    subst e
    refine ⟨_, PSs.nox (pss_cons (ps_par (i := 3) (j := 4) rfl scAreRules.nd rfl rfl (by decide) rfl rfl (pa_cons (pe_fd (E := E0) TK hr pass0 (pa_cons (pv 0) (pa_cons (pe_op op_add (pe_callB c_len rfl zL boot_len (pa_cons (pv 1) pa_nil)) pe_int) pa_nil))) (pa_cons (pe_fd (E := E0) TK hr pass0 (pa_cons (pv 0) (pa_cons (pe_op op_add (pe_callB c_len rfl zL boot_len (pa_cons (pv 2) pa_nil)) pe_int) pa_nil))) pa_nil)) rfl)
      (pss_cons (ps_set (i := 5) scAreRules.nd rfl (Or.inl rfl) (pe_lst (pa_cons (pe_tup (pa_cons pe_non (pa_cons (pe_tup pa_nil) (pa_cons pe_str (pa_cons pe_int pa_nil)))))
          (pa_cons (pe_tup (pa_cons (pe_tup pa_nil) (pa_cons (pe_tup pa_nil) (pa_cons pe_str (pa_cons pe_int pa_nil)))))
          (pa_cons (pe_tup (pa_cons (pe_callTy c_list rfl zl (by decide +kernel) (pa_cons (pv 1) pa_nil)) (pa_cons (pe_tup pa_nil) (pa_cons pe_str (pa_cons pe_int pa_nil))))) pa_nil)))))
      (pss_cons (ps_for PassesOwn.never rfl (pi_tup (pe_tup (pa_cons pe_str (pa_cons pe_str (pa_cons pe_str (pa_cons pe_str (pa_cons pe_non (pa_cons pe_int (pa_cons pe_bl (pa_cons (pe_tup (pa_cons pe_str pa_nil)) (pa_cons (pe_ix ix_tup (pv 1) pe_int (fun _ _ => rfl)) pa_nil))))))))))) (pg_name (i := 6) scAreRules.nd rfl (.inl rfl))
          (pss_cons (ps_set (i := 7) scAreRules.nd rfl (Or.inl rfl) (pe_ifExp (pt_cmpR (op_eqD (u64 hr)) (pv 6) (pe_ix ix_tup (pv 1) pe_int (fun _ _ => rfl)) rfl) (pe_callB (c_max rfl) rfl zX boot_max (pa_cons (pv 3) (pa_cons pe_int pa_nil))) (pv 3)))
          (pss_one (ps_expr (pe_bm PySem.F.plainAttrs_list PySem.F.slot_list_append PySem.F.type_list_append mt_append (pv 5) (pa_cons (pe_tup (pa_cons (pe_op op_catA (pe_op op_catA (pe_slice sl_tupA (pv 1) po_none (po_some (pv 7))) (pe_tup (pa_cons (pv 6) pa_nil))) (pe_slice sl_tupA (pv 1) (po_some (pv 7)) po_none)) (pa_cons pe_int (pa_cons pe_str (pa_cons (pv 7) pa_nil))))) pa_nil))))))
      (pss_cons (ps_expr (pe_bm PySem.F.plainAttrs_list PySem.F.slot_list_append PySem.F.type_list_append mt_append (pv 5) (pa_cons (pe_tup (pa_cons (pe_callTy (c_tupS rfl) rfl zT (by decide +kernel) (pa_cons pe_str pa_nil)) (pa_cons pe_int (pa_cons pe_str (pa_cons pe_int pa_nil))))) pa_nil)))
      (pss_cons (ps_set (i := 5) scAreRules.nd rfl (Or.inl rfl) (pe_op op_cat (pv 5) (pe_lst (pa_cons (pe_tup (pa_cons (pv 1) (pa_cons pe_non (pa_cons pe_str (pa_cons pe_int pa_nil))))) (pa_cons (pe_tup (pa_cons (pv 1) (pa_cons (pe_callTy c_list rfl zl (by decide +kernel) (pa_cons (pv 2) pa_nil)) (pa_cons pe_str (pa_cons pe_int pa_nil))))) pa_nil)))))
      (pss_cons (ps_set (i := 12) scAreRules.nd rfl (Or.inr rfl) (pe_tup (pa_cons pe_str (pa_cons (pe_ix ix_tup (pv 1) pe_int (fun _ _ => rfl)) (pa_cons (pe_ix ix_tup (pv 1) (pe_un un_neg pe_int) (fun _ _ => rfl)) pa_nil)))))
      (pss_cons (ps_set (i := 8) scAreRules.nd rfl (Or.inl rfl) (pe_lst (pa_cons (pe_slice sl_tupA (pv 12) po_none (po_some pe_int)) (pa_cons (pe_op op_catA (pv 12) (pe_tup (pa_cons pe_str pa_nil))) (pa_cons (pe_callTy c_list rfl zl (by decide +kernel) (pa_cons (pv 12) pa_nil))
          (pa_cons (pe_op op_catA (pe_tup (pa_cons pe_str pa_nil)) (pe_slice sl_tupA (pv 12) (po_some pe_int) po_none)) (pa_cons (pe_tup (pa_cons pe_str (pa_cons (pe_ix ix_tup (pv 1) pe_int (fun _ _ => rfl)) (pa_cons pe_str pa_nil)))) (pa_cons pe_non (pa_cons pe_int pa_nil)))))))))
      (pss_cons (ps_for PassesOwn.never rfl (pi_list (pe_op op_cat (pv 8) (pe_lst (pa_cons pe_str pa_nil)))) (pg_name (i := 6) scAreRules.nd rfl (.inl rfl))
          (pss_one (ps_expr (pe_bm PySem.F.plainAttrs_list PySem.F.slot_list_append PySem.F.type_list_append mt_append (pv 5) (pa_cons (pe_tup (pa_cons (pv 1) (pa_cons (pe_op op_catA (pe_op op_catA (pe_slice sl_tupA (pv 2) po_none (po_some (pv 4))) (pe_tup (pa_cons (pv 6) pa_nil))) (pe_slice sl_tupA (pv 2) (po_some (pv 4)) po_none)) (pa_cons pe_str (pa_cons (pv 4) pa_nil))))) pa_nil)))))
      (pss_cons (ps_expr (pe_bm PySem.F.plainAttrs_list PySem.F.slot_list_append PySem.F.type_list_append mt_append (pv 5) (pa_cons (pe_tup (pa_cons (pv 1) (pa_cons (pe_op op_repT (pe_tup (pa_cons (pv 12) pa_nil)) pe_int) (pa_cons pe_str (pa_cons pe_int pa_nil))))) pa_nil)))
      (pss_cons (ps_for PassesOwn.never rfl (pi_list (pv 5)) (pg_tup rfl (pgs_cons (pg_name (i := 14) scAreRules.nd rfl (.inr rfl)) (pgs_cons (pg_name (i := 13) scAreRules.nd rfl (.inr rfl)) (pgs_cons (pg_name (i := 9) scAreRules.nd rfl (.inl rfl)) (pgs_cons (pg_name (i := 10) scAreRules.nd rfl (.inl rfl)) pgs_nil)))))
          (pss_one (ps_if (pt_cmpR (op_neD (u64 hr)) (pe_raised (G := G) (L := L) (k := 5) RZ TB rfl hr (LamX.lamS_by (sc := defScope sAreRules) (by decide +kernel)) (fun A outer s H E f c' hr2 => pe_rulesL M hr2 (pa_cons (pv 14) (pa_cons (pv 13) pa_nil)))) (pe_tup (pa_cons pe_str (pa_cons (pv 9) (pa_cons (pv 10) pa_nil)))) rfl)
            (pss_one (ps_ret pe_bl)) pss_nil)))
      (pss_cons (ps_set (i := 11) scAreRules.nd rfl (Or.inr rfl) (pe_rules (E := E0) M hr passN (pa_cons (pv 1) (pa_cons (pe_op op_repT (pe_tup (pa_cons (pv 12) pa_nil)) pe_int) pa_nil))))
      (pss_cons (ps_if (pt_cmpR (op_neD (u64 hr)) (pe_raised (G := G) (L := L) (k := 6) RZ TB rfl hr (LamX.lamS_by (sc := defScope sAreRules) (by decide +kernel)) (fun A outer s H E f c' hr2 => pe_fmL W hr2 (pv 11) (pa_cons (pv 12) pa_nil))) (pe_tup (pa_cons pe_str (pa_cons pe_str (pa_cons pe_int pa_nil)))) rfl)
          (pss_one (ps_ret pe_bl)) pss_nil)
      (pss_one (ps_ret (pe_cmpR (op_eqD (u64 hr)) (pe_raised (G := G) (L := L) (k := 7) RZ TB rfl hr (LamX.lamS_by (sc := defScope sAreRules) (by decide +kernel)) (fun A outer s H E f c' hr2 => pe_freeL FC hr2 (pa_cons pe_str (pa_cons pe_str pa_nil)))) (pe_tup (pa_cons pe_str (pa_cons pe_str (pa_cons pe_int pa_nil)))) rfl))))))))))))))), ?_⟩
    cases hcv with
    | @tup ac xs0 _ hac hxs0 =>
    have okR := nm_okR h1 h9 hcl hl40
    obtain ⟨nb, okb, nms, nlen, nq, nono⟩ := nm_bad c (by omega) h1
    refine r_seq (r_par ?_)
    repeat walk_at "rd"
    refine r_lenT hn.seq ?_
    rw [List.length_map, nlen]
    repeat walk_at "rd"
    rw [show ((c : Nat) : Int) + 1 = ((c + 1 : Nat) : Int) from rfl]
    refine r_taken hR (by omega) (by omega) fun k H1 hk g1 hR1 => ?_
    have kt1 := hR.kt g1
    repeat walk_at "rd"
    refine r_lenT (hac.kt kt1).seq ?_
    rw [hxs0.length]
    repeat walk_at "rd"
    rw [show ((cd.length : Nat) : Int) + 1 = ((cd.length + 1 : Nat) : Int) from rfl]
    refine r_taken hR1 (by omega) (by omega) fun j H2 hj g2 hR2 => ?_
    have kt2 := kt1.trans (hR1.kt g2)
    have g02 := g1.trans g2
    repeat walk_at "rd"
    refine r_two ?_
    have hn2 := hn.kt kt2
    have hac2 := hac.kt kt2
    have hxs2 := hxs0.kt kt2
    have ht2 := g02.2 ht
    clear kt1 kt2 hn hac hxs0 ht g1 g2 hR1
    have hk' : k ≤ c := by omega
    have hj' : j ≤ cd.length := by omega
    -- the first cases
    repeat walk_at "rd"
    refine ⟨Nat.zero_le _, fun t1 ht1 => ?_⟩
    generalize hH : upd H2 t1 _ = H3; obtain ⟨k3, e1⟩ := new_facts hH ht1; clear hH
    repeat walk_at "rd"
    refine ⟨(by show 4 ≤ sizeLine; decide), fun a1 ha1 => ?_⟩
    generalize hH : upd H3 a1 _ = H4; obtain ⟨k4, e2⟩ := new_facts hH ha1; clear hH
    repeat walk_at "rd"
    refine ⟨Nat.zero_le _, fun t2 ht2' => ?_⟩
    generalize hH : upd H4 t2 _ = H5; obtain ⟨k5, e3⟩ := new_facts hH ht2'; clear hH
    repeat walk_at "rd"
    refine ⟨Nat.zero_le _, fun t3 ht3 => ?_⟩
    generalize hH : upd H5 t3 _ = H6; obtain ⟨k6, e4⟩ := new_facts hH ht3; clear hH
    repeat walk_at "rd"
    refine ⟨(by show 4 ≤ sizeLine; decide), fun a2 ha2 => ?_⟩
    generalize hH : upd H6 a2 _ = H7; obtain ⟨k7, e5⟩ := new_facts hH ha2; clear hH
    repeat walk_at "rd"
    have kq1 : Kp H2 H7 := kp_t k3 (kp_t k4 (kp_t k5 (kp_t k6 k7)))
    refine r_listT (hn2.kt (kp_kt kq1)).seq fun l1 hl1 => ?_
    generalize hH : upd H7 l1 _ = H8; obtain ⟨k8, e6⟩ := new_facts hH hl1; clear hH
    repeat walk_at "rd"
    refine ⟨Nat.zero_le _, fun t4 ht4 => ?_⟩
    generalize hH : upd H8 t4 _ = H9; obtain ⟨k9, e7⟩ := new_facts hH ht4; clear hH
    repeat walk_at "rd"
    refine ⟨(by show 4 ≤ sizeLine; decide), fun a3 ha3 => ?_⟩
    generalize hH : upd H9 a3 _ = H10; obtain ⟨k10, e8⟩ := new_facts hH ha3; clear hH
    repeat walk_at "rd"
    refine ⟨(by show 3 ≤ sizeLine; decide), fun p hp => ?_⟩
    generalize hH : upd H10 p _ = H11; obtain ⟨k11, e9⟩ := new_facts hH hp; clear hH
    have kq2 : Kp H2 H10 := kp_t kq1 (kp_t k8 (kp_t k9 k10))
    have np2 : H2 p = none := by
      cases hz : H2 p with
      | none => rfl
      | some o => rw [kq2 p o hz] at hp; cases hp
    have oc0 : okC (.tuple []) := ⟨rfl, fun ds e => by cases e; exact Nat.zero_le _⟩
    have cs11 : ∀ v ∈ [V.ref a1, .ref a2, .ref a3], Case K H11 p v := by
      have k47 : Kp H4 H10 := kp_t k5 (kp_t k6 (kp_t k7 (kp_t k8 (kp_t k9 k10))))
      have k710 : Kp H7 H10 := kp_t k8 (kp_t k9 k10)
      have k37 : Kp H3 H10 := kp_t k4 k47
      have k57 : Kp H5 H10 := kp_t k6 (kp_t k7 k710)
      have k67 : Kp H6 H10 := kp_t k7 k710
      intro v hv
      have hv' : v = .ref a1 ∨ v = .ref a2 ∨ v = .ref a3 := by simpa using hv
      rcases hv' with rfl | rfl | rfl
      · exact Case.old (i := 0) (dn := .none) (dc := .tuple []) hp k11 (k47 a1 _ e2) .non (.tup (.of (k37 t1 _ e1)) .nil) (.inl rfl) ⟨rfl, fun ds e => by cases e⟩ oc0 rfl
      · exact Case.old (i := 0) (dn := .tuple []) (dc := .tuple []) hp k11 (k710 a2 _ e5) (.tup (.of (k57 t2 _ e3)) .nil) (.tup (.of (k67 t3 _ e4)) .nil) (.inl rfl) (okN_of (by decide)) oc0 rfl
      · exact Case.old (i := 0) (dn := .list (nmD c)) (dc := .tuple []) hp k11 e8 (.lst (.of (k10 _ _ (k9 _ _ e6))) (dps_strs (nameL.take c))) (.tup (.of (k10 _ _ e7)) .nil) (.inl rfl) ⟨lv_lst (lv_mem okR.on.1), fun ds e => by cases e⟩ oc0 rfl
    have g11 : Go G L H2 H11 := Go.same (kp_t kq2 k11)
    clear e1 e2 e3 e4 e5 e6 e7 e8 k3 k4 k5 k6 k7 k8 k9 k10 k11 ht1 ha1 ht2' ht3 ha2 hl1 ht4 ha3 kq1 kq2 hp
    repeat walk_at "rd"
    have n0 : atI ((nameL.take c).map V.str) 0 = some (.str "q") := atI_nat (j := 0) (by rw [List.getElem?_map, nq]; rfl)
    have pr : p ≠ r.r := by
      obtain ⟨zs, z⟩ := hR2.lst
      exact (ne_of_none z np2).symm
    refine forTg (fun a H0 => ∃ t5, Kp H11 H0 ∧ H0 a = some (.tup [.str "", .str "A", .str "a1", .str "abcdefghi", .non, .int 5, .bl true, .ref t5, .str "q"]) ∧ H0 t5 = some (.tup [.str "a"])) (fun R z => ?_) (fun a9 H0 hg => ?_)
    · repeat walk_at "rd"
      refine ⟨(by show 1 ≤ sizeLine; decide), fun t5 ht5 => ?_⟩
      generalize hH : upd H11 t5 _ = H12; obtain ⟨k12, e12⟩ := new_facts hH ht5; clear hH
      repeat walk_at "rd"
      refine r_ixT ((hn2.kt g11.kt).kt (kp_kt k12)).seq n0 ?_
      repeat walk_at "rd"
      refine ⟨(by show 9 ≤ sizeLine; decide), fun a9 ha9 => ?_⟩
      generalize hH : upd H12 a9 _ = H13; obtain ⟨k13, e13⟩ := new_facts hH ha9; clear hH
      exact z a9 H13 ⟨t5, kp_t k12 k13, e13, k13 _ _ e12⟩
    · obtain ⟨t5, k0, ea9, et5⟩ := hg
      refine ⟨_, .of ea9, fun i σ H' => ∃ (x6 x7 : Option V) (xs : List V), σ = [some (.ref r.r), some (.ref an), some (.ref ac), some (.int (k : Nat)), some (.int (j : Nat)), some (.ref p), x6, x7, none, none, none, none, none, none, none] ∧ Go G L H2 H' ∧ KT H0 H' ∧ H' p = some (.lst xs) ∧ (∀ v ∈ xs, Case K H' p v) ∧ xs.length ≤ 3 + i, ?_, ?_, ?_, ?_⟩
      · exact ⟨none, none, _, rfl, g11.trans (Go.same k0), KT.refl H0, k0 _ _ e9, fun v hv => (cs11 v hv).ev (kp_ev k0), Nat.le_refl _⟩
      · rintro i σ H' _ ⟨_, _, _, _, _, kt, _⟩
        exact (Tp.kt (.inl ea9) kt).seq
      · rintro i x σ H' hx ⟨x6, x7, xs, rfl, g, kt, ep, cs, hlx⟩
        have him : Ims H0 [V.str "", .str "A", .str "a1", .str "abcdefghi", .non, .int 5, .bl true, .ref t5, .str "q"] (bad8 ++ [.str "q"]) :=
          .cons (.str _) (.cons (.str _) (.cons (.str _) (.cons (.str _) (.cons .non (.cons (.int _) (.cons (.bl _) (.cons (.tup (.inl et5) (.cons (.str _) .nil)) (.cons (.str _) .nil))))))))
        obtain ⟨d, hd, hxd⟩ := him.get hx
        have hxd := hxd.kt kt
        obtain ⟨hat, hbad, hok⟩ := atOf_ok h1 h9 hk' (List.mem_of_getElem? hd)
        have lvd : lv 8 d = true := by
          have key : ∀ d ∈ bad8 ++ [.str "q"], lv 8 d = true := by decide +kernel
          exact key d (List.mem_of_getElem? hd)
        have hi9 : i < 9 := (List.getElem?_eq_some_iff.mp hx).1
        have hnH := hn2.kt g.kt
        refine r_gN ?_
        dsimp only
        refine r_seq (r_asgE (x := .int ((atOf d k : Nat) : Int)) (fun R z => ?_) (r_gN ?_))
        · refine r_ifE ?_
          repeat walk_at "rd"
          refine r_ixT hnH.seq n0 ?_
          repeat walk_at "rd"
          refine r_eqD hxd.dp (.str "q") lvd (by decide +kernel) ?_
          repeat walk_at "rd"
          refine r_if (fun cc => ?_) (fun cc => ?_)
          · repeat walk_at "rd"
            refine ⟨_, _, rfl, ?_⟩
            have e : (if (1 : Int) > (k : Nat) then (1 : Int) else (k : Nat)) = ((atOf d k : Nat) : Int) := by
              unfold atOf
              rw [if_pos cc]
              by_cases hh : 1 > k
              · rw [if_pos hh, if_pos (by omega)]
                rfl
              · rw [if_neg hh, if_neg (by omega)]
            rw [e]
            exact z
          · repeat walk_at "rd"
            have e : atOf d k = k := by
              unfold atOf
              rw [cc]
              rfl
            rw [e] at z
            exact z
        · dsimp only
          refine r_drop (r_bmL (fun R z => r_var (v := .ref p) rfl z) ep (r_cons (r_tup (r_cons ?_))))
          refine r_ins hnH.tp (k := atOf d k) (v := x) (by rw [List.length_map, nlen]; exact hat) (by rw [List.length_map, nlen]; omega) (fun H1 R z => r_var (v := .ref an) rfl z) (fun H1 R z => r_var rfl z) (fun H1 R z => r_var rfl z) fun p5 H5 k5 e5 => ?_
          repeat walk_at "rd"
          refine ⟨(by show 4 ≤ sizeLine; decide), fun a6 ha6 => ?_⟩
          generalize hH : upd H5 a6 _ = H6; obtain ⟨k6, e6⟩ := new_facts hH ha6; clear hH
          repeat walk_at "rd"
          have k56 := kp_t k5 k6
          have ep6 := k56 _ _ ep
          refine r_append ep6 (by omega) ?_
          have g6 : Go G L H2 H6 := g.trans (Go.same k56)
          have ims5 : Ims H6 (((nameL.take c).map V.str).take (atOf d k) ++ [x] ++ ((nameL.take c).map V.str).drop (atOf d k)) (insD (nmD c) (atOf d k) d) :=
            ((((ims_strs (nameL.take c)).take _).app (.cons (hxd.kt (kp_kt k56)) .nil)).app ((ims_strs (nameL.take c)).drop _))
          refine ⟨_, _, _, rfl, g6.updNew np2 ep6, kt.trans ((kp_kt k56).trans ((GoR.upd (G := G) (L := L) ep6).kt ep6)), upd_same, cases_app ep6 (fun v hv => (cs v hv).ev (kp_ev k56)) (Case.im (part := "names") (i := atOf d k) (dc := .int 5) ep6 e6 (.tup (e5.kt (kp_kt k6)) ims5) (fun _ _ => .int 5) (.inl rfl) (okN_of hok) ⟨rfl, fun ds e => by cases e⟩ (rb_names hbad)), ?_⟩
          rw [List.length_append]
          show xs.length + 1 ≤ 3 + (i + 1)
          omega
      · rintro σ H' ⟨x6, x7, xs, rfl, g, kt, ep, cs, hlx⟩
        have hlx12 : xs.length ≤ 12 := hlx
        clear hlx kt
        repeat walk_at "rd"
        refine ⟨.inl ⟨rfl, _, SqL.of ep⟩, ?_⟩
        repeat walk_at "rd"
        refine ⟨_, rfl, by decide +kernel, fun t1 ht1 => ?_⟩
        generalize hH : upd H' t1 _ = Ha; obtain ⟨ka, ea⟩ := new_facts hH ht1; clear hH
        repeat walk_at "rd"
        refine ⟨(by show 4 ≤ sizeLine; decide), fun a1 ha1 => ?_⟩
        generalize hH : upd Ha a1 _ = Hb; obtain ⟨kb, eb⟩ := new_facts hH ha1; clear hH
        repeat walk_at "rd"
        have kab := kp_t ka kb
        have epb := kab _ _ ep
        refine r_append epb (by omega) ?_
        have gb := g.trans (Go.same (G := G) (L := L) kab)
        have gc : Go G L H2 (upd Hb p (.lst (xs ++ [.ref a1]))) := gb.updNew np2 epb
        have epc : (upd Hb p (.lst (xs ++ [.ref a1]))) p = some (.lst (xs ++ [.ref a1])) := upd_same
        have csc := cases_app epb (fun v hv => (cs v hv).ev (kp_ev kab)) (Case.im (part := "names") (i := 10) (dc := .int 5) epb eb (.tup (.inl (kb _ _ ea)) (ims_signs "abcdefghijk")) (fun _ _ => .int 5) (.inl rfl) (okN_of long_at.2) ⟨rfl, fun ds e => by cases e⟩ (rb_names long_at.1))
        generalize upd Hb p (.lst (xs ++ [.ref a1])) = Hc at gc epc csc ⊢
        clear ep cs g ka ea kb eb kab epb gb ht1 ha1
        have hl13 : (xs ++ [V.ref a1]).length ≤ 13 := by rw [List.length_append]; show xs.length + 1 ≤ 13; omega
        generalize xs ++ [V.ref a1] = xs at epc csc hl13
        -- cases + [..]
        repeat walk_at "rd"
        refine ⟨(by show 4 ≤ sizeLine; decide), fun b1 hb1 => ?_⟩
        generalize hH : upd Hc b1 _ = Hd; obtain ⟨kd, ed⟩ := new_facts hH hb1; clear hH
        repeat walk_at "rd"
        have kcd : Kp Hc Hd := kd
        refine r_listT ((hac2.kt gc.kt).kt (kp_kt kcd)).seq fun l2 hl2 => ?_
        generalize hH : upd Hd l2 _ = He; obtain ⟨ke, ee⟩ := new_facts hH hl2; clear hH
        repeat walk_at "rd"
        refine ⟨(by show 4 ≤ sizeLine; decide), fun b2 hb2 => ?_⟩
        generalize hH : upd He b2 _ = Hf; obtain ⟨kf, ef⟩ := new_facts hH hb2; clear hH
        repeat walk_at "rd"
        refine ⟨(by show 2 ≤ sizeLine; decide), fun l3 hl3 => ?_⟩
        generalize hH : upd Hf l3 _ = Hg; obtain ⟨kg, eg⟩ := new_facts hH hl3; clear hH
        have kcg : Kp Hc Hg := kp_t kd (kp_t ke (kp_t kf kg))
        refine r_cat (kcg _ _ epc) eg (by show xs.length + 2 ≤ 5000; omega) fun p' Hh kh np' eh => ?_
        have gG : Go G L H2 Hg := gc.trans (Go.same kcg)
        have gh : Go G L H2 Hh := gG.trans (Go.same kh)
        have nw' : Nw H2 p' := Nw.backG gG (.of np')
        have dn : Dp K Hg (.ref an) (.tuple (nmD c)) := .tup (hn2.kt gG.kt).seq (dps_strs (nameL.take c))
        have csh : ∀ v ∈ xs ++ [V.ref b1, .ref b2], Case K Hh p' v := by
          intro v hv
          rcases List.mem_append.mp hv with z | z
          · exact ((csc v z).ev (kp_ev kcg)).swap np' (kp_ev kh)
          · have z' : v = .ref b1 ∨ v = .ref b2 := by simpa using z
            rcases z' with rfl | rfl
            · exact Case.old (part := "clauses") (i := 0) (dn := .tuple (nmD c)) (dc := .none) np' kh (kg _ _ (kf _ _ (ke _ _ ed))) dn .non (.inr rfl) (okN_of okb) ⟨rfl, fun ds e => by cases e⟩ (rb_clauses nb rfl)
            · exact Case.old (part := "clauses") (i := 0) (dn := .tuple (nmD c)) (dc := .list cd) np' kh (kg _ _ ef) dn (.lst (.of (kg _ _ (kf _ _ ee))) ((hxs2.kt gG.kt).dp)) (.inr rfl) (okN_of okb) ⟨lv_lst fun d hd => lv_up (okR.lvc d hd) (by decide), fun ds e => by cases e⟩ (rb_clauses nb rfl)
        have hl15 : (xs ++ [V.ref b1, .ref b2]).length ≤ 15 := by rw [List.length_append]; show xs.length + 2 ≤ 15; omega
        generalize xs ++ [V.ref b1, .ref b2] = xs at eh csh hl15
        clear csc epc eg ef ee ed kg kf ke kd kcd kcg hb1 hl2 hb2 hl3 dn gc
        repeat walk_at "rd"
        have hni := hn2.kt gh.kt
        refine r_ixT hni.seq n0 ?_
        repeat walk_at "rd"
        refine r_un ?_
        repeat walk_at "rd"
        refine ⟨_, rfl, r_ixT hni.seq (at_lastN h1 h9) ?_⟩
        repeat walk_at "rd"
        refine ⟨(by show 3 ≤ sizeLine; decide), fun gd hgd => ?_⟩
        generalize hH : upd Hh gd _ = Hi; obtain ⟨ki, ei⟩ := new_facts hH hgd; clear hH
        repeat walk_at "rd"
        -- bads
        refine r_slT (.inl ei) fun q1 I1 m1 f1 => ?_
        rw [show cutV [V.str "needs", .str "q", .str (lastN c)] none (some 2) = [.str "needs", .str "q"] from rfl] at f1
        repeat walk_at "rd"
        refine ⟨(by show 1 ≤ sizeLine; decide), fun qa hqa => ?_⟩
        generalize hH : upd I1 qa _ = I2; obtain ⟨m2, f2⟩ := new_facts hH hqa; clear hH
        have hgI2 := m2 _ _ (m1 _ _ ei)
        refine r_catT (.inl hgI2) (.inl f2) (by show 4 ≤ sizeLine; decide) fun q2 I3 m3 f3 => ?_
        repeat walk_at "rd"
        refine r_listT (.of (m3 _ _ hgI2)) fun l4 hl4 => ?_
        generalize hH : upd I3 l4 _ = I4; obtain ⟨m4, f4⟩ := new_facts hH hl4; clear hH
        repeat walk_at "rd"
        refine ⟨(by show 1 ≤ sizeLine; decide), fun qb hqb => ?_⟩
        generalize hH : upd I4 qb _ = I5; obtain ⟨m5, f5⟩ := new_facts hH hqb; clear hH
        have kI5 : Kp Hi I5 := kp_t m1 (kp_t m2 (kp_t m3 (kp_t m4 m5)))
        repeat walk_at "rd"
        refine r_slT (.inl (kI5 _ _ ei)) fun q3 I6 m6 f6 => ?_
        rw [show cutV [V.str "needs", .str "q", .str (lastN c)] (some 1) none = [.str "q", .str (lastN c)] from rfl] at f6
        refine r_catT (.inl (m6 _ _ f5)) f6 (by show 3 ≤ sizeLine; decide) fun q4 I7 m7 f7 => ?_
        have kI7 : Kp Hi I7 := kp_t kI5 (kp_t m6 m7)
        repeat walk_at "rd"
        refine r_ixT (hni.kt (kp_kt (kp_t ki kI7))).seq n0 ?_
        repeat walk_at "rd"
        refine ⟨(by show 3 ≤ sizeLine; decide), fun q5 hq5 => ?_⟩
        generalize hH : upd I7 q5 _ = I8; obtain ⟨m8, f8⟩ := new_facts hH hq5; clear hH
        repeat walk_at "rd"
        refine ⟨(by show 7 ≤ sizeLine; decide), fun lb hlb => ?_⟩
        generalize hH : upd I8 lb _ = I9; obtain ⟨m9, f9⟩ := new_facts hH hlb; clear hH
        have kI9 : Kp Hi I9 := kp_t kI7 (kp_t m8 m9)
        have kh9 : Kp Hh I9 := kp_t ki kI9
        have ep9 := kh9 _ _ eh
        have cs9 := fun v hv => (csh v hv).ev (kp_ev kh9)
        have g9' : Go G L H2 I9 := gh.trans (Go.same kh9)
        have eg9 := kI9 _ _ ei
        have imgd : Im I9 (.ref gd) (goodD c) := .tup (.inl eg9) (.cons (.str _) (.cons (.str _) (.cons (.str _) .nil)))
        have nl4 : l4 ≠ p' := (ne_of_none (m3 _ _ (m2 _ _ (m1 _ _ (ki _ _ eh)))) hl4).symm
        have hb8 : ∀ H', Ev p' I9 H' → DpAll K H' [V.ref q1, .ref q2, .ref l4, .ref q4, .ref q5, .non, .int 5, .str "needs"] (bads c) := by
          intro H' e'
          have kt' := e'.kt ep9
          have s1 : ∀ x : Str, Dp K H' (.str x) (.str x) := fun x => .str x
          exact .cons (.tup (((f1.kt (kp_kt (kp_t m2 (kp_t m3 (kp_t m4 (kp_t m5 (kp_t m6 (kp_t m7 (kp_t m8 m9))))))))).kt kt').seq) (.cons (s1 _) (.cons (s1 _) .nil)))
            (.cons (.tup ((f3.kt (kp_kt (kp_t m4 (kp_t m5 (kp_t m6 (kp_t m7 (kp_t m8 m9))))))).kt kt').seq (.cons (s1 _) (.cons (s1 _) (.cons (s1 _) (.cons (s1 _) .nil)))))
            (.cons (.lst (.of (e' l4 _ nl4 (fun ps z => by cases z) (m9 _ _ (m8 _ _ (m7 _ _ (m6 _ _ (m5 _ _ f4))))))) (.cons (s1 _) (.cons (s1 _) (.cons (s1 _) .nil))))
            (.cons (.tup ((f7.kt (kp_kt (kp_t m8 m9))).kt kt').seq (.cons (s1 _) (.cons (s1 _) (.cons (s1 _) .nil))))
            (.cons (.tup ((Tp.kt (.inl (m9 _ _ f8)) kt').seq) (.cons (s1 _) (.cons (s1 _) (.cons (s1 _) .nil))))
            (.cons .non (.cons (.int 5) (.cons (s1 _) .nil)))))))
        clear f1 f2 f3 f4 f5 f6 f7 f8 m1 m2 m3 m4 m5 m6 m7 m8 m9 hqa hgI2 hl4 hqb kI5 kI7 hq5 hlb hgd ki ei kI9 nl4 hni csh eh gh kh
        repeat walk_at "rd"
        refine forLg (fun a H0 => Kp I9 H0 ∧ H0 a = some (.lst [V.ref q1, .ref q2, .ref l4, .ref q4, .ref q5, .non, .int 5, .str "needs"]) ∧ a ≠ p') (fun R z => ?_) (fun a8 H0 hg => ?_)
        · repeat walk_at "rd"
          refine ⟨(by show 1 ≤ sizeLine; decide), fun l5 hl5 => ?_⟩
          generalize hH : upd I9 l5 _ = J1; obtain ⟨m1, f1⟩ := new_facts hH hl5; clear hH
          refine r_cat (m1 _ _ f9) f1 (by show 8 ≤ 5000; decide) fun l6 J2 m2 hl6 f2 => ?_
          exact z l6 J2 ⟨kp_t m1 m2, f2, (ne_of_none (m1 _ _ ep9) hl6).symm⟩
        · obtain ⟨k0', ea8, na8⟩ := hg
          refine ⟨_, .of ea8, fun i σ H' => ∃ (x6 : Option V) (xs : List V), σ = [some (.ref r.r), some (.ref an), some (.ref ac), some (.int (k : Nat)), some (.int (j : Nat)), some (.ref p'), x6, x7, some (.ref lb), none, none, none, some (.ref gd), none, none] ∧ Go G L H2 H' ∧ Ev p' H0 H' ∧ H' p' = some (.lst xs) ∧ (∀ v ∈ xs, Case K H' p' v) ∧ xs.length ≤ 15 + i, ?_, ?_, ?_, ?_⟩
          · exact ⟨_, _, rfl, g9'.trans (Go.same k0'), Ev.refl H0, k0' _ _ ep9, fun v hv => (cs9 v hv).ev (kp_ev k0'), hl15⟩
          · rintro i σ H' _ ⟨_, _, _, _, ev, _⟩
            exact .of (ev a8 _ na8 (fun ps z => by cases z) ea8)
          · rintro i x σ H' hx ⟨x6, xs, rfl, g, ev, ep, cs, hlx⟩
            have ev9 : Ev p' I9 H' := (kp_ev k0').trans ev
            obtain ⟨d, hd, hxd⟩ := Dps.get (hb8 H' ev9) hx
            have hxE : ∀ H'', Ev p' H' H'' → Dp K H'' x d := fun H'' e'' => by
              obtain ⟨d2, hd2, hx2⟩ := Dps.get (hb8 H'' (ev9.trans e'')) hx
              have e : d2 = d := Option.some.inj (hd2.symm.trans hd)
              rw [← e]
              exact hx2
            obtain ⟨hbad, hok⟩ := ins_ok h1 h9 hcl hl40 hj' (List.mem_of_getElem? hd)
            have hi8 : i < 8 := (List.getElem?_eq_some_iff.mp hx).1
            have hnH := hn2.kt g.kt
            refine r_gN ?_
            dsimp only
            refine r_drop (r_bmL (fun R z => r_var (v := .ref p') rfl z) ep (r_cons (r_tup (r_cons (r_var (v := .ref an) rfl (r_cons ?_))))))
            refine r_ins (hac2.kt g.kt) (k := j) (v := x) (by rw [hxs2.length]; exact hj') (by rw [hxs2.length]; omega) (fun H1 R z => r_var (v := .ref ac) rfl z) (fun H1 R z => r_var rfl z) (fun H1 R z => r_var rfl z) fun p5 H5 k5 e5 => ?_
            repeat walk_at "rd"
            refine ⟨(by show 4 ≤ sizeLine; decide), fun a6 ha6 => ?_⟩
            generalize hH : upd H5 a6 _ = H6; obtain ⟨k6, e6⟩ := new_facts hH ha6; clear hH
            repeat walk_at "rd"
            have k56 := kp_t k5 k6
            have ep6 := k56 _ _ ep
            refine r_append ep6 (by omega) ?_
            have g6 : Go G L H2 H6 := g.trans (Go.same k56)
            have hxs6 := hxs2.kt g6.kt
            refine ⟨_, _, rfl, g6.updNw nw' ep6, (ev.trans (kp_ev k56)).trans (GoR.upd (G := G) (L := L) ep6).1, upd_same, cases_app ep6 (fun v hv => (cs v hv).ev (kp_ev k56)) (Case.im (part := "clauses") (i := j) (dn := .tuple (nmD c)) (dc := .tuple (insD cd j d)) ep6 e6 (.tup (hn2.kt g6.kt).tp (ims_strs _)) (fun H'' e'' => ?_) (.inr rfl) (okN_of okb) hok hbad), ?_⟩
            · have kt6 := e''.kt ep6
              exact .tup ((e5.kt (kp_kt k6)).kt kt6).seq (dps_app (dps_app ((hxs6.take j).kt kt6).dp (.cons (hxE H'' ((kp_ev k56).trans e'')) .nil)) ((hxs6.drop j).kt kt6).dp)
            · rw [List.length_append]
              show xs.length + 1 ≤ 15 + (i + 1)
              omega
          · rintro σ H' ⟨x6, xs, rfl, g, ev, ep, cs, hlx⟩
            have hlx23 : xs.length ≤ 23 := hlx
            have imgd' := imgd.kt (((kp_ev k0').trans ev).kt ep9)
            clear hlx ev hb8 cs9 ep9 g9' ea8 na8 k0' imgd eg9 f9 hl15
            have hnH := hn2.kt g.kt
            -- forty-one
            repeat walk_at "rd"
            refine ⟨.inl ⟨rfl, _, SqL.of ep⟩, ?_⟩
            repeat walk_at "rd"
            refine ⟨(by show 1 ≤ sizeLine; decide), fun u1 hu1 => ?_⟩
            generalize hH : upd H' u1 _ = J1; obtain ⟨m1, f1⟩ := new_facts hH hu1; clear hH
            repeat walk_at "rd"
            refine r_rep (n := 41) f1 (by decide) (by decide) fun u2 J2 m2 f2 => ?_
            repeat walk_at "rd"
            refine ⟨(by show 4 ≤ sizeLine; decide), fun u3 hu3 => ?_⟩
            generalize hH : upd J2 u3 _ = J3; obtain ⟨m3, f3⟩ := new_facts hH hu3; clear hH
            repeat walk_at "rd"
            have m13 : Kp H' J3 := kp_t m1 (kp_t m2 m3)
            have ep3 := m13 _ _ ep
            refine r_append ep3 (by omega) ?_
            have gJ3 := g.trans (Go.same (G := G) (L := L) m13)
            have gJ : Go G L H2 (upd J3 p' (.lst (xs ++ [.ref u3]))) := gJ3.updNw nw' ep3
            have epJ : (upd J3 p' (.lst (xs ++ [.ref u3]))) p' = some (.lst (xs ++ [.ref u3])) := upd_same
            have imgJ3 := imgd'.kt (kp_kt m13)
            have imgJ := imgJ3.kt ((GoR.upd (G := G) (L := L) (ys := xs ++ [.ref u3]) ep3).kt ep3)
            have hrep : ∀ n : Nat, ∀ d' ∈ List.replicate n (goodD c), clauseOk (nmD c) d' = true := fun n d' hd' => by
              rw [List.eq_of_mem_replicate hd']
              exact (good_cl h1 h9).ok
            have okcR : ∀ n : Nat, n ≤ 60 → okC (.tuple (List.replicate n (goodD c))) := fun n hn => ⟨lv_tup fun d' hd' => by
              rw [List.eq_of_mem_replicate hd']
              have key : ∀ c < 10, lv 7 (goodD c) = true := by decide +kernel
              exact key c (by omega), fun ds e => by
                cases e
                rw [List.length_replicate]
                exact hn⟩
            have rb41 := okR.rb (hrep 41)
            rw [List.length_replicate, if_neg (by decide)] at rb41
            have csJ := cases_app ep3 (fun v hv => (cs v hv).ev (kp_ev m13)) (Case.im (part := "clauses") (i := 40) (dn := .tuple (nmD c)) (dc := .tuple (List.replicate 41 (goodD c))) ep3 f3 (.tup (hn2.kt gJ3.kt).tp (ims_strs _)) (fun H'' e'' => .tup (Tp.kt (.inl (m3 _ _ f2)) (e''.kt ep3)).seq (ims_rep (imgJ3.kt (e''.kt ep3)) 41).dp) (.inr rfl) (okN_of okb) (okcR 41 (by decide)) rb41)
            generalize upd J3 p' (.lst (xs ++ [.ref u3])) = J at gJ epJ imgJ csJ ⊢
            clear f1 f2 f3 m1 m2 m3 m13 ep3 gJ3 imgJ3 imgd' hu1 hu3 cs ep g hnH rb41
            generalize xs ++ [V.ref u3] = xs at epJ csJ
            repeat walk_at "rd"
            refine forL (a := p') (xs := xs) (fun R z => ⟨_, rfl, z⟩) (.of epJ) (fun i σ H' => ∃ (x9 x10 x13 x14 : Option V), σ = [some (.ref r.r), some (.ref an), some (.ref ac), some (.int (k : Nat)), some (.int (j : Nat)), some (.ref p'), x6, x7, some (.ref lb), x9, x10, none, some (.ref gd), x13, x14] ∧ Go G L J H') ?_ ?_ ?_ ?_
            · exact ⟨none, none, none, none, rfl, Go.refl J⟩
            · rintro i σ H' _ ⟨_, _, _, _, _, g⟩
              exact .of (g.lst epJ)
            · rintro i x σ H' hx ⟨x9, x10, x13, x14, rfl, g⟩
              obtain ⟨a, s, m, part, ii, dn, dc, rfl, hpt, on, oc, hb, hall⟩ := (csJ x (List.mem_of_getElem? hx)).ev (ev_of g.1)
              obtain ⟨ha, hs, hm⟩ := hall H' (Ev.refl H')
              have htH := (gJ.trans g).2 ht2
              refine g_four (.of ha) ?_
              dsimp only
              refine r_ifS (r_test (r_op (r_lam AP hL htH fun H1' g1' => ?_)))
              refine r_make (r_cons (r_var (v := s) rfl (r_cons (r_var (v := m) rfl (r_nil ?_)))))
              refine mk_rulesX (Dp.go g1'.1 hs) (Dp.go g1'.1 hm) on oc (g1'.2 htH) hb fun cls dd H2' g2' t => ⟨_, t, fun v H3' g3' him => ?_⟩
              repeat walk_at "rd"
              refine ⟨(by show 3 ≤ sizeLine; decide), fun pt hpt' => ?_⟩
              generalize hH : upd H3' pt _ = H4'; obtain ⟨m4, f4⟩ := new_facts hH hpt'; clear hH
              have lvE : lv 8 (rulesE part ii) = true := by
                refine lv_rules ?_
                rcases hpt with rfl | rfl <;> decide +kernel
              refine r_neD (him.kt (kp_kt m4)).dp (.tup (.of f4) (.cons (.str _) (.cons (.str _) (.cons (.int _) .nil)))) lvE lvE ?_
              rw [show PyData.eqv (rulesE part ii) (.tuple [.str "rules", .str part, .int (ii : Nat)]) = true from eqv_same lvE]
              repeat walk_at "rd"
              exact ⟨_, _, _, _, rfl, (((g.trans g1').trans g2').trans g3').trans (Go.same m4)⟩
            · rintro σ H' ⟨x9, x10, x13, x14, rfl, g⟩
              have gH := gJ.trans g
              have imgH := imgJ.kt g.kt
              have htH := gH.2 ht2
              have hnH := hn2.kt gH.kt
              clear csJ epJ imgJ
              repeat walk_at "rd"
              refine ⟨(by show 1 ≤ sizeLine; decide), fun u1 hu1 => ?_⟩
              generalize hH : upd H' u1 _ = J1; obtain ⟨m1, f1⟩ := new_facts hH hu1; clear hH
              repeat walk_at "rd"
              refine r_rep (n := 40) f1 (by decide) (by decide) fun u2 J2 m2 f2 => ?_
              have g12 : Go G L H' J2 := (Go.same m1).trans (Go.same m2)
              have gJ2 := gH.trans g12
              have im40 : Ims J2 ((List.replicate 40 [V.ref gd]).flatten) (List.replicate 40 (goodD c)) := ims_rep (imgH.kt g12.kt) 40
              have rb40 := okR.rb (hrep 40)
              rw [List.length_replicate, if_pos (by decide)] at rb40
              repeat walk_at "rd"
              refine mk_rulesR (dn := .tuple (nmD c)) (.tup (hnH.kt g12.kt).seq (dps_strs _)) (.tup (.of f2) im40.dp) (okN_of okb) (okcR 40 (by decide)) (gJ2.2 ht2) rb40 fun xf dxf H3 g3 hxf => ?_
              have gH3 := gJ2.trans g3
              have RA : RulesAt K H3 xf (nameL.take c) (List.replicate 40 (goodD c)) := ⟨dxf, an, u2, _, hxf, (hnH.kt g12.kt).kt g3.kt, Tp.kt (.inl f2) g3.kt, im40.kt g3.kt⟩
              have okR40 : OkR (nameL.take c) (List.replicate 40 (goodD c)) := ⟨okR.gs, okR.nb, okR.sm, hrep 40, by rw [List.length_replicate]; exact Nat.le_refl _⟩
              have imgH3 := (imgH.kt g12.kt).kt g3.kt
              have htH3 := gH3.2 ht2
              repeat walk_at "rd"
              refine r_lam AP hL htH3 fun H4 g4 => ?_
              refine r_fm (x := xf) (fun R z => r_var (v := .ref xf) rfl z) (RA.kt g4.kt) (fun _ _ => rfl) ?_
              refine r_cons (r_var (v := .ref gd) rfl (r_nil ?_))
              have lvg : lv 6 (goodD c) = true := by
                have key : ∀ c < 10, lv 6 (goodD c) = true := by decide +kernel
                exact key c (by omega)
              refine ⟨xf, .ref gd, nameL.take c, List.replicate 40 (goodD c), goodD c, rfl, RA.kt g4.kt, okR40, (imgH3.kt g4.kt).dp, lvg, g4.2 htH3, fun hno => ?_, fun _ => ⟨imgH3.kt g4.kt, fun _ cls dd H5 g5 t => ⟨_, t, fun v H6 g6 him => ?_⟩, fun hlt => ?_⟩⟩
              · have z := (good_cl h1 h9).ok
                rw [hno] at z
                cases z
              · repeat walk_at "rd"
                refine ⟨(by show 3 ≤ sizeLine; decide), fun pt hpt' => ?_⟩
                generalize hH : upd H6 pt _ = H7; obtain ⟨m7, f7⟩ := new_facts hH hpt'; clear hH
                have lvE : lv 8 (rulesE "clauses" 40) = true := by decide +kernel
                refine r_neD (him.kt (kp_kt m7)).dp (.tup (.of f7) (.cons (.str _) (.cons (.str _) (.cons (.int 40) .nil)))) lvE lvE ?_
                rw [show PyData.eqv (rulesE "clauses" 40) (.tuple [.str "rules", .str "clauses", .int 40]) = true from eqv_same lvE]
                have g7 := (((gH3.trans g4).trans g5).trans g6).trans (Go.same m7)
                have htH7 := g7.2 ht2
                repeat walk_at "rd"
                refine r_lam AP hL htH7 fun H8 g8 => ?_
                refine ⟨rfl, r_cons (r_c (r_cons (r_c (r_nil ?_))))⟩
                refine ⟨[.ref (cR K)], [.str "a", .str "A"], rfl, rfl, (by show 2 ≤ sizeLine; decide), fun na hna => ?_⟩
                generalize hH : upd H8 na _ = H9; obtain ⟨m9, f9⟩ := new_facts hH hna; clear hH
                have g9 := g8.trans (Go.same (G := G) (L := L) m9)
                have rbf : rulesBad (.tuple [.str "a", .str "A"]) (.tuple []) = some (rulesE "names" 1) := rb_names (by decide +kernel)
                refine ⟨na, _, [.str "a", .str "A"], rfl, f9, .cons (.str _) (.cons (.str _) .nil), okN_of (by decide +kernel), g9.2 htH7, fun D hD cls dd H10 g10 t => ⟨D, t, fun v H11 g11 him => ?_⟩, fun hn => by rw [rbf] at hn; cases hn⟩
                have eD : D = rulesE "names" 1 := (Option.some.inj (rbf.symm.trans hD)).symm
                subst eD
                repeat walk_at "rd"
                refine ⟨(by show 3 ≤ sizeLine; decide), fun pt hpt' => ?_⟩
                generalize hH : upd H11 pt _ = H12; obtain ⟨m12, f12⟩ := new_facts hH hpt'; clear hH
                have lvE2 : lv 8 (rulesE "names" 1) = true := by decide +kernel
                refine r_eqD (him.kt (kp_kt m12)).dp (.tup (.of f12) (.cons (.str _) (.cons (.str _) (.cons (.int 1) .nil)))) lvE2 lvE2 ?_
                rw [show PyData.eqv (rulesE "names" 1) (.tuple [.str "rules", .str "names", .int 1]) = true from eqv_same lvE2]
                have gE := (((g7.trans g9).trans g10).trans g11).trans (Go.same m12)
                exact q H12 (g02.trans gE.toR) (hR2.go gE)
              · rw [List.length_replicate] at hlt
                exact absurd hlt (by decide)
end
/-! drawn states -/
theorem sub_find {z : Str} {xs : List Str} : ∀ {l : List Str}, (z :: xs).Sublist l → z ∈ l ∧ xs.Sublist (l.drop (l.idxOf z + 1)) := by
  intro l
  induction l with
  | nil => intro h; cases h
  | cons y l ih =>
    intro h
    by_cases e : y = z
    · subst e
      refine ⟨List.mem_cons_self, ?_⟩
      have e0 : (y :: l).idxOf y = 0 := by simp
      rw [e0]
      show xs.Sublist l
      cases h with
      | cons _ h => exact (List.sublist_cons_self y xs).trans h
      | cons_cons _ h => exact h
    · have h' : (z :: xs).Sublist l := by
        cases h with
        | cons _ h => exact h
        | cons_cons _ h => exact absurd rfl e
      obtain ⟨a, b⟩ := ih h'
      refine ⟨List.mem_cons_of_mem _ a, ?_⟩
      have e0 : (y :: l).idxOf z = l.idxOf z + 1 := by
        rw [List.idxOf_cons]
        have hb : (y == z) = false := by simpa using e
        rw [hb]
        rfl
      rw [e0]
      exact b
theorem idx_gone {z : Str} : ∀ {l : List Str}, l.Nodup → z ∉ l.drop (l.idxOf z + 1) := by
  intro l
  induction l with
  | nil => intro _ h; cases h
  | cons y l ih =>
    intro hn
    rw [List.nodup_cons] at hn
    by_cases e : y = z
    · subst e
      have e0 : (y :: l).idxOf y = 0 := by simp
      rw [e0]
      exact hn.1
    · have e0 : (y :: l).idxOf z = l.idxOf z + 1 := by
        rw [List.idxOf_cons]
        have hb : (y == z) = false := by simpa using e
        rw [hb]
        rfl
      rw [e0]
      exact ih hn.2
theorem scan_sub : ∀ (xs later : List Str) (i : Nat), xs.Sublist later → ∃ later', (∀ z ∈ later', z ∈ later) ∧ (later.Nodup → ∀ z ∈ xs, z ∉ later') ∧ ∀ ds, scanS later i (xs.map PyData.str ++ ds) = scanS later' (i + xs.length) ds
  | [], later, i, _ => ⟨later, fun z h => h, fun _ z h => (by cases h), fun ds => rfl⟩
  | z :: xs, later, i, h => by
    obtain ⟨h1, h2⟩ := sub_find h
    obtain ⟨l', a, b, c⟩ := scan_sub xs _ (i + 1) h2
    refine ⟨l', fun y hy => List.mem_of_mem_drop (a y hy), fun hn y hy => ?_, fun ds => ?_⟩
    · rcases List.mem_cons.mp hy with e | e
      · subst e
        exact fun z => idx_gone hn (a _ z)
      · exact b (hn.sublist (List.drop_sublist _ _)) y e
    · show (if z ∈ later then scanS (later.drop (later.idxOf z + 1)) (i + 1) (xs.map PyData.str ++ ds) else some i) = _
      rw [if_pos h1, c ds, List.length_cons]
      congr 1
      omega
theorem no_two {a b : Str} : ∀ {l : List Str}, l.Nodup → [a, b].Sublist l → [b, a].Sublist l → False := by
  intro l
  induction l with
  | nil => intro _ h _; cases h
  | cons y l ih =>
    intro hn h1 h2
    rw [List.nodup_cons] at hn
    cases h1 with
    | cons _ h1 =>
      cases h2 with
      | cons _ h2 => exact ih hn.2 h1 h2
      | cons_cons _ h2 => exact hn.1 (h1.subset (by simp))
    | cons_cons _ h1 =>
      cases h2 with
      | cons _ h2 => exact hn.1 (h2.subset (by simp))
      | cons_cons _ h2 => exact hn.1 (h2.subset (by simp))
section
variable {ns ss : List Str}
theorem st_none (h : ss.Sublist ns) : stateBad ns (.tuple (ss.map PyData.str)) = none := by
  obtain ⟨l', _, _, c⟩ := scan_sub ss ns 0 h
  show scanS ns 0 (ss.map PyData.str) = none
  have z := c []
  rw [List.append_nil] at z
  rw [z]
  rfl
theorem st_ins {k : Nat} {d : PyData} (h : ss.Sublist ns) (hk : k ≤ ss.length) (hd : ∀ z, d = .str z → z ∉ ns) : stateBad ns (.tuple (insD (ss.map PyData.str) k d)) = some k := by
  obtain ⟨l', a, _, c⟩ := scan_sub (ss.take k) ns 0 ((List.take_sublist _ _).trans h)
  show scanS ns 0 ((ss.map PyData.str).take k ++ [d] ++ (ss.map PyData.str).drop k) = some k
  rw [List.append_assoc, ← List.map_take, c, List.length_take, Nat.min_eq_left hk, Nat.zero_add]
  cases d with
  | str z =>
    show (if z ∈ l' then _ else some k) = some k
    exact if_neg fun hz => hd z rfl (a z hz)
  | _ => rfl
theorem st_twice {s : Str} (hn : ns.Nodup) (h : (s :: ss).Sublist ns) : stateBad ns (.tuple (.str s :: (s :: ss).map PyData.str)) = some 1 := by
  obtain ⟨l', a, b, c⟩ := scan_sub [s] ns 0 ((List.singleton_sublist.mpr (h.subset List.mem_cons_self)))
  show scanS ns 0 ([s].map PyData.str ++ (s :: ss).map PyData.str) = some 1
  rw [c]
  show (if s ∈ l' then _ else some 1) = some 1
  exact if_neg (b hn s List.mem_cons_self)
theorem st_turned {s t : Str} (hn : ns.Nodup) (h : (s :: t :: ss).Sublist ns) : stateBad ns (.tuple ((t :: ss).map PyData.str ++ [.str s])) = some (ss.length + 1) := by
  have h2 : (t :: ss).Sublist ns := (List.sublist_cons_self s (t :: ss)).trans h
  obtain ⟨h3, h4⟩ := sub_find h2
  obtain ⟨l', a, b, c⟩ := scan_sub ss _ 1 h4
  show (if t ∈ ns then scanS (ns.drop (ns.idxOf t + 1)) 1 (ss.map PyData.str ++ [.str s]) else some 0) = _
  rw [if_pos h3, c]
  have hs : s ∉ l' := fun z => by
    have z2 := a s z
    have i1 : ns.idxOf t < ns.length := List.idxOf_lt_length_of_mem h3
    have e1 : [t, s].Sublist ns := by
      have e2 : ns = ns.take (ns.idxOf t) ++ (t :: ns.drop (ns.idxOf t + 1)) := by
        have e3 : ns.drop (ns.idxOf t) = t :: ns.drop (ns.idxOf t + 1) := by
          rw [List.drop_eq_getElem_cons i1, List.getElem_idxOf i1]
        rw [← e3, List.take_append_drop]
      rw [e2]
      exact (List.Sublist.cons_cons t (List.singleton_sublist.mpr z2)).trans (List.sublist_append_right _ _)
    have e4 : [s, t].Sublist ns := (List.Sublist.cons_cons s (List.Sublist.cons_cons t (List.nil_sublist ss))).trans h
    exact no_two hn e4 e1
  show (if s ∈ l' then _ else some (1 + ss.length)) = _
  rw [if_neg hs, Nat.add_comm]
end
theorem nm_nodup : ∀ c < 10, (nameL.take c).Nodup := by decide +kernel
/-! _law_are_states -/
section
variable {P : Program} {w : World} {K : PySem.W.Frag} {mg : Str → Option Value} {base : Heap} {G : List Addr} {L : List (Addr × Str)}
/-- a method of the rules that tells D, called by _law_raised -/
theorem r_told {σ : L2.St} {H : Hp} {Q : VK} {Pn x : Addr} {q m : Str} {sp : Sp} {ta : TE} {ix : Nat} {ns : List Str} {cd : List PyData} {d D : PyData} (AP : Apart G L) (hL : (Pn, q) ∈ L) (ht : TBS G L H) (sx : σ[ix]? = some (some (.ref x))) (RA : RulesAt K H x ns cd) (hm : ∀ nv cv, (rfs nv cv).lookup m = none)
    (ha : ∀ H1, Go G L H H1 → ∀ R : VK, (∀ v' H2, Go G L H1 H2 → Dp K H2 v' d → R v' H2) → ta σ H1 R)
    (hsp : ∀ H1 v' (Q' : VK) (E' : XK), RulesAt K H1 x ns cd → Dp K H1 v' d → TBS G L H1 → (∀ cls dd H', Go G L H1 H' → Told K cls dd H' D → E' cls dd H') → sp [.ref x, v'] H1 Q' E')
    (k : ∀ v' H', Go G L H H' → Im H' v' D → Q v' H') : tLamS Pn q (TR K G L) (fun E => tMeth (cR K) m sp [] E (tVar ix) (tCons ta tNil)) σ H Q := by
  refine r_lam AP hL ht fun H1 g1 => ?_
  refine r_fm (x := x) (fun R z => ⟨_, sx, z⟩) (RA.kt g1.kt) hm (r_cons (ha H1 g1 _ fun v' H2 g2 hd => r_nil ?_))
  have g12 := g1.trans g2
  exact hsp H2 v' _ _ (RA.kt g12.kt) hd (g12.2 ht) fun cls dd H3 g3 t => ⟨D, t, fun v2 H4 g4 him => k v2 H4 ((g12.trans g3).trans g4) him⟩
theorem a_var {σ : L2.St} {H : Hp} {i : Nat} {v : V} {d : PyData} (s : σ[i]? = some (some v)) (hd : Dp K H v d) : ∀ H1, Go G L H H1 → ∀ R : VK, (∀ v' H2, Go G L H1 H2 → Dp K H2 v' d → R v' H2) → tVar i σ H1 R :=
  fun H1 g R z => ⟨_, s, z _ _ (Go.refl _) (Dp.go g.1 hd)⟩
theorem r_ifF {c : TT} {a : TS} {σ : L2.St} {H : Hp} {D : Ends} (good : Hp → Prop) (h : ∀ R : Bool → Hp → Prop, (∀ H2, good H2 → R false H2) → c σ H R) (n : ∀ H2, good H2 → D.nx σ H2) : tIfS c a tNext D σ H := h _ fun H2 g => n H2 g
theorem eqv_nilT (ds : List PyData) : PyData.eqv (.tuple ds) (.tuple []) = decide (ds = []) := by
  cases ds with
  | nil => simp [PyData.eqv, PyData.eqvAll]
  | cons d ds => simp [PyData.eqv, PyData.eqvAll]
theorem cut_to1 {xs : List V} : cutV xs none (some 1) = xs.take 1 := by
  cases xs with
  | nil => rfl
  | cons x xs => exact cut_to (k := 1) (by simp)
theorem cut_from1 {xs : List V} : cutV xs (some 1) none = xs.drop 1 := by
  cases xs with
  | nil => rfl
  | cons x xs => exact cut_from (k := 1) (by simp)
def spAreStates (K : PySem.W.Frag) (G : List Addr) (L : List (Addr × Str)) : Sp := fun vs H Q _ => ∃ (r : Rid) (an x : Addr) (c : Nat) (cd : List PyData), vs = [.ref r.r, .ref an, .ref x] ∧ Row K H r ∧ 1 ≤ c ∧ c ≤ 9 ∧ NT H an ((nameL.take c).map V.str) ∧ (∀ d ∈ cd, ClD (nameL.take c) d) ∧ cd.length ≤ 40 ∧ RulesAt K H x (nameL.take c) cd ∧ TBS G L H ∧
  ∀ H', GoR G L r.r H H' → Row K H' r → Q (.bl true) H'
abbrev nAreStates : List Str := ["_law_row", "_law_names", "_law_rules_here", "_law_k", "_law_bad", "_law_some", "_law_state", "_law_turned", "_law_name"]
theorem scAreStates : FnScope nAreStates ["_law_row", "_law_names", "_law_rules_here"] (defScope sAreStates) := C8.fnScope_by (by decide +kernel)
def invD (i : Nat) : PyData := .tuple [.str "invalid", .int (i : Nat)]
theorem lv_inv (i : Nat) : lv 8 (invD i) = true := lv_tup (n := 7) fun x hx => by
  have hx' : x = .str "invalid" ∨ x = .int (i : Nat) := by simpa using hx
  rcases hx' with rfl | rfl
  · decide +kernel
  · rfl
theorem sp_legal {x : Addr} {ns : List Str} {cd : List PyData} {d : PyData} {i : Nat} (ok : OkR ns cd) (l7 : lv 7 d = true) (hlen : ∀ ds, d = .tuple ds → ds.length ≤ 60) (hb : stateBad ns d = some i) :
    ∀ H1 v' (Q' : VK) (E' : XK), RulesAt K H1 x ns cd → Dp K H1 v' d → TBS G L H1 → (∀ cls dd H', Go G L H1 H' → Told K cls dd H' (invD i) → E' cls dd H') → spLegal K G L [.ref x, v'] H1 Q' E' :=
  fun H1 v' Q' E' RA hd _ hE => ⟨x, v', ns, cd, d, rfl, RA, ok, hd, l7, hlen, fun i' hi cls dd H' g t => by
    have e : i' = i := Option.some.inj (hi.symm.trans hb)
    subst e
    exact hE cls dd H' g t, fun ds e hn => by rw [hb] at hn; cases hn⟩
theorem sp_broken {x : Addr} {ns : List Str} {cd : List PyData} {d : PyData} {i : Nat} (ok : OkR ns cd) (l7 : lv 7 d = true) (hlen : ∀ ds, d = .tuple ds → ds.length ≤ 60) (hb : stateBad ns d = some i) :
    ∀ H1 v' (Q' : VK) (E' : XK), RulesAt K H1 x ns cd → Dp K H1 v' d → TBS G L H1 → (∀ cls dd H', Go G L H1 H' → Told K cls dd H' (invD i) → E' cls dd H') → spBroken K G L [.ref x, v'] H1 Q' E' :=
  fun H1 v' Q' E' RA hd _ hE => ⟨x, v', ns, cd, d, rfl, RA, ok, hd, l7, hlen, fun i' hi cls dd H' g t => by
    have e : i' = i := Option.some.inj (hi.symm.trans hb)
    subst e
    exact hE cls dd H' g t, fun ds e hn => by rw [hb] at hn; cases hn⟩
/-- told != ("invalid", i) -/
theorem r_neI {H : Hp} {Q : VK} {v w : V} {D : PyData} (h1 : Dp K H v D) (h2 : Dp K H w D) (l : lv 8 D = true) (q : Q (.bl false) H) : rNeD K v w H Q := r_neD h1 h2 l l (by rw [eqv_same l]; exact q)
theorem ok_areStates {f c Pn : Addr} {fd : FuncData} (F : Fun K "_law_are_states" "_law_are_states" sAreStates f fd) (hc : fd.code = .ref c) (TB : LamX.TabB base mg c Pn) (hL : (Pn, lamQ "_law_are_states") ∈ L) (AP : Apart G L) (zL : mg "len" = none) (zl : mg "list" = none) (zT : mg "tuple" = none)
    (TK : Fd CX0 P w K mg base "_law_taken" 1 (spTaken K G L)) (RZ : RzD K mg) (IL : Fm P w K mg base "is_legal" 5 (spLegal K G L)) (BR : Fm P w K mg base "broken_clauses" 4 (spBroken K G L)) : FnOk P w K mg base CX0 11 f fd ["_law_row", "_law_names", "_law_rules_here"] (spAreStates K G L) := by
  obtain ⟨oc, od, kV, doc, pm, an, cdv, ct, osl, efd, lk, hcd⟩ := F.ex
  subst efd
  have ec : cdv = .ref c := hc
  subst ec
  refine fn_of lk hcd scAreStates (fun vs H Q E h => ?_) (fun A outer s H vs Q E hr h => ?_)
  · obtain ⟨r, an, x, c, cd, e, _⟩ := h
    rw [e]
    rfl
  · obtain ⟨r, an, x, c, cd, e, hR, h1, h9, hn, hcl, hl40, hRA, ht, q⟩ := h
    subst e
    refine ⟨_, PSs.nox (pss_cons (ps_set (i := 6) scAreStates.nd rfl (Or.inr rfl) (pe_callTy c_tup rfl zT (by decide +kernel) (pa_cons (pe_lc (own := [("_law_name", 8)]) (g := gName 8) rfl scAreStates.nd (pi_tup (pv 1))
          (blkOk_by (own := [("_law_name", 8)]) (N := nAreStates) (sc := defScope sAreStates) (by decide +kernel)) (fun _ _ _ _ _ => pg_name (i := 8) scAreStates.nd rfl (.inl rfl))
          (fun _ _ _ _ _ => pts_one (pt_cmpR op_eq (pe_fd (E := E0) TK hr pass0 (pa_cons (pv 0) (pa_cons pe_int pa_nil))) pe_int (nomark _))) (fun _ _ _ _ _ => pv 8)) pa_nil)))
      (pss_cons (ps_set (i := 3) scAreStates.nd rfl (Or.inl rfl) (pe_fd (E := E0) TK hr pass0 (pa_cons (pv 0) (pa_cons (pe_op op_add (pe_callB c_len rfl zL boot_len (pa_cons (pv 6) pa_nil)) pe_int) pa_nil))))
      (pss_cons (ps_for PassesOwn.never rfl (pi_tup (pe_tup (pa_cons pe_str (pa_cons pe_non (pa_cons pe_int (pa_cons pe_bl (pa_cons (pe_tup (pa_cons pe_str pa_nil)) pa_nil))))))) (pg_name (i := 4) scAreStates.nd rfl (.inr rfl))
          (pss_cons (ps_set (i := 5) scAreStates.nd rfl (Or.inr rfl) (pe_op op_catA (pe_op op_catA (pe_slice sl_tupA (pv 6) po_none (po_some (pv 3))) (pe_tup (pa_cons (pv 4) pa_nil))) (pe_slice sl_tupA (pv 6) (po_some (pv 3)) po_none)))
          (pss_one (ps_if (pt_cmpR (op_neD (u64 hr)) (pe_raised (G := G) (L := L) (k := 5) RZ TB rfl hr (LamX.lamS_by (sc := defScope sAreStates) (by decide +kernel)) (fun A outer s H E f c' hr2 => pe_fmL IL hr2 (pv 2) (pa_cons (pv 5) pa_nil))) (pe_tup (pa_cons pe_str (pa_cons (pv 3) pa_nil))) rfl)
            (pss_one (ps_ret pe_bl)) pss_nil))))
      (pss_cons (ps_if (PW.pt (pw_and (pt_cmpR (op_neD (u64 hr)) (pv 6) (pe_tup pa_nil) rfl) (pw_and1 (pt_cmpR (op_neD (u64 hr)) (pe_raised (G := G) (L := L) (k := 4) RZ TB rfl hr (LamX.lamS_by (sc := defScope sAreStates) (by decide +kernel))
            (fun A outer s H E f c' hr2 => pe_fmL BR hr2 (pv 2) (pa_cons (pe_op (r := rCatA K) op_catA (pe_slice (r := rSlA K) sl_tupA (pv 6) po_none (po_some pe_int)) (pv 6)) pa_nil))) (pe_tup (pa_cons pe_str (pa_cons pe_int pa_nil))) rfl))))
          (pss_one (ps_ret pe_bl)) pss_nil)
      (pss_cons (ps_set (i := 7) scAreStates.nd rfl (Or.inr rfl) (pe_op op_catA (pe_slice sl_tupA (pv 6) (po_some pe_int) po_none) (pe_slice sl_tupA (pv 6) po_none (po_some pe_int))))
      (pss_cons (ps_if (PW.pt (pw_and (pt_cmpR op_gt (pe_callB c_len rfl zL boot_len (pa_cons (pv 6) pa_nil)) pe_int (nomark _)) (pw_and1 (pt_cmpR (op_neD (u64 hr)) (pe_raised (G := G) (L := L) (k := 4) RZ TB rfl hr (LamX.lamS_by (sc := defScope sAreStates) (by decide +kernel))
            (fun A outer s H E f c' hr2 => pe_fmL BR hr2 (pv 2) (pa_cons (pv 7) pa_nil))) (pe_tup (pa_cons pe_str (pa_cons (pe_op op_sub (pe_callB c_len rfl zL boot_len (pa_cons (pv 6) pa_nil)) pe_int) pa_nil))) rfl))))
          (pss_one (ps_ret pe_bl)) pss_nil)
      (pss_cons (ps_for PassesOwn.never rfl (pi_tup (pe_tup (pa_cons pe_non (pa_cons pe_int (pa_cons (pe_callTy c_list rfl zl (by decide +kernel) (pa_cons (pv 6) pa_nil)) (pa_cons pe_str pa_nil)))))) (pg_name (i := 4) scAreStates.nd rfl (.inr rfl))
          (pss_one (ps_if (pt_cmpR (op_neD (u64 hr)) (pe_raised (G := G) (L := L) (k := 5) RZ TB rfl hr (LamX.lamS_by (sc := defScope sAreStates) (by decide +kernel)) (fun A outer s H E f c' hr2 => pe_fmL IL hr2 (pv 2) (pa_cons (pv 4) pa_nil))) (pe_tup (pa_cons pe_str (pa_cons pe_int pa_nil))) rfl)
            (pss_one (ps_ret pe_bl)) pss_nil)))
      (pss_one (ps_ret pe_bl))))))))), ?_⟩
    have okR := nm_okR h1 h9 hcl hl40
    obtain ⟨nb, okb, nms, nlen, nq, nono⟩ := nm_bad c (by omega) h1
    have nnd := nm_nodup c (by omega)
    repeat walk_at "rd"
    refine lcT (a := an) (xs := (nameL.take c).map V.str) (fun R z => r_var (v := .ref an) rfl z) hn.seq (fun D i H' => ∃ ss : List Str, D ≠ r.r ∧ Nw H D ∧ GoR G L r.r H H' ∧ Row K H' r ∧ H' D = some (.lst (ss.map V.str)) ∧ ss.Sublist ((nameL.take c).take i)) ?_ ?_ ?_ ?_
    · intro D hD
      have nD : D ≠ r.r := by
        obtain ⟨zs, z⟩ := hR.lst
        exact (ne_of_none z hD).symm
      have gN : Go G L H (upd H D (.lst [])) := Go.new hD
      exact ⟨[], nD, .of hD, gN.toR, hR.go gN, upd_same, List.nil_sublist _⟩
    · rintro D i H' hD hi ⟨ss, nD, nw, g, hR', eD, hss⟩
      exact (hn.kt (hR.kt g)).seq
    · rintro D i y H' hD hy ⟨ss, nD, nw, g, hR', eD, hss⟩
      have hi : i < (nameL.take c).length := by
        have z := (List.getElem?_eq_some_iff.mp hy).1
        rw [List.length_map] at z
        exact z
      have ey : y = .str ((nameL.take c)[i]) := by
        rw [List.getElem?_map, List.getElem?_eq_getElem hi] at hy
        exact (Option.some.inj hy).symm
      subst ey
      refine r_gN ⟨rfl, ?_⟩
      repeat walk_at "rd"
      refine r_taken hR' (by decide) (by decide) fun v1 H1 hv1 g1 hR1 => ?_
      have eD1 := g1.lst nD eD
      have gg := g.trans g1
      have htake : (nameL.take c).take (i + 1) = (nameL.take c).take i ++ [(nameL.take c)[i]] := (List.take_append_getElem hi).symm
      repeat walk_at "rd"
      refine r_eq rfl ?_
      repeat walk_at "rd"
      refine r_if (fun cc => ?_) (fun cc => ?_)
      · repeat walk_at "rd"
        have hsl : ss.length ≤ 9 := Nat.le_trans hss.length_le (by rw [List.length_take]; omega)
        have g2 := gg.updNw nw eD1 (ys := ss.map V.str ++ [.str ((nameL.take c)[i])])
        refine ⟨_, eD1, by rw [List.length_map]; exact Nat.lt_of_le_of_lt hsl (by decide), ss ++ [(nameL.take c)[i]], nD, nw, g2, hR.re hR1 g2.1 (by rw [upd_ne nD.symm]), by rw [upd_same, List.map_append]; rfl, ?_⟩
        rw [htake]
        exact List.Sublist.append hss (List.Sublist.refl _)
      · refine ⟨ss, nD, nw, gg, hR1, eD1, ?_⟩
        rw [htake]
        exact hss.trans (List.sublist_append_left _ _)
    · rintro D H' hD ⟨ss, nD, nw, g, hR', eD, hss⟩
      have hsub : ss.Sublist (nameL.take c) := hss.trans (List.take_sublist _ _)
      have hsl : ss.length ≤ 9 := by
        have z := hsub.length_le
        omega
      repeat walk_at "rd"
      refine r_tupL2 eD fun st H1 k1 hst => ?_
      have g1 := g.trans (Go.same (G := G) (L := L) k1).toR
      have hR1 := hR'.go (Go.same (G := G) (L := L) k1)
      repeat walk_at "rd"
      refine r_lenT hst.seq ?_
      rw [List.length_map]
      repeat walk_at "rd"
      rw [show ((ss.length : Nat) : Int) + 1 = ((ss.length + 1 : Nat) : Int) from rfl]
      refine r_taken hR1 (by omega) (by omega) fun k H2 hk g2 hR2 => ?_
      have g02 := g1.trans g2
      have kt2 := hR1.kt g2
      have hst2 := hst.kt kt2
      have ht2 := g02.2 ht
      have RA2 := hRA.kt (hR.kt g02)
      have hk' : k ≤ ss.length := by omega
      have lvs : ∀ z ∈ ss, PyData.strOk z = true := fun z hz => (nms z (hsub.subset hz)).1
      clear g g1 g2 hR' hR1 eD hss nw hst k1
      repeat walk_at "rd"
      refine forTg (fun a H0 => ∃ t5, Kp H2 H0 ∧ H0 a = some (.tup [.str "nono", .non, .int 5, .bl true, .ref t5]) ∧ H0 t5 = some (.tup [.str "a"])) (fun R z => ?_) (fun a9 H0 hg => ?_)
      · repeat walk_at "rd"
        refine ⟨(by show 1 ≤ sizeLine; decide), fun t5 ht5 => ?_⟩
        generalize hH : upd H2 t5 _ = H12; obtain ⟨k12, e12⟩ := new_facts hH ht5; clear hH
        repeat walk_at "rd"
        refine ⟨(by show 5 ≤ sizeLine; decide), fun a9 ha9 => ?_⟩
        generalize hH : upd H12 a9 _ = H13; obtain ⟨k13, e13⟩ := new_facts hH ha9; clear hH
        exact z a9 H13 ⟨t5, kp_t k12 k13, e13, k13 _ _ e12⟩
      · obtain ⟨t5, k0, ea9, et5⟩ := hg
        refine ⟨_, .of ea9, fun i σ H' => ∃ (x4 x5 : Option V), σ = [some (.ref r.r), some (.ref an), some (.ref x), some (.int (k : Nat)), x4, x5, some (.ref st), none, none] ∧ Go G L H2 H' ∧ KT H0 H', ?_, ?_, ?_, ?_⟩
        · exact ⟨none, none, rfl, Go.same k0, KT.refl H0⟩
        · rintro i σ H' _ ⟨_, _, _, _, kt⟩
          exact (Tp.kt (.inl ea9) kt).seq
        · rintro i y σ H' hy ⟨x4, x5, rfl, g, kt⟩
          have him : Ims H0 [V.str "nono", .non, .int 5, .bl true, .ref t5] [.str "nono", .none, .int 5, .bool true, .tuple [.str "a"]] :=
            .cons (.str _) (.cons .non (.cons (.int _) (.cons (.bl _) (.cons (.tup (.inl et5) (.cons (.str _) .nil)) .nil))))
          obtain ⟨d, hd, hyd⟩ := him.get hy
          have hyd := hyd.kt kt
          have hdm := List.mem_of_getElem? hd
          have hd6 : lv 6 d = true := by
            have key : ∀ d ∈ ([.str "nono", .none, .int 5, .bool true, .tuple [.str "a"]] : List PyData), lv 6 d = true := by decide +kernel
            exact key d hdm
          have hdn : ∀ z, d = .str z → z ∉ nameL.take c := fun z e => by
            subst e
            have key : ∀ d ∈ ([.str "nono", .none, .int 5, .bool true, .tuple [.str "a"]] : List PyData), ∀ z, d = .str z → z = "nono" := by
              intro d hd z e
              subst e
              have hd' : PyData.str z = .str "nono" ∨ PyData.str z = .none ∨ PyData.str z = .int 5 ∨ PyData.str z = .bool true ∨ PyData.str z = .tuple [.str "a"] := by simpa using hd
              rcases hd' with e | e | e | e | e <;> first | (cases e; rfl) | cases e
            rw [key _ hdm z rfl]
            exact nono
          refine r_gN ?_
          dsimp only
          refine r_seq (r_asg ?_)
          refine r_ins (hst2.kt g.kt).tp (k := k) (v := y) (by rw [List.length_map]; exact hk') (by rw [List.length_map]; omega) (fun H1 R z => r_var (v := .ref st) rfl z) (fun H1 R z => r_var rfl z) (fun H1 R z => r_var rfl z) fun p5 H5 k5 e5 => ?_
          have g5 : Go G L H2 H5 := g.trans (Go.same k5)
          have hp5 : Dp K H5 (.ref p5) (.tuple (insD (ss.map PyData.str) k d)) := .tup e5.seq (((((ims_strs ss).take k).app (.cons (hyd.kt (kp_kt k5)) .nil)).app ((ims_strs ss).drop k))).dp
          have lvi : lv 7 (.tuple (insD (ss.map PyData.str) k d)) = true := lv_tup fun z hz => by
            have hz' : z ∈ ss.map PyData.str ∨ z = d := by
              unfold insD at hz
              rcases List.mem_append.mp hz with hz | hz
              · rcases List.mem_append.mp hz with hz | hz
                · exact .inl (List.mem_of_mem_take hz)
                · exact .inr (List.mem_singleton.mp hz)
              · exact .inl (List.mem_of_mem_drop hz)
            rcases hz' with hz | rfl
            · obtain ⟨s, hs, e⟩ := List.mem_map.mp hz
              rw [← e]
              exact lvs s hs
            · exact hd6
          refine r_gN ?_
          dsimp only
          refine r_ifS (r_test (r_op ?_))
          refine r_told AP hL (g5.2 ht2) (x := x) rfl (RA2.kt g5.kt) (fun _ _ => rfl) (a_var rfl hp5) (sp_legal okR lvi (fun ds e => ?_) (st_ins hsub hk' hdn)) fun v' H6 g6 him6 => ?_
          · cases e
            unfold insD
            rw [List.length_append, List.length_append, List.length_take, List.length_drop, List.length_map]
            show min k ss.length + 1 + (ss.length - k) ≤ 60
            omega
          · repeat walk_at "rd"
            refine ⟨(by show 2 ≤ sizeLine; decide), fun pt hpt => ?_⟩
            generalize hH : upd H6 pt _ = H7; obtain ⟨m7, f7⟩ := new_facts hH hpt; clear hH
            refine r_neI (him6.kt (kp_kt m7)).dp (.tup (.of f7) (.cons (.str _) (.cons (.int _) .nil))) (lv_inv k) ?_
            repeat walk_at "rd"
            exact ⟨_, _, rfl, ((g5.trans g6).trans (Go.same m7)), kt.trans ((kp_kt k5).trans (g6.kt.trans (kp_kt m7)))⟩
        · rintro σ H' ⟨x4, x5, rfl, g, kt⟩
          have lv7s : ∀ us : List Str, (∀ z ∈ us, z ∈ ss) → lv 7 (.tuple (us.map PyData.str)) = true := fun us h => lv_tup fun z hz => by
            obtain ⟨s, hs, e⟩ := List.mem_map.mp hz
            rw [← e]
            exact lvs s (h s hs)
          have hstH := hst2.kt g.kt
          clear kt ea9 et5 k0
          dsimp only
          refine r_seq (r_ifF (fun H2 => Go G L H' H2) (fun R z => ?_) (fun H3 g3 => ?_))
          · refine r_and ?_
            repeat walk_at "rd"
            refine ⟨Nat.zero_le _, fun t0 ht0 => ?_⟩
            generalize hH : upd H' t0 _ = A1; obtain ⟨m1, f1⟩ := new_facts hH ht0; clear hH
            have gA1 : Go G L H' A1 := Go.same m1
            refine r_neD (d := .tuple (ss.map PyData.str)) (e := .tuple []) (.tup (hstH.kt gA1.kt).seq (dps_strs ss)) (.tup (.of f1) .nil) (lv_up (lv7s ss fun _ h => h) (by decide)) (by decide +kernel) ?_
            rw [eqv_nilT]
            repeat walk_at "rd"
            refine r_if (fun cc => ?_) (fun cc => ?_)
            · cases ss with
              | nil => cases cc
              | cons s ss' =>
              have hmem : ∀ z ∈ s :: s :: ss', z ∈ s :: ss' := fun z hz => by
                rcases List.mem_cons.mp hz with e | e
                · rw [e]; exact List.mem_cons_self
                · exact e
              have hst1 := hstH.kt gA1.kt
              refine r_test (r_op ?_)
              refine r_told AP hL ((g.trans gA1).2 ht2) (x := x) rfl (RA2.kt (g.trans gA1).kt) (fun _ _ => rfl) (d := .tuple ((s :: s :: ss').map PyData.str)) (fun H1 g1 R z => ?_) (sp_broken okR (lv7s _ hmem) (fun ds e => ?_) (st_twice nnd hsub)) fun v' H6 g6 him6 => ?_
              · repeat walk_at "rd"
                refine r_slT (hst1.kt g1.kt).tp fun p1 A2 n2 e2 => ?_
                rw [show cutV ((s :: ss').map V.str) none (some 1) = [.str s] from cut_to (k := 1) (by simp)] at e2
                refine r_var (v := .ref st) rfl ?_
                refine r_catT e2 ((hst1.kt g1.kt).kt (kp_kt n2)).tp (by rw [List.length_map]; exact Nat.le_trans (show 1 + (s :: ss').length ≤ 10 by omega) (by decide)) fun p2 A3 n3 e3 => ?_
                exact z _ A3 (Go.same (kp_t n2 n3)) (.tup e3.seq (dps_strs (s :: s :: ss')))
              · cases e
                rw [List.length_map]
                have z : (s :: s :: ss').length = (s :: ss').length + 1 := rfl
                omega
              · repeat walk_at "rd"
                refine ⟨(by show 2 ≤ sizeLine; decide), fun pt hpt => ?_⟩
                generalize hH : upd H6 pt _ = H7; obtain ⟨m7, f7⟩ := new_facts hH hpt; clear hH
                refine r_neI (him6.kt (kp_kt m7)).dp (.tup (.of f7) (.cons (.str _) (.cons (.int _) .nil))) (lv_inv 1) ?_
                repeat walk_at "rd"
                exact z _ ((gA1.trans g6).trans (Go.same m7))
            · exact z _ gA1
          · have hst3 := hstH.kt g3.kt
            have g23 := g.trans g3
            clear hstH
            dsimp only
            refine r_seq (r_asg ?_)
            repeat walk_at "rd"
            refine r_slT hst3.tp fun p1 A1 n1 e1 => ?_
            rw [cut_from1, ← List.map_drop] at e1
            repeat walk_at "rd"
            refine r_slT (hst3.kt (kp_kt n1)).tp fun p2 A2 n2 e2 => ?_
            rw [cut_to1, ← List.map_take] at e2
            refine r_catT (e1.kt (kp_kt n2)) e2 (by rw [List.length_map, List.length_map, List.length_drop, List.length_take]; exact Nat.le_trans (show ss.length - 1 + min 1 ss.length ≤ 10 by omega) (by decide)) fun p3 A3 n3 e3 => ?_
            rw [← List.map_append] at e3
            have k3 : Kp H3 A3 := kp_t n1 (kp_t n2 n3)
            have g2A : Go G L H2 A3 := g23.trans (Go.same k3)
            have hstA := hst3.kt (kp_kt k3)
            clear e1 e2 n1 n2 n3 hst3
            refine r_gN ?_
            refine r_seq (r_ifF (fun H2 => Go G L A3 H2) (fun R z => ?_) (fun H4 g4 => ?_))
            · refine r_and ?_
              repeat walk_at "rd"
              refine r_lenT hstA.seq ?_
              rw [List.length_map]
              repeat walk_at "rd"
              refine r_if (fun cc => ?_) (fun cc => ?_)
              · have hl : 1 < ss.length := by
                  have z : ((ss.length : Nat) : Int) > 1 := of_decide_eq_true cc
                  omega
                cases ss with
                | nil => exact absurd hl (by decide)
                | cons s ss1 =>
                cases ss1 with
                | nil => exact absurd hl (by simp)
                | cons t ss' =>
                have hmem : ∀ z ∈ (t :: ss') ++ [s], z ∈ s :: t :: ss' := fun z hz => by
                  rcases List.mem_append.mp hz with e | e
                  · exact List.mem_cons_of_mem _ e
                  · rw [List.mem_singleton.mp e]; exact List.mem_cons_self
                have ed : ((t :: ss') ++ [s]).map PyData.str = (t :: ss').map PyData.str ++ [.str s] := by rw [List.map_append]; rfl
                have hb : stateBad (nameL.take c) (.tuple (((t :: ss') ++ [s]).map PyData.str)) = some (ss'.length + 1) := by
                  rw [ed]
                  exact st_turned nnd hsub
                refine r_test (r_op ?_)
                refine r_told AP hL (g2A.2 ht2) (x := x) rfl (RA2.kt g2A.kt) (fun _ _ => rfl) (d := .tuple (((t :: ss') ++ [s]).map PyData.str)) (a_var rfl (.tup e3.seq (dps_strs ((t :: ss') ++ [s])))) (sp_broken okR (lv7s _ hmem) (fun ds e => ?_) hb) fun v' H6 g6 him6 => ?_
                · cases e
                  rw [List.length_map, List.length_append]
                  have z : (s :: t :: ss').length = (t :: ss').length + 1 := rfl
                  show (t :: ss').length + 1 ≤ 60
                  omega
                · repeat walk_at "rd"
                  refine r_lenT (hstA.kt g6.kt).seq ?_
                  rw [List.length_map]
                  repeat walk_at "rd"
                  refine ⟨(by show 2 ≤ sizeLine; decide), fun pt hpt => ?_⟩
                  generalize hH : upd H6 pt _ = H7; obtain ⟨m7, f7⟩ := new_facts hH hpt; clear hH
                  rw [show (((s :: t :: ss').length : Nat) : Int) - 1 = ((ss'.length + 1 : Nat) : Int) by show ((ss'.length + 1 + 1 : Nat) : Int) - 1 = _; omega] at f7
                  refine r_neI (him6.kt (kp_kt m7)).dp (.tup (.of f7) (.cons (.str _) (.cons (.int _) .nil))) (lv_inv (ss'.length + 1)) ?_
                  repeat walk_at "rd"
                  exact z _ (g6.trans (Go.same m7))
              · exact z _ (Go.refl _)
            · have g24 := g2A.trans g4
              have hst4 := hstA.kt g4.kt
              clear hstA
              dsimp only
              refine r_seq ?_
              refine forTg (fun a H0 => ∃ l, Kp H4 H0 ∧ H0 a = some (.tup [.non, .int 5, .ref l, .str "a"]) ∧ H0 l = some (.lst (ss.map V.str))) (fun R z => ?_) (fun a9 H0 hg => ?_)
              · repeat walk_at "rd"
                refine r_listT hst4.seq fun l hl => ?_
                generalize hH : upd H4 l _ = B1; obtain ⟨n1, f1⟩ := new_facts hH hl; clear hH
                repeat walk_at "rd"
                refine ⟨(by show 4 ≤ sizeLine; decide), fun a9 ha9 => ?_⟩
                generalize hH : upd B1 a9 _ = B2; obtain ⟨n2, f2⟩ := new_facts hH ha9; clear hH
                exact z a9 B2 ⟨l, kp_t n1 n2, f2, n2 _ _ f1⟩
              · obtain ⟨l, k0, ea9, el⟩ := hg
                have hb4 : ∀ H', Go G L H0 H' → DpAll K H' [V.non, .int 5, .ref l, .str "a"] [.none, .int 5, .list (ss.map PyData.str), .str "a"] := fun H' g' =>
                  .cons .non (.cons (.int _) (.cons (.lst (.of (g'.1 l _ el (fun ps z => by cases z))) (dps_strs ss)) (.cons (.str _) .nil)))
                refine ⟨_, .of ea9, fun i σ H' => ∃ (x4 : Option V), σ = [some (.ref r.r), some (.ref an), some (.ref x), some (.int (k : Nat)), x4, x5, some (.ref st), some (.ref p3), none] ∧ Go G L H0 H', ?_, ?_, ?_, ?_⟩
                · exact ⟨_, rfl, Go.refl H0⟩
                · rintro i σ H' _ ⟨_, _, g'⟩
                  exact (Tp.kt (.inl ea9) g'.kt).seq
                · rintro i y σ H' hy ⟨x4, rfl, g'⟩
                  obtain ⟨d, hd, hyd⟩ := Dps.get (hb4 H' g') hy
                  have hdm := List.mem_of_getElem? hd
                  have hd' : d = .none ∨ d = .int 5 ∨ d = .list (ss.map PyData.str) ∨ d = .str "a" := by simpa using hdm
                  have l7 : lv 7 d = true := by
                    rcases hd' with rfl | rfl | rfl | rfl
                    · rfl
                    · rfl
                    · exact lv_lst fun z hz => by
                        obtain ⟨s, hs, e⟩ := List.mem_map.mp hz
                        rw [← e]
                        exact lvs s hs
                    · decide +kernel
                  have hnt : ∀ ds, d = .tuple ds → ds.length ≤ 60 := fun ds e => by
                    rcases hd' with rfl | rfl | rfl | rfl <;> cases e
                  have hb : stateBad (nameL.take c) d = some 0 := by
                    rcases hd' with rfl | rfl | rfl | rfl <;> rfl
                  have g2H : Go G L H2 H' := (g24.trans (Go.same k0)).trans g'
                  refine r_gN ?_
                  dsimp only
                  refine r_ifS (r_test (r_op ?_))
                  refine r_told AP hL (g2H.2 ht2) (x := x) rfl (RA2.kt g2H.kt) (fun _ _ => rfl) (d := d) (fun H1 g1 R z => r_var rfl (z _ _ (Go.refl _) (Dp.go g1.1 hyd))) (sp_legal okR l7 hnt hb) fun v' H6 g6 him6 => ?_
                  repeat walk_at "rd"
                  refine ⟨(by show 2 ≤ sizeLine; decide), fun pt hpt => ?_⟩
                  generalize hH : upd H6 pt _ = H7; obtain ⟨m7, f7⟩ := new_facts hH hpt; clear hH
                  refine r_neI (him6.kt (kp_kt m7)).dp (.tup (.of f7) (.cons (.str _) (.cons (.int _) .nil))) (lv_inv 0) ?_
                  repeat walk_at "rd"
                  exact ⟨_, rfl, (g'.trans g6).trans (Go.same m7)⟩
                · rintro σ H' ⟨x4, rfl, g'⟩
                  have g2H : Go G L H2 H' := (g24.trans (Go.same k0)).trans g'
                  repeat walk_at "rd"
                  exact q H' (g02.trans g2H.toR) (hR2.go g2H)
end
/-! law -/
section
variable {P : Program} {w : World} {K : PySem.W.Frag} {mg : Str → Option Value} {base : Heap} {G : List Addr} {L : List (Addr × Str)}
theorem scr_of {H : Hp} {r a : Addr} {ns : List Int} (hr : H r = none) (h : SqL K H a (ns.map V.int)) : Scr K H r a ns := fun H' e => by
  rcases h with (h | ⟨ob, h⟩) | h
  · exact .inl (.inl (e a _ (ne_of_none h hr) (fun ps z => by cases z) h))
  · exact .inl (.inr ⟨ob, e a _ (ne_of_none h hr) (fun ps z => by cases z) h⟩)
  · exact .inr h
/-- the property of an object that is made here -/
theorem r_pclF {σ : L2.St} {H : Hp} {Q : VK} {ta : TE} (good : Addr → Hp → Prop) (hx : ∀ R : VK, (∀ x H1, good x H1 → R (.ref x) H1) → ta σ H R) (q : ∀ x H1, good x H1 → ∃ dx nv cv, H1 x = some (.ins (cR K) dx (rfs nv cv)) ∧ Q cv H1) : tProp (cR K) (getSp (cR K) "_clauses") [] E0 ta σ H Q :=
  hx _ fun x H1 g => by
    obtain ⟨dx, nv, cv, h1, q⟩ := q x H1 g
    exact ⟨x, dx, _, rfl, h1, x, dx, _, cv, rfl, h1, rfl, q⟩
theorem lcTg {σ : L2.St} {H : Hp} {Q : VK} {te : TE} {g : TG} {tt : TT} {el : TE} {vs : List Nat} (good : Addr → Hp → Prop) (he : ∀ R : VK, (∀ a H0, good a H0 → R (.ref a) H0) → te σ H R)
    (body : ∀ a H0, good a H0 → ∃ xs, SqT K H0 a xs ∧ ∃ Pv : Addr → Nat → Hp → Prop, (∀ D, H0 D = none → Pv D 0 (upd H0 D (.lst []))) ∧ (∀ D i H1, H0 D = none → i ≤ xs.length → Pv D i H1 → SqT K H1 a xs) ∧
      (∀ D i y H1, H0 D = none → xs[i]? = some y → Pv D i H1 → g y (wipe σ vs) H1 fun σ2 H2 => wipe σ2 vs = wipe σ vs ∧ tt σ2 H2 fun b H3 =>
        if b = true then el σ2 H3 fun y H4 => ∃ acc, H4 D = some (.lst acc) ∧ acc.length < sizeLine ∧ Pv D (i + 1) (upd H4 D (.lst (acc ++ [y]))) else Pv D (i + 1) H3) ∧ (∀ D H', H0 D = none → Pv D xs.length H' → Q (.ref D) H')) : tLc (iTup K te) g tt el vs σ H Q := by
  refine he _ fun a H0 hg => ?_
  obtain ⟨xs, hq, Pv, h0, hG, hs, hd⟩ := body a H0 hg
  have z := lcT (σ := σ) (te := fun _ _ R => R (.ref a) H0) (H := H0) (g := g) (tt := tt) (el := el) (vs := vs) (Q := Q) (fun _ z => z) hq Pv h0 hG hs hd
  exact z
/-! in a comprehension's block -/
section
variable {X : Cx} {s0 : Shared} {H0 : Hp} {bs : Scope} {cl : List (Str × Addr)} {C0 : Addr} {fp : List Addr}
abbrev bX (X : Cx) (s0 : Shared) (H0 : Hp) (bs : Scope) (cl : List (Str × Addr)) (C0 : Addr) (fp : List Addr) : Cx := X.blk s0 H0 bs (compEnvC bs cl C0 X.env) fp
theorem pe_raisedB {c Pn : Addr} {k j : Nat} {params : Arguments} {body : Expr} {sc : Scope} {t : XK → TE} {p lpos pos : Pos} {q : Str} (C : RzD X.K X.mg) (TB : LamX.TabB X.base X.mg c Pn) (hcode : (bX X s0 H0 bs cl C0 fp).env.code = .ref c) (hr : Room j X.A) (Lm : LamX.LamS (bX X s0 H0 bs cl C0 fp).env.scope sc)
    (hbody : ∀ (A : Around) (outer : List Env) (s : Shared) (H : Hp) (E : XK) (f c' : Addr), Room k (A.deeper (LamX.lamEnv (bX X s0 H0 bs cl C0 fp) sc s.heap.objs.size f c')) → PE (LamX.lamCx (bX X s0 H0 bs cl C0 fp) A outer s H E sc f c') body (t E))
    (hk : k + 2 ≤ j := by decide) (hg : Gl (bX X s0 H0 bs cl C0 fp) "_law_raised" := by rfl) (hdef : defaultsOf params (bX X s0 H0 bs cl C0 fp).env = ([], []) := by rfl)
    (hbind : ∀ (q : Str) (cl : List (Str × Addr)) (pm cv ctv : Value), bindArgs (PySem.W.kla_fn "<lambda>" q params body sc cl pm cv ctv) ⟨[], []⟩ = pure [] := by intro _ _ _ _ _; rfl) (hq : (bX X s0 H0 bs cl C0 fp).env.qual = q := by rfl) :
    PE (bX X s0 H0 bs cl C0 fp) (.Call (.Name "_law_raised" p) [.Lambda params body sc lpos] [] pos) (tLamS Pn (q ++ "<lambda>") (TR X.K G L) t) := by
  subst hq
  exact pe_raised (X := bX X s0 H0 bs cl C0 fp) C TB hcode hr Lm hbody hk hg hdef hbind
theorem pe_fmB {A : Around} {outer : List Env} {s : Shared} {H : Hp} {E : XK} {sc : Scope} {fL c' : Addr} {j : Nat} {e : Expr} {es : List Expr} {t : TA} {m : Str} {k : Nat} {sp : Sp} {o : Expr} {apos pos : Pos} {ta : TE} {pl : Sem Bool} (c : Fm X.prog X.w X.K X.mg X.base m k sp) (hr : Room j (A.deeper (LamX.lamEnv (bX X s0 H0 bs cl C0 fp) sc s.heap.objs.size fL c'))) (he : PE (LamX.lamCx (bX X s0 H0 bs cl C0 fp) A outer s H E sc fL c') o ta) (ha : PA (LamX.lamCx (bX X s0 H0 bs cl C0 fp) A outer s H E sc fL c') (e :: es) t) (hk : k ≤ j := by decide)
    (hc : eval (.Call (.Attribute o m apos) (e :: es) [] pos) (LamX.lamCx (bX X s0 H0 bs cl C0 fp) A outer s H E sc fL c').env = (do
      let ov ← eval o (LamX.lamCx (bX X s0 H0 bs cl C0 fp) A outer s H E sc fL c').env
      standAt apos.atName
      let (f, first) ← holding [ov] (getMethod ov m pl)
      callWith pos f first (backTo pos (starEach (e :: es) (LamX.lamCx (bX X s0 H0 bs cl C0 fp) A outer s H E sc fL c').env)) (backToKw pos (keywordEach [] (LamX.lamCx (bX X s0 H0 bs cl C0 fp) A outer s H E sc fL c').env))) := by rfl)
    (hs : starEach (e :: es) (LamX.lamCx (bX X s0 H0 bs cl C0 fp) A outer s H E sc fL c').env = (false, eval e (LamX.lamCx (bX X s0 H0 bs cl C0 fp) A outer s H E sc fL c').env) :: starEach es (LamX.lamCx (bX X s0 H0 bs cl C0 fp) A outer s H E sc fL c').env := by rfl) (hpl : (backTo pos (starEach es (LamX.lamCx (bX X s0 H0 bs cl C0 fp) A outer s H E sc fL c').env)).any (·.1) = false := by rfl) :
    PE (LamX.lamCx (bX X s0 H0 bs cl C0 fp) A outer s H E sc fL c') (.Call (.Attribute o m apos) (e :: es) [] pos) (tMeth (cR X.K) m sp [] E ta t) :=
  pe_fmL (X := bX X s0 H0 bs cl C0 fp) c hr he ha hk hc hs hpl
end
theorem dps_nats {H : Hp} : ∀ acc : List Nat, DpAll K H (acc.map fun i => V.int (i : Nat)) (acc.map fun i => PyData.int (i : Nat))
  | [] => .nil
  | _ :: zs => .cons (.int _) (dps_nats zs)
def spLaw (K : PySem.W.Frag) (G : List Addr) (L : List (Addr × Str)) : Sp := fun vs H Q _ => ∃ (a : Addr) (ns : List Int), vs = [.ref a] ∧ ns.length ≤ 63 ∧ SqL K H a (ns.map V.int) ∧ TBS G L H ∧ ∀ H', Q (.bl true) H'
abbrev nLaw : List Str := ["_law_script", "_law_row", "_law_names", "_law_clauses", "_law_turn", "_law_state", "_law_k", "_law_broken", "_law_clause_here", "_law_bad", "_law_bads", "_law_rules_here", "_law_name"]
theorem scLaw : FnScope nLaw ["_law_script"] (defScope sLaw) := C8.fnScope_by (by decide +kernel)
theorem sp_without {x : Addr} {ns : List Str} {cd : List PyData} {d : PyData} (ok : OkR ns cd) (hne : ∀ i : Nat, i < cd.length → d ≠ .int (i : Nat)) :
    ∀ H1 v' (Q' : VK) (E' : XK), RulesAt K H1 x ns cd → Dp K H1 v' d → TBS G L H1 → (∀ cls dd H', Go G L H1 H' → Told K cls dd H' noclauseE → E' cls dd H') → spWithout K G L [.ref x, v'] H1 Q' E' :=
  fun H1 v' Q' E' RA hd ht hE => ⟨x, v', ns, cd, d, rfl, RA, ok, hd, ht, fun _ cls dd H' g t => hE cls dd H' g t, fun i hi e => absurd e (hne i hi)⟩
theorem sp_with {x : Addr} {ns : List Str} {cd : List PyData} {d : PyData} (ok : OkR ns cd) (l6 : lv 6 d = true) (hb : clauseOk (ns.map PyData.str) d = false) :
    ∀ H1 v' (Q' : VK) (E' : XK), RulesAt K H1 x ns cd → Dp K H1 v' d → TBS G L H1 → (∀ cls dd H', Go G L H1 H' → Told K cls dd H' clauseE → E' cls dd H') → spWith K G L [.ref x, v'] H1 Q' E' :=
  fun H1 v' Q' E' RA hd ht hE => ⟨x, v', ns, cd, d, rfl, RA, ok, hd, l6, ht, fun _ cls dd H' g t => hE cls dd H' g t, fun h => by rw [hb] at h; cases h⟩
theorem ok_law {f c Pn : Addr} {fd : FuncData} (F : Fun K "law" "law" sLaw f fd) (hc : fd.code = .ref c) (TB : LamX.TabB base mg c Pn) (hL : (Pn, lamQ "law") ∈ L) (AP : Apart G L) (zL : mg "len" = none) (zl : mg "list" = none) (zT : mg "tuple" = none) (zR : mg "range" = none)
    (TK : Fd CX0 P w K mg base "_law_taken" 1 (spTaken K G L)) (RZ : RzD K mg) (IL : Fm P w K mg base "is_legal" 5 (spLegal K G L)) (BR : Fm P w K mg base "broken_clauses" 4 (spBroken K G L)) (M : Mkr P w K mg base G L) (W : Fm P w K mg base "with_clause" 6 (spWith K G L)) (WO : Fm P w K mg base "without_clause" 6 (spWithout K G L)) (FC : FreeC P w K mg base G L)
    (FN : Fp P w K mg base "names" "_names") (FL : Fp P w K mg base "clauses" "_clauses") (RU : Fd CX0 P w K mg base "_law_rules" 3 (spRulesL K G L)) (AR : Fd CX0 P w K mg base "_law_are_rules" 11 (spAreRules K G L)) (AS : Fd CX0 P w K mg base "_law_are_states" 11 (spAreStates K G L))
    (AL : Fd CX0 P w K mg base "_law_alike" 5 (spAlike K G L 4)) (HO : Fd CX0 P w K mg base "_law_holds" 1 (spHolds K G L)) (CL : Fd CX0 P w K mg base "_law_clause" 2 (spClause K G L)) : FnOk P w K mg base CX0 12 f fd ["_law_script"] (spLaw K G L) := by
  obtain ⟨oc, od, kV, doc, pm, an, cdv, ct, osl, efd, lk, hcd⟩ := F.ex
  subst efd
  have ec : cdv = .ref c := hc
  subst ec
  refine fn_of lk hcd scLaw (fun vs H Q E h => ?_) (fun A outer s H vs Q E hr h => ?_)
  · obtain ⟨a, ns, e, _⟩ := h
    rw [e]
    rfl
  · obtain ⟨a, ns, e, hlen, hS, ht, q⟩ := h
    subst e
    refine ⟨_, PSs.nox (pss_cons (ps_set (i := 1) scLaw.nd rfl (Or.inr rfl) (pe_lst (pa_cons (pv 0) (pa_cons pe_int (pa_cons pe_int (pa_cons pe_int pa_nil))))))
      (pss_cons (ps_asg (pe_fd (E := E0) RU hr pass0 (pa_cons (pv 1) (pa_cons pe_int pa_nil))) (pg_tup rfl (pgs_cons (pg_name (i := 2) scLaw.nd rfl (.inl rfl)) (pgs_cons (pg_name (i := 3) scLaw.nd rfl (.inr rfl)) pgs_nil))))
      (pss_cons (ps_set (i := 11) scLaw.nd rfl (Or.inr rfl) (pe_rules (E := E0) M hr passN (pa_cons (pv 2) (pa_cons (pv 3) pa_nil))))
      (pss_cons (ps_if (PW.pt (pw_or (pt_not (pt_val (pe_fd (E := E0) AR hr pass0 (pa_cons (pv 1) (pa_cons (pv 2) (pa_cons (pv 3) pa_nil)))))) (pw_or1 (pt_not (pt_val (pe_fd (E := E0) AS hr pass0 (pa_cons (pv 1) (pa_cons (pv 2) (pa_cons (pv 11) pa_nil)))))))))
          (pss_one (ps_ret pe_bl)) pss_nil)
      (pss_cons (ps_if (pt_not (pt_val (pe_fd (E := E0) AL hr pass0 (pa_cons (pe_lst (pa_cons (pe_fp FN hr (pv 11)) (pa_cons (pe_fp FL hr (pv 11)) (pa_cons (pe_fp FL hr (pe_free (E := E0) FC hr passN (pa_cons (pe_ix ix_tup (pv 2) pe_int (fun _ _ => rfl)) (pa_cons pe_str pa_nil)))) pa_nil))))
            (pa_cons (pe_lst (pa_cons (pv 2) (pa_cons (pv 3) (pa_cons (pe_tup pa_nil) pa_nil)))) pa_nil)))))
          (pss_one (ps_ret pe_bl)) pss_nil)
      (pss_cons (ps_for PassesOwn.never rfl (pi_range1 rfl zR (pa_cons pe_int pa_nil)) (pg_name (i := 4) scLaw.nd rfl (.inl rfl))
          (pss_cons (ps_set (i := 5) scLaw.nd rfl (Or.inr rfl) (pe_callTy c_tup rfl zT (by decide +kernel) (pa_cons (pe_lc (own := [("_law_name", 12)]) (g := gName 12) rfl scLaw.nd (pi_tup (pv 2))
            (blkOk_by (own := [("_law_name", 12)]) (N := nLaw) (sc := defScope sLaw) (by decide +kernel)) (fun _ _ _ _ _ => pg_name (i := 12) scLaw.nd rfl (.inl rfl))
            (fun _ _ _ _ _ => pts_one (pt_cmpR op_eq (pe_fd (E := E0) TK hr pass0 (pa_cons (pv 1) (pa_cons pe_int pa_nil))) pe_int (nomark _))) (fun _ _ _ _ _ => pv 12)) pa_nil)))
          (pss_cons (ps_setLc (i := 7) (own := [("_law_k", 6)]) (g := gName 6) rfl scLaw.nd rfl rfl (sw_true rfl rfl rfl rfl) (pi_range1 rfl zR (pa_cons (pe_callB c_len rfl zL boot_len (pa_cons (pv 3) pa_nil)) pa_nil))
            (blkOk_by (own := [("_law_k", 6)]) (N := nLaw) (sc := defScope sLaw) (by decide +kernel)) (fun _ _ _ _ _ => pg_name (i := 6) scLaw.nd rfl (.inl rfl))
            (fun _ _ _ _ _ => pts_one (pt_not (pt_val (pe_fd (E := E0) HO hr pass0 (pa_cons (pe_ix (r := rIxT K) ix_tup (pv 3) (pv 6) (fun _ _ => rfl)) (pa_cons (pv 5) pa_nil)))))) (fun _ _ _ _ _ => pv 6))
          (pss_one (ps_if (pt_not (pt_val (pe_fd (E := E0) AL hr pass0 (pa_cons (pe_lst (pa_cons (pe_fm (E := E0) BR hr (pv 11) passN (pa_cons (pv 5) pa_nil)) (pa_cons (pe_fm (E := E0) IL hr (pv 11) passN (pa_cons (pv 5) pa_nil)) pa_nil)))
              (pa_cons (pe_lst (pa_cons (pv 7) (pa_cons (pe_cmpR (op_eqD (u64 hr)) (pv 7) (pe_lst pa_nil) rfl) pa_nil))) pa_nil)))))
            (pss_one (ps_ret pe_bl)) pss_nil)))))
      (pss_cons (ps_set (i := 8) scLaw.nd rfl (Or.inl rfl) (pe_fd (E := E0) CL hr pass0 (pa_cons (pv 1) (pa_cons (pv 2) pa_nil))))
      (pss_cons (ps_if (PW.pt (pw_and (pt_cmpR op_lt (pe_callB c_len rfl zL boot_len (pa_cons (pv 3) pa_nil)) pe_int (nomark _)) (pw_and1 (pt_cmpR (op_neD (u64 hr)) (pe_fp FL hr (pe_fm (E := E0) W hr (pv 11) passN (pa_cons (pv 8) pa_nil))) (pe_op op_catA (pv 3) (pe_tup (pa_cons (pv 8) pa_nil))) rfl))))
          (pss_one (ps_ret pe_bl)) pss_nil)
      (pss_cons (ps_set (i := 6) scLaw.nd rfl (Or.inl rfl) (pe_fd (E := E0) TK hr pass0 (pa_cons (pv 1) (pa_cons (pe_op op_add (pe_callB c_len rfl zL boot_len (pa_cons (pv 3) pa_nil)) pe_int) pa_nil))))
      (pss_cons (ps_if (PW.pt (pw_and (pt_cmpR op_lt (pv 6) (pe_callB c_len rfl zL boot_len (pa_cons (pv 3) pa_nil)) (nomark _)) (pw_and1 (pt_cmpR (op_neD (u64 hr)) (pe_fp FL hr (pe_fm (E := E0) WO hr (pv 11) passN (pa_cons (pv 6) pa_nil)))
            (pe_op op_catA (pe_slice sl_tupA (pv 3) po_none (po_some (pv 6))) (pe_slice sl_tupA (pv 3) (po_some (pe_op op_add (pv 6) pe_int)) po_none)) rfl))))
          (pss_one (ps_ret pe_bl)) pss_nil)
      (pss_cons (ps_for PassesOwn.never rfl (pi_tup (pe_tup (pa_cons (pe_callB c_len rfl zL boot_len (pa_cons (pv 3) pa_nil)) (pa_cons (pe_op op_sub pe_int pe_int) (pa_cons pe_bl (pa_cons pe_non pa_nil)))))) (pg_name (i := 9) scLaw.nd rfl (.inr rfl))
          (pss_one (ps_if (pt_cmpR (op_neD (u64 hr)) (pe_raised (G := G) (L := L) (k := 6) RZ TB rfl hr (LamX.lamS_by (sc := defScope sLaw) (by decide +kernel)) (fun A outer s H E f c' hr2 => pe_fmL WO hr2 (pv 11) (pa_cons (pv 9) pa_nil))) (pe_tup (pa_cons pe_str pa_nil)) rfl)
            (pss_one (ps_ret pe_bl)) pss_nil)))
      (pss_cons (ps_setLc (i := 10) (own := [("_law_bad", 9)]) (g := gName 9) (tt := tYes) rfl scLaw.nd rfl rfl (sw_true rfl rfl rfl rfl) (pi_tup (pe_tup (pa_cons pe_non (pa_cons (pe_tup (pa_cons pe_str (pa_cons pe_str (pa_cons (pe_ix ix_tup (pv 2) pe_int (fun _ _ => rfl)) pa_nil))))
            (pa_cons (pe_tup (pa_cons pe_str (pa_cons (pe_ix ix_tup (pv 2) pe_int (fun _ _ => rfl)) (pa_cons (pe_ix ix_tup (pv 2) pe_int (fun _ _ => rfl)) pa_nil)))) (pa_cons (pe_callTy c_list rfl zl (by decide +kernel) (pa_cons (pv 8) pa_nil)) pa_nil))))))
            (blkOk_by (own := [("_law_bad", 9)]) (N := nLaw) (sc := defScope sLaw) (by decide +kernel)) (fun _ _ _ _ _ => pg_name (i := 9) scLaw.nd rfl (.inl rfl)) (fun _ _ _ _ _ => pts_nil) (fun _ _ _ _ _ => pv 9))
      (pss_one (ps_ret (pe_cmpR (op_eqD (u64 hr)) (pe_lc (own := [("_law_bad", 9)]) (g := gName 9) rfl scLaw.nd (pi_list (pv 10))
            (blkOk_by (own := [("_law_bad", 9)]) (N := nLaw) (sc := defScope sLaw) (by decide +kernel)) (fun _ _ _ _ _ => pg_name (i := 9) scLaw.nd rfl (.inr rfl))
            (fun _ _ _ _ _ => pts_one (pt_cmpR (r := rNeD K) (op_neD (u64 hr)) (pe_raisedB (G := G) (L := L) (k := 6) RZ TB rfl hr (LamX.lamS_by (sc := relS _ (defScope sLaw)) (by decide +kernel)) (fun A outer s H E f c' hr2 => pe_fmB W hr2 (pv 11) (pa_cons (pv 9) pa_nil))) (pe_tup (pa_cons pe_str pa_nil)) rfl))
            (fun _ _ _ _ _ => pv 9)) (pe_lst pa_nil) rfl))))))))))))))), ?_⟩
    -- the row
    repeat walk_at "rd"
    refine ⟨(by show 4 ≤ sizeLine; decide), fun r hr' => ?_⟩
    generalize hH : upd H r _ = H1; obtain ⟨k1, e1⟩ := new_facts hH hr'; clear hH
    have hR1 : Row K H1 ⟨r, a, ns⟩ := ⟨0, 0, 0, fun H' e' => scr_of hr' hS H' ((kp_ev k1).trans e'), hlen, e1, Int.le_refl 0⟩
    have ht1 : TBS G L H1 := (Go.same (G := G) (L := L) k1).2 ht
    clear hS ht k1 e1 hr'
    generalize hρ : (⟨r, a, ns⟩ : Rid) = ρ at hR1
    have er : r = ρ.r := by rw [← hρ]
    subst er
    clear hρ
    -- the rules drawn
    repeat walk_at "rd"
    refine ⟨ρ, rfl, hR1, fun p an ac c cd H2 h1 h9 hn hcl hl40 hcv hp g2 hR2 => ?_⟩
    refine r_pair (.inl (.inl hp)) ?_
    have ht2 := g2.2 ht1
    clear g2 hR1 ht1 hp
    cases hcv with
    | @tup _ xs0 _ hac hxs0 =>
    have okR := nm_okR h1 h9 hcl hl40
    obtain ⟨nb, okb, nms, nlen, nq, nono⟩ := nm_bad c (by omega) h1
    have nnd := nm_nodup c (by omega)
    have n0 : atI ((nameL.take c).map V.str) 0 = some (.str "q") := atI_nat (j := 0) (by rw [List.getElem?_map, nq]; rfl)
    have lvc : ∀ d ∈ cd, ln 1 d = true := fun d hd => by
      obtain ⟨w', a', b', rfl, hw', ha', hb'⟩ := hcl d hd
      have z1 : PyData.strOk w' = true := by rcases hw' with rfl | rfl | rfl <;> decide +kernel
      have z2 := (nms a' ha').1
      have z3 := (nms b' hb').1
      simp [ln, z1, z2, z3]
    have lncd : ln 2 (.tuple cd) = true := by
      have z : cd.length ≤ 100 := by omega
      simp only [ln, Bool.and_eq_true, decide_eq_true_eq, List.all_eq_true]
      exact ⟨z, lvc⟩
    have lnnm : ln 2 (.tuple (nmD c)) = true := by
      have key : ∀ c < 10, ln 2 (.tuple (nmD c)) = true := by decide +kernel
      exact key c (by omega)
    have lvcd : lv 8 (.tuple cd) = true := lv_up (ln_lv 2 _ lncd) (by decide)
    -- Rules(..)
    have hrb : rulesBad (.tuple (nmD c)) (.tuple cd) = none := by
      have z := okR.rb fun d hd => (hcl d hd).ok
      rw [if_pos hl40] at z
      exact z
    repeat walk_at "rd"
    refine mk_rulesR (dn := .tuple (nmD c)) (dc := .tuple cd) (.tup hn.seq (dps_strs _)) (.tup hac.seq hxs0.dp) (okN_of okb) ⟨lvcd, fun ds e => by cases e; omega⟩ ht2 hrb fun x dx H3 g3 hx => ?_
    have RA3 : RulesAt K H3 x (nameL.take c) cd := ⟨dx, an, ac, xs0, hx, hn.kt g3.kt, hac.kt g3.kt, hxs0.kt g3.kt⟩
    have hn3 := hn.kt g3.kt
    have hac3 := hac.kt g3.kt
    have hxs3 := hxs0.kt g3.kt
    have hR3 := hR2.go g3
    have ht3 := g3.2 ht2
    clear hx hn hac hxs0 hR2 ht2 g3
    repeat walk_at "rd"
    refine ⟨ρ, an, .ref ac, c, cd, rfl, hR3, h1, h9, hn3, hcl, hl40, .tup hac3 hxs3, ht3, fun H4 g4 hR4 => ?_⟩
    have kt4 := hR3.kt g4
    have hn4 := hn3.kt kt4
    have hac4 := hac3.kt kt4
    have hxs4 := hxs3.kt kt4
    have RA4 := RA3.kt kt4
    have ht4 := g4.2 ht3
    clear hn3 hac3 hxs3 RA3 ht3 hR3 kt4 g4
    repeat walk_at "rd"
    refine ⟨ρ, an, x, c, cd, rfl, hR4, h1, h9, hn4, hcl, hl40, RA4, ht4, fun H5 g5 hR5 => ?_⟩
    have kt5 := hR4.kt g5
    have hn5 := hn4.kt kt5
    have hac5 := hac4.kt kt5
    have hxs5 := hxs4.kt kt5
    have RA5 := RA4.kt kt5
    have ht5 := g5.2 ht4
    clear hn4 hac4 hxs4 RA4 ht4 hR4 kt5 g5
    -- the properties
    repeat walk_at "rd"
    refine r_pnames (fun R z => r_var rfl z) RA5 fun an' han' => ?_
    repeat walk_at "rd"
    refine r_pclauses (fun R z => r_var rfl z) RA5 fun ac' xs' hac' hxs' => ?_
    repeat walk_at "rd"
    refine r_pclF (fun xf H' => Go G L H5 H' ∧ ∃ dx nv acf, H' xf = some (.ins (cR K) dx (rfs nv (.ref acf))) ∧ Tp H' acf []) (fun R z => ?_) fun xf H6 hgood => ?_
    · refine ⟨rfl, r_cons ?_⟩
      repeat walk_at "rd"
      refine r_ixT hn5.seq n0 ?_
      repeat walk_at "rd"
      refine ⟨[.ref (cR K)], [.str "q", .str "other"], rfl, rfl, (by show 2 ≤ sizeLine; decide), fun na hna => ?_⟩
      generalize hH : upd H5 na _ = H8; obtain ⟨m8, f8⟩ := new_facts hH hna; clear hH
      have rbf : rulesBad (.tuple [.str "q", .str "other"]) (.tuple []) = none := by decide +kernel
      refine ⟨na, _, [.str "q", .str "other"], rfl, f8, .cons (.str _) (.cons (.str _) .nil), okN_of (by decide +kernel), (Go.same (G := G) (L := L) m8).2 ht5, fun D hD => (by rw [rbf] at hD; cases hD), fun _ H' xf dxf acf g hxf hacf => z xf H' ⟨(Go.same m8).trans g, dxf, _, acf, hxf, hacf⟩⟩
    obtain ⟨g6, dxf, nvf, acf, hxf, hacf⟩ := hgood
    refine ⟨dxf, nvf, _, hxf, ?_⟩
    repeat walk_at "rd"
    refine ⟨(by show 3 ≤ sizeLine; decide), fun p1 hp1 => ?_⟩
    generalize hH : upd H6 p1 _ = H7; obtain ⟨k7, f7⟩ := new_facts hH hp1; clear hH
    repeat walk_at "rd"
    refine ⟨Nat.zero_le _, fun t0 ht0 => ?_⟩
    generalize hH : upd H7 t0 _ = H8; obtain ⟨k8, f8⟩ := new_facts hH ht0; clear hH
    repeat walk_at "rd"
    refine ⟨(by show 3 ≤ sizeLine; decide), fun p2 hp2 => ?_⟩
    generalize hH : upd H8 p2 _ = H9; obtain ⟨k9, f9⟩ := new_facts hH hp2; clear hH
    have g59 : Go G L H5 H9 := g6.trans ((Go.same k7).trans ((Go.same k8).trans (Go.same k9)))
    have kt9 := g59.kt
    have k69 : Kp H6 H9 := kp_t k7 (kp_t k8 k9)
    repeat walk_at "rd"
    refine ⟨.ref p1, .ref p2, .list [.tuple (nmD c), .tuple cd, .tuple []], 3, rfl, rfl, .lst (.of (k9 _ _ (k8 _ _ f7))) (.cons (.tup (han'.kt kt9).seq (dps_strs _)) (.cons (.tup (hac'.kt kt9).seq (hxs'.kt kt9).dp) (.cons (.tup (hacf.kt (kp_kt k69)).seq .nil) .nil))),
      .lst (.of f9) (.cons (.tup (hn5.kt kt9).seq (dps_strs _)) (.cons (.tup (hac5.kt kt9).seq (hxs5.kt kt9).dp) (.cons (.tup (.of (k9 _ _ f8)) .nil) .nil))), ?_, by decide, fun H10 g10 => ?_⟩
    · show (decide (3 ≤ 100) && [PyData.tuple (nmD c), .tuple cd, .tuple []].all (ln 2)) = true
      simp only [List.all_cons, List.all_nil, lnnm, lncd, Bool.and_true]
      rfl
    have g510 := g59.trans g10
    have hn6 := hn5.kt g510.kt
    have hac6 := hac5.kt g510.kt
    have hxs6 := hxs5.kt g510.kt
    have RA6 := RA5.kt g510.kt
    have ht6 := g510.2 ht5
    have hR6 := hR5.go g510
    clear hn5 hac5 hxs5 RA5 ht5 hR5 han' hac' hxs' hxf hacf g6 k7 f7 k8 f8 k9 f9 g59 kt9 k69 g10 g510 hp1 ht0 hp2
    -- four states
    repeat walk_at "rd"
    refine forR (n := 4) (H0 := H10) (fun R z => r_c z) (by decide) (fun i σ H' => ∃ (x4 x5 x7 : Option V), σ = [some (.ref a), some (.ref ρ.r), some (.ref an), some (.ref ac), x4, x5, none, x7, none, none, none, some (.ref x), none] ∧ GoR G L ρ.r H10 H' ∧ Row K H' ρ) ?_ ?_ ?_
    · exact ⟨none, none, none, rfl, GoR.refl _, hR6⟩
    · rintro i σ H' hi ⟨x4, x5, x7, rfl, g, hR⟩
      have kt := hR6.kt g
      have hn := hn6.kt kt
      have hac := hac6.kt kt
      have hxs := hxs6.kt kt
      have RA := RA6.kt kt
      have ht := g.2 ht6
      refine r_gN ?_
      dsimp only
      repeat walk_at "rd"
      refine lcT (a := an) (xs := (nameL.take c).map V.str) (fun R z => r_var (v := .ref an) rfl z) hn.seq (fun D i H1 => ∃ ss : List Str, D ≠ ρ.r ∧ Nw H' D ∧ GoR G L ρ.r H' H1 ∧ Row K H1 ρ ∧ H1 D = some (.lst (ss.map V.str)) ∧ ss.Sublist ((nameL.take c).take i)) ?_ ?_ ?_ ?_
      · intro D hD
        have nD : D ≠ ρ.r := by
          obtain ⟨zs, z⟩ := hR.lst
          exact (ne_of_none z hD).symm
        have gN : Go G L H' (upd H' D (.lst [])) := Go.new hD
        exact ⟨[], nD, .of hD, gN.toR, hR.go gN, upd_same, List.nil_sublist _⟩
      · rintro D i H1 hD hi ⟨ss, nD, nw, g, hR', eD, hss⟩
        exact (hn.kt (hR.kt g)).seq
      · rintro D i y H1 hD hy ⟨ss, nD, nw, g, hR', eD, hss⟩
        have hi : i < (nameL.take c).length := by
          have z := (List.getElem?_eq_some_iff.mp hy).1
          rw [List.length_map] at z
          exact z
        have ey : y = .str ((nameL.take c)[i]) := by
          rw [List.getElem?_map, List.getElem?_eq_getElem hi] at hy
          exact (Option.some.inj hy).symm
        subst ey
        refine r_gN ⟨rfl, ?_⟩
        repeat walk_at "rd"
        refine r_taken hR' (by decide) (by decide) fun v1 H2 hv1 g1 hR1 => ?_
        have eD1 := g1.lst nD eD
        have gg := g.trans g1
        have htake : (nameL.take c).take (i + 1) = (nameL.take c).take i ++ [(nameL.take c)[i]] := (List.take_append_getElem hi).symm
        repeat walk_at "rd"
        refine r_eq rfl ?_
        repeat walk_at "rd"
        refine r_if (fun cc => ?_) (fun cc => ?_)
        · repeat walk_at "rd"
          have hsl : ss.length ≤ 9 := Nat.le_trans hss.length_le (by rw [List.length_take]; omega)
          have g2 := gg.updNw nw eD1 (ys := ss.map V.str ++ [.str ((nameL.take c)[i])])
          refine ⟨_, eD1, by rw [List.length_map]; exact Nat.lt_of_le_of_lt hsl (by decide), ss ++ [(nameL.take c)[i]], nD, nw, g2, hR.re hR1 g2.1 (by rw [upd_ne nD.symm]), by rw [upd_same, List.map_append]; rfl, ?_⟩
          rw [htake]
          exact List.Sublist.append hss (List.Sublist.refl _)
        · refine ⟨ss, nD, nw, gg, hR1, eD1, ?_⟩
          rw [htake]
          exact hss.trans (List.sublist_append_left _ _)
      · rintro D H1 hD ⟨ss, nD, nw, g1, hR1, eD, hss⟩
        have hsub : ss.Sublist (nameL.take c) := hss.trans (List.take_sublist _ _)
        have hsl : ss.length ≤ 9 := by
          have z := hsub.length_le
          omega
        repeat walk_at "rd"
        refine r_tupL2 eD fun st H2 k2 hst => ?_
        have g02 := g1.trans (Go.same (G := G) (L := L) k2).toR
        have hR2 := hR1.go (Go.same (G := G) (L := L) k2)
        have kt2 := hR.kt g02
        have hn2 := hn.kt kt2
        have hac2 := hac.kt kt2
        have hxs2 := hxs.kt kt2
        have RA2 := RA.kt kt2
        have ht2 := g02.2 ht
        have lnst : ln 1 (.tuple (ss.map PyData.str)) = true := by
          have z : (ss.map PyData.str).length ≤ 100 := by rw [List.length_map]; omega
          simp only [ln, Bool.and_eq_true, decide_eq_true_eq, List.all_eq_true]
          refine ⟨z, fun d hd => ?_⟩
          obtain ⟨s, hs, e⟩ := List.mem_map.mp hd
          rw [← e]
          exact (nms s (hsub.subset hs)).1
        have lvst : ∀ n, lv (n + 1) (.tuple (ss.map PyData.str)) = true := fun n => lv_up (ln_lv 1 _ lnst) (by omega)
        clear hn hac hxs RA ht g1 k2 hR1 nw eD hss kt2
        -- the broken ones
        repeat walk_at "rd"
        have hlx := hxs2.length
        refine lcR (n := cd.length) (H0 := H2) (fun R z => ?_) (by omega) (fun D i H3 => ∃ acc : List Nat, Go G L H2 H3 ∧ H3 D = some (.lst (acc.map fun i => V.int (i : Nat))) ∧ acc.length ≤ i ∧ brokenFrom (ss.map PyData.str) 0 cd = acc ++ brokenFrom (ss.map PyData.str) i (cd.drop i)) ?_ ?_ ?_
        · repeat walk_at "rd"
          refine r_lenT hac2.seq ?_
          rw [hlx]
          exact z
        · intro D hD
          exact ⟨[], Go.new hD, upd_same, Nat.le_refl _, rfl⟩
        · rintro D i H3 hD hil ⟨acc, g3, hDl, hal, hb2⟩
          have hdrop : cd.drop i = cd[i] :: cd.drop (i + 1) := List.drop_eq_getElem_cons hil
          obtain ⟨w', a', b', hce, hw', ha', hb'⟩ := hcl cd[i] (List.getElem_mem hil)
          have hix : i < xs0.length := by omega
          have hy : xs0[i]? = some xs0[i] := List.getElem?_eq_getElem hix
          obtain ⟨dy, hdy, hyd⟩ := hxs2.get hy
          have edy : dy = cd[i] := by
            rw [List.getElem?_eq_getElem hil] at hdy
            exact (Option.some.inj hdy).symm
          rw [edy, hce] at hyd
          rw [hce] at hdrop
          generalize xs0[i] = y at hy hyd
          refine r_gN ⟨rfl, ?_⟩
          repeat walk_at "rd"
          refine r_ixT (hac2.kt g3.kt).seq (atI_nat hy) ?_
          repeat walk_at "rd"
          refine ⟨y, .ref st, ss.map PyData.str, w', _, _, rfl, (hyd.kt g3.kt).dp, .tup (hst.kt g3.kt).seq (dps_strs ss), hw', lvst 7, (nms a' ha').1, (nms b' hb').1, fun H4 g4 => ?_⟩
          have g34 := g3.trans g4
          have hDl4 := g4.lst hDl
          repeat walk_at "rd"
          rw [hdrop] at hb2
          refine r_if (fun cc => ?_) (fun cc => ?_)
          · repeat walk_at "rd"
            refine ⟨_, hDl4, ?_, acc ++ [i], g34.updNew hD hDl4, ?_, ?_, ?_⟩
            · rw [List.length_map]
              exact Nat.lt_of_le_of_lt (show acc.length ≤ 40 by omega) (by decide)
            · rw [upd_same, List.map_append]
              rfl
            · rw [List.length_append]
              show acc.length + 1 ≤ i + 1
              omega
            · rw [hb2]
              have e : brokenFrom (ss.map PyData.str) i (.tuple [.str w', .str a', .str b'] :: cd.drop (i + 1)) = i :: brokenFrom (ss.map PyData.str) (i + 1) (cd.drop (i + 1)) := if_pos cc
              rw [e, List.append_assoc]
              rfl
          · refine ⟨acc, g34, hDl4, by omega, ?_⟩
            rw [hb2]
            have e : brokenFrom (ss.map PyData.str) i (.tuple [.str w', .str a', .str b'] :: cd.drop (i + 1)) = brokenFrom (ss.map PyData.str) (i + 1) (cd.drop (i + 1)) := if_neg (by rw [show brk (ss.map PyData.str) (.tuple [.str w', .str a', .str b']) = false from cc]; decide)
            rw [e]
        · rintro D H3 hD ⟨acc, g3, hDl, _, hb2⟩
          have e : brokenFrom (ss.map PyData.str) cd.length (cd.drop cd.length) = [] := by
            rw [List.drop_length]
            rfl
          rw [e, List.append_nil] at hb2
          have hbl := broken_len (ss.map PyData.str) cd 0
          rw [hb2] at hbl
          have hst3 := hst.kt g3.kt
          have RA3 := RA2.kt g3.kt
          have ht3 := g3.2 ht2
          repeat walk_at "rd"
          refine r_fm (x := x) (fun R z => r_var rfl z) RA3 (fun _ _ => rfl) (r_cons (r_var (v := .ref st) rfl (r_nil ?_)))
          refine ⟨x, .ref st, nameL.take c, cd, .tuple (ss.map PyData.str), rfl, RA3, okR, .tup hst3.seq (dps_strs ss), lvst 6, fun ds e => (by cases e; rw [List.length_map]; omega), fun i hi => (by rw [st_none hsub] at hi; cases hi), fun ds e hno H4 l1 g4 hl1 => ?_⟩
          cases e
          rw [hb2] at hl1
          repeat walk_at "rd"
          refine r_fm (x := x) (fun R z => r_var rfl z) (RA3.kt g4.kt) (fun _ _ => rfl) (r_cons (r_var (v := .ref st) rfl (r_nil ?_)))
          refine ⟨x, .ref st, nameL.take c, cd, .tuple (ss.map PyData.str), rfl, RA3.kt g4.kt, okR, .tup (hst3.kt g4.kt).seq (dps_strs ss), lvst 6, fun ds e => (by cases e; rw [List.length_map]; omega), fun i hi => (by rw [st_none hsub] at hi; cases hi), fun ds e hno H5 g5 => ?_⟩
          cases e
          rw [hb2]
          repeat walk_at "rd"
          refine ⟨(by show 2 ≤ sizeLine; decide), fun p1 hp1 => ?_⟩
          generalize hH : upd H5 p1 _ = H6; obtain ⟨k6, f6⟩ := new_facts hH hp1; clear hH
          have g36 : Go G L H3 H6 := g4.trans (g5.trans (Go.same k6))
          repeat walk_at "rd"
          refine ⟨Nat.zero_le _, fun t0 ht0 => ?_⟩
          generalize hH : upd H6 t0 _ = H7; obtain ⟨k7, f7⟩ := new_facts hH ht0; clear hH
          have g37 : Go G L H3 H7 := g36.trans (Go.same k7)
          have lnb : ln 2 (.list (acc.map fun i => PyData.int (i : Nat))) = true := by
            have z : (acc.map fun i => PyData.int (i : Nat)).length ≤ 100 := by rw [List.length_map]; omega
            simp only [ln, Bool.and_eq_true, decide_eq_true_eq, List.all_eq_true]
            refine ⟨z, fun d hd => ?_⟩
            obtain ⟨s, hs, e⟩ := List.mem_map.mp hd
            rw [← e]
            rfl
          have dpb : ∀ {H : Hp}, DpAll K H (acc.map fun i => V.int (i : Nat)) (acc.map fun i => PyData.int (i : Nat)) := fun {H} => dps_nats acc
          refine r_eqD (d := .list (acc.map fun i => PyData.int (i : Nat))) (e := .list []) (.lst (.of (g37.lst hDl)) dpb) (.lst (.of f7) .nil) (lv_up (ln_lv 2 _ lnb) (by decide)) (by decide +kernel) ?_
          rw [eqv_nil]
          have eb : decide ((acc.map fun i => PyData.int (i : Nat)) = []) = decide (acc = []) := by
            cases acc <;> rfl
          rw [eb]
          repeat walk_at "rd"
          refine ⟨(by show 2 ≤ sizeLine; decide), fun p2 hp2 => ?_⟩
          generalize hH : upd H7 p2 _ = H8; obtain ⟨k8, f8⟩ := new_facts hH hp2; clear hH
          have g38 : Go G L H3 H8 := g37.trans (Go.same k8)
          have g48 : Go G L H4 H8 := g5.trans ((Go.same k6).trans ((Go.same k7).trans (Go.same k8)))
          refine ⟨.ref p1, .ref p2, .list [.list (acc.map fun i => PyData.int (i : Nat)), .bool (decide (acc = []))], 3, rfl, rfl, .lst (.of (k8 _ _ (k7 _ _ f6))) (.cons (.lst (.of (g48.lst hl1)) dpb) (.cons (.bl _) .nil)),
            .lst (.of f8) (.cons (.lst (.of (g38.lst hDl)) dpb) (.cons (.bl _) .nil)), ?_, by decide, fun H9 g9 => ?_⟩
          · show (decide (2 ≤ 100) && [PyData.list (acc.map fun i => PyData.int (i : Nat)), .bool (decide (acc = []))].all (ln 2)) = true
            simp only [List.all_cons, List.all_nil, lnb, Bool.and_true]
            rfl
          have gE : Go G L H2 H9 := g3.trans (g38.trans g9)
          repeat walk_at "rd"
          exact ⟨_, _, _, rfl, g.trans (g02.trans gE.toR), hR2.go gE⟩
    · rintro σ H' ⟨x4, x5, x7, rfl, g, hR⟩
      have kt := hR6.kt g
      have hn := hn6.kt kt
      have hac := hac6.kt kt
      have hxs := hxs6.kt kt
      have RA := RA6.kt kt
      have ht := g.2 ht6
      clear hn6 hac6 hxs6 RA6 ht6 hR6 g kt
      -- a clause more
      repeat walk_at "rd"
      refine ⟨ρ, an, nameL.take c, rfl, hR, hn.tp, (by intro z; rw [z] at nlen; simp at nlen; omega), by omega, fun v d H1 hd him g1 hR1 => ?_⟩
      have kt1 := hR.kt g1
      have hn1 := hn.kt kt1
      have hac1 := hac.kt kt1
      have hxs1 := hxs.kt kt1
      have RA1 := RA.kt kt1
      have ht1 := g1.2 ht
      clear hn hac hxs RA ht g1 kt1 hR
      have lnd : ln 1 d = true := by
        obtain ⟨w', a', b', rfl, hw', ha', hb'⟩ := hd
        have z1 : PyData.strOk w' = true := by rcases hw' with rfl | rfl | rfl <;> decide +kernel
        have z2 := (nms a' ha').1
        have z3 := (nms b' hb').1
        simp [ln, z1, z2, z3]
      have hlx := hxs1.length
      refine r_gN ?_
      refine r_seq (r_ifF (fun H2 => Go G L H1 H2) (fun R z => ?_) (fun H3 g3 => ?_))
      · refine r_and ?_
        repeat walk_at "rd"
        refine r_lenT hac1.seq ?_
        rw [hlx]
        repeat walk_at "rd"
        refine r_if (fun cc => ?_) (fun cc => z _ (Go.refl _))
        have hlt : cd.length < 40 := by
          have z : ((cd.length : Nat) : Int) < 40 := of_decide_eq_true cc
          omega
        refine r_test (r_op ?_)
        refine r_pclF (fun x2 H' => Go G L H1 H' ∧ RulesAt K H' x2 (nameL.take c) (cd ++ [d])) (fun R z => ?_) fun x2 H2 hgood => ?_
        · refine r_fm (x := x) (fun R z => r_var rfl z) RA1 (fun _ _ => rfl) (r_cons (r_var (v := v) rfl (r_nil ?_)))
          exact ⟨x, v, nameL.take c, cd, d, rfl, RA1, okR, him.dp, lv_up (ln_lv 1 _ lnd) (by decide), ht1, fun hno => (by rw [hd.ok] at hno; cases hno), fun _ => ⟨him, fun h40 => absurd h40 (by omega), fun _ H' x2 g RA2 => z x2 H' ⟨g, RA2⟩⟩⟩
        obtain ⟨g2, dx2, an2, ac2, xs2, hx2, hn2, hac2, hxs2⟩ := hgood
        refine ⟨dx2, _, _, hx2, ?_⟩
        repeat walk_at "rd"
        refine ⟨(by show 1 ≤ sizeLine; decide), fun t0 ht0 => ?_⟩
        generalize hH : upd H2 t0 _ = H3; obtain ⟨k3, f3⟩ := new_facts hH ht0; clear hH
        have g13 := g2.trans (Go.same (G := G) (L := L) k3)
        refine r_catT (hac1.kt g13.kt) (.inl f3) (by rw [hlx]; exact Nat.le_trans (show cd.length + 1 ≤ 41 by omega) (by decide)) fun p4 H4 k4 e4 => ?_
        refine r_neI (D := .tuple (cd ++ [d])) (.tup (hac2.kt (kp_kt (kp_t k3 k4))).seq (hxs2.kt (kp_kt (kp_t k3 k4))).dp) (.tup e4.seq ((hxs1.kt (g13.kt.trans (kp_kt k4))).app (.cons (him.kt (g13.kt.trans (kp_kt k4))) .nil)).dp) ?_ ?_
        · refine lv_tup fun d' hd' => ?_
          rcases List.mem_append.mp hd' with e | e
          · exact lv_up (ln_lv 1 _ (lvc d' e)) (by decide)
          · rw [List.mem_singleton.mp e]
            exact lv_up (ln_lv 1 _ lnd) (by decide)
        repeat walk_at "rd"
        exact z _ (g13.trans (Go.same k4))
      have hR3 := hR1.go g3
      have hn3 := hn1.kt g3.kt
      have hac3 := hac1.kt g3.kt
      have hxs3 := hxs1.kt g3.kt
      have RA3 := RA1.kt g3.kt
      have ht3 := g3.2 ht1
      have him3 := him.kt g3.kt
      clear hn1 hac1 hxs1 RA1 ht1 hR1 him g3
      -- a clause less
      dsimp only
      repeat walk_at "rd"
      refine r_lenT hac3.seq ?_
      rw [hlx]
      repeat walk_at "rd"
      rw [show ((cd.length : Nat) : Int) + 1 = ((cd.length + 1 : Nat) : Int) from rfl]
      refine r_taken hR3 (by omega) (by omega) fun k H4 hk g4 hR4 => ?_
      have kt4 := hR3.kt g4
      have hn4 := hn3.kt kt4
      have hac4 := hac3.kt kt4
      have hxs4 := hxs3.kt kt4
      have RA4 := RA3.kt kt4
      have ht4 := g4.2 ht3
      have him4 := him3.kt kt4
      clear hn3 hac3 hxs3 RA3 ht3 hR3 him3 g4 kt4
      refine r_gN ?_
      refine r_seq (r_ifF (fun H5 => Go G L H4 H5) (fun R z => ?_) (fun H5 g5 => ?_))
      · refine r_and ?_
        repeat walk_at "rd"
        refine r_lenT hac4.seq ?_
        rw [hlx]
        repeat walk_at "rd"
        refine r_if (fun cc => ?_) (fun cc => z _ (Go.refl _))
        have hlt : k < cd.length := by
          have z : ((k : Nat) : Int) < ((cd.length : Nat) : Int) := of_decide_eq_true cc
          omega
        refine r_test (r_op ?_)
        refine r_pclF (fun x2 H' => Go G L H4 H' ∧ RulesAt K H' x2 (nameL.take c) (cd.take k ++ cd.drop (k + 1))) (fun R z => ?_) fun x2 H5 hgood => ?_
        · refine r_fm (x := x) (fun R z => r_var rfl z) RA4 (fun _ _ => rfl) (r_cons (r_var (v := .int (k : Nat)) rfl (r_nil ?_)))
          exact ⟨x, .int (k : Nat), nameL.take c, cd, .int (k : Nat), rfl, RA4, okR, .int _, ht4, fun hno => absurd rfl (hno k hlt), fun i hi e H' x2 g RA2 => by
            have e2 : ((k : Nat) : Int) = ((i : Nat) : Int) := by injection e
            have e3 : i = k := by omega
            subst e3
            exact z x2 H' ⟨g, RA2⟩⟩
        obtain ⟨g5, dx2, an2, ac2, xs2, hx2, hn2, hac2, hxs2⟩ := hgood
        refine ⟨dx2, _, _, hx2, ?_⟩
        repeat walk_at "rd"
        refine r_slT (hac4.kt g5.kt) fun p6 H6 k6 e6 => ?_
        rw [cut_to (by omega)] at e6
        repeat walk_at "rd"
        have g46 := g5.trans (Go.same (G := G) (L := L) k6)
        refine r_slT (hac4.kt g46.kt) fun p7 H7 k7 e7 => ?_
        rw [show ((k : Nat) : Int) + 1 = ((k + 1 : Nat) : Int) from rfl, cut_from (by omega)] at e7
        refine r_catT (e6.kt (kp_kt k7)) e7 (by rw [List.length_take, List.length_drop]; exact Nat.le_trans (show min k xs0.length + (xs0.length - (k + 1)) ≤ 41 by omega) (by decide)) fun p8 H8 k8 e8 => ?_
        have g48 : Go G L H4 H8 := g46.trans ((Go.same k7).trans (Go.same k8))
        have k58 : Kp H5 H8 := kp_t k6 (kp_t k7 k8)
        refine r_neI (D := .tuple (cd.take k ++ cd.drop (k + 1))) (.tup (hac2.kt (kp_kt k58)).seq (hxs2.kt (kp_kt k58)).dp) (.tup e8.seq (((hxs4.kt g48.kt).take k).app ((hxs4.kt g48.kt).drop (k + 1))).dp) ?_ ?_
        · refine lv_tup fun d' hd' => ?_
          have hm : d' ∈ cd := by
            rcases List.mem_append.mp hd' with e | e
            · exact List.mem_of_mem_take e
            · exact List.mem_of_mem_drop e
          exact lv_up (ln_lv 1 _ (lvc d' hm)) (by decide)
        repeat walk_at "rd"
        exact z _ g48
      have hn5 := hn4.kt g5.kt
      have hac5 := hac4.kt g5.kt
      have RA5 := RA4.kt g5.kt
      have ht5 := g5.2 ht4
      have him5 := him4.kt g5.kt
      clear hn4 hac4 hxs4 RA4 ht4 hR4 him4 g5
      -- numbers of no clause
      dsimp only
      refine r_seq ?_
      refine forTg (fun a H0 => Kp H5 H0 ∧ H0 a = some (.tup [.int (cd.length : Nat), .int (-1), .bl true, .non])) (fun R z => ?_) (fun a9 H0 hg => ?_)
      · repeat walk_at "rd"
        refine r_lenT hac5.seq ?_
        rw [hlx]
        repeat walk_at "rd"
        refine ⟨(by show 4 ≤ sizeLine; decide), fun a9 ha9 => ?_⟩
        generalize hH : upd H5 a9 _ = H6; obtain ⟨k6, f6⟩ := new_facts hH ha9; clear hH
        exact z a9 H6 ⟨k6, f6⟩
      obtain ⟨k0, ea9⟩ := hg
      refine ⟨_, .of ea9, fun i σ H' => ∃ (x9 : Option V), σ = [some (.ref a), some (.ref ρ.r), some (.ref an), some (.ref ac), x4, x5, some (.int (k : Nat)), x7, some v, x9, none, some (.ref x), none] ∧ Go G L H0 H', ?_, ?_, ?_, ?_⟩
      · exact ⟨none, rfl, Go.refl H0⟩
      · rintro i σ H' _ ⟨_, _, g'⟩
        exact (Tp.kt (.inl ea9) g'.kt).seq
      · rintro i y σ H' hy ⟨x9, rfl, g'⟩
        have him : Ims H' [V.int (cd.length : Nat), .int (-1), .bl true, .non] [.int (cd.length : Nat), .int (-1), .bool true, .none] := .cons (.int _) (.cons (.int _) (.cons (.bl _) (.cons .non .nil)))
        obtain ⟨dy, hdy, hyd⟩ := him.get hy
        have hdm := List.mem_of_getElem? hdy
        have hne : ∀ i : Nat, i < cd.length → dy ≠ .int (i : Nat) := fun i hi e => by
          have hd' : dy = .int (cd.length : Nat) ∨ dy = .int (-1) ∨ dy = .bool true ∨ dy = .none := by simpa using hdm
          rcases hd' with rfl | rfl | rfl | rfl
          · injection e with e2
            omega
          · injection e with e2
            omega
          · cases e
          · cases e
        have g5H : Go G L H5 H' := (Go.same k0).trans g'
        refine r_gN ?_
        dsimp only
        refine r_ifS (r_test (r_op ?_))
        refine r_told AP hL (g5H.2 ht5) (x := x) rfl (RA5.kt g5H.kt) (fun _ _ => rfl) (a_var rfl hyd.dp) (sp_without okR hne) fun v' H6 g6 him6 => ?_
        repeat walk_at "rd"
        refine ⟨(by show 1 ≤ sizeLine; decide), fun pt hpt => ?_⟩
        generalize hH : upd H6 pt _ = H7; obtain ⟨m7, f7⟩ := new_facts hH hpt; clear hH
        refine r_neI (him6.kt (kp_kt m7)).dp (.tup (.of f7) (.cons (.str _) .nil)) (by decide +kernel) ?_
        repeat walk_at "rd"
        exact ⟨_, rfl, (g'.trans g6).trans (Go.same m7)⟩
      · rintro σ H' ⟨x9, rfl, g'⟩
        have g5H : Go G L H5 H' := (Go.same k0).trans g'
        have hn6 := hn5.kt g5H.kt
        have RA6 := RA5.kt g5H.kt
        have ht6 := g5H.2 ht5
        have him6 := him5.kt g5H.kt
        clear hn5 hac5 RA5 ht5 him5 g5H g' ea9 k0
        -- no clauses
        obtain ⟨w', a', b', rfl, hw', ha', hb'⟩ := hd
        cases him6 with
        | @tup av ys _ hav hys =>
        repeat walk_at "rd"
        refine lcTg (fun a H0 => ∃ t1 t2 l, Kp H' H0 ∧ H0 a = some (.tup [.non, .ref t1, .ref t2, .ref l]) ∧ H0 t1 = some (.tup [.str "needs", .str "nono", .str "q"]) ∧ H0 t2 = some (.tup [.str "is", .str "q", .str "q"]) ∧ H0 l = some (.lst ys)) (fun R z => ?_) (fun a9 H0 hg => ?_)
        · repeat walk_at "rd"
          refine r_ixT hn6.seq n0 ?_
          repeat walk_at "rd"
          refine ⟨(by show 3 ≤ sizeLine; decide), fun t1 ht1 => ?_⟩
          generalize hH : upd H' t1 _ = A1; obtain ⟨k1, f1⟩ := new_facts hH ht1; clear hH
          repeat walk_at "rd"
          refine r_ixT (hn6.kt (kp_kt k1)).seq n0 ?_
          repeat walk_at "rd"
          refine r_ixT (hn6.kt (kp_kt k1)).seq n0 ?_
          repeat walk_at "rd"
          refine ⟨(by show 3 ≤ sizeLine; decide), fun t2 ht2 => ?_⟩
          generalize hH : upd A1 t2 _ = A2; obtain ⟨k2, f2⟩ := new_facts hH ht2; clear hH
          repeat walk_at "rd"
          refine r_listT (hav.kt (kp_kt (kp_t k1 k2))).seq fun l hl => ?_
          generalize hH : upd A2 l _ = A3; obtain ⟨k3, f3⟩ := new_facts hH hl; clear hH
          repeat walk_at "rd"
          refine ⟨(by show 4 ≤ sizeLine; decide), fun a9 ha9 => ?_⟩
          generalize hH : upd A3 a9 _ = A4; obtain ⟨k4, f4⟩ := new_facts hH ha9; clear hH
          exact z a9 A4 ⟨t1, t2, l, kp_t k1 (kp_t k2 (kp_t k3 k4)), f4, k4 _ _ (k3 _ _ (k2 _ _ f1)), k4 _ _ (k3 _ _ f2), k4 _ _ f3⟩
        obtain ⟨t1, t2, l, k0, ea9, et1, et2, el⟩ := hg
        have hb4 : ∀ H', Go G L H0 H' → DpAll K H' [V.non, .ref t1, .ref t2, .ref l] [.none, .tuple [.str "needs", .str "nono", .str "q"], .tuple [.str "is", .str "q", .str "q"], .list [.str w', .str a', .str b']] := fun H' g' =>
          .cons .non (.cons (.tup (Tp.kt (.inl et1) g'.kt).seq (.cons (.str _) (.cons (.str _) (.cons (.str _) .nil)))) (.cons (.tup (Tp.kt (.inl et2) g'.kt).seq (.cons (.str _) (.cons (.str _) (.cons (.str _) .nil)))) (.cons (.lst (.of (g'.lst el)) ((hys.kt ((kp_kt k0).trans g'.kt)).dp)) .nil)))
        refine ⟨_, .of ea9, fun D i H1 => Go G L H0 H1 ∧ ∃ acc : List V, acc = [V.non, .ref t1, .ref t2, .ref l].take i ∧ H1 D = some (.lst acc), ?_, ?_, ?_, ?_⟩
        · intro D hD
          exact ⟨Go.new hD, [], rfl, upd_same⟩
        · rintro D i H1 hD _ ⟨g', _⟩
          exact (Tp.kt (.inl ea9) g'.kt).seq
        · rintro D i y H1 hD hy ⟨g', acc, eacc, eD⟩
          refine r_gN ⟨rfl, ?_⟩
          refine r_yes ?_
          repeat walk_at "rd"
          have hi4 : i < 4 := (List.getElem?_eq_some_iff.mp hy).1
          refine ⟨acc, eD, ?_, g'.updNew hD eD, acc ++ [y], ?_, upd_same⟩
          · rw [eacc, List.length_take]
            exact Nat.lt_of_le_of_lt (show min i 4 ≤ 4 by omega) (by decide)
          · rw [eacc, List.take_succ, hy]
            rfl
        · rintro D H1 hD ⟨g', acc, eacc, eD⟩
          have eD' : H1 D = some (.lst [V.non, .ref t1, .ref t2, .ref l]) := by rw [eD, eacc]; rfl
          clear eD eacc
          have gH1 : Go G L H' H1 := (Go.same k0).trans g'
          have RA7 := RA6.kt gH1.kt
          have ht7 := gH1.2 ht6
          repeat walk_at "rd"
          refine lcL (a := D) (xs := [V.non, .ref t1, .ref t2, .ref l]) (fun R z => r_var (v := .ref D) rfl z) (.of eD') (fun E i H2 => Go G L H1 H2 ∧ H2 E = some (.lst [])) ?_ ?_ ?_ ?_
          · intro E hE
            exact ⟨Go.new hE, upd_same⟩
          · rintro E i H2 hE _ ⟨g2, _⟩
            exact .of (g2.lst eD')
          · rintro E i y H2 hE hy ⟨g2, eE⟩
            obtain ⟨dy, hdy, hyd⟩ := Dps.get (hb4 H2 (g'.trans g2)) hy
            have hdm := List.mem_of_getElem? hdy
            have hd' : dy = .none ∨ dy = .tuple [.str "needs", .str "nono", .str "q"] ∨ dy = .tuple [.str "is", .str "q", .str "q"] ∨ dy = .list [.str w', .str a', .str b'] := by simpa using hdm
            have l6 : lv 6 dy = true := by
              rcases hd' with rfl | rfl | rfl | rfl
              · rfl
              · decide +kernel
              · decide +kernel
              · refine lv_lst fun z hz => ?_
                exact lv_up (lv_mem (ln_lv 1 _ lnd) z hz) (by decide)
            have hbad : clauseOk ((nameL.take c).map PyData.str) dy = false := by
              rcases hd' with rfl | rfl | rfl | rfl
              · rfl
              · show (inD (.str "needs") wordsD && inD (.str "nono") ((nameL.take c).map PyData.str) && inD (.str "q") ((nameL.take c).map PyData.str)) = false
                rw [inD_strs "nono", decide_eq_false nono, Bool.and_false, Bool.false_and]
              · show (inD (.str "is") wordsD && inD (.str "q") ((nameL.take c).map PyData.str) && inD (.str "q") ((nameL.take c).map PyData.str)) = false
                rw [show inD (.str "is") wordsD = false by decide +kernel, Bool.false_and, Bool.false_and]
              · rfl
            refine r_gN ⟨rfl, ?_⟩
            refine r_test (r_op ?_)
            refine r_told AP hL (g2.2 ht7) (x := x) rfl (RA7.kt g2.kt) (fun _ _ => rfl) (a_var rfl hyd) (sp_with okR l6 hbad) fun v' H6 g6 him6 => ?_
            repeat walk_at "rd"
            refine ⟨(by show 1 ≤ sizeLine; decide), fun pt hpt => ?_⟩
            generalize hH : upd H6 pt _ = H7; obtain ⟨m7, f7⟩ := new_facts hH hpt; clear hH
            refine r_neI (him6.kt (kp_kt m7)).dp (.tup (.of f7) (.cons (.str _) .nil)) (by decide +kernel) ?_
            repeat walk_at "rd"
            exact ⟨(g2.trans g6).trans (Go.same m7), m7 _ _ (g6.lst eE)⟩
          · rintro E H2 hE ⟨g2, eE⟩
            repeat walk_at "rd"
            refine ⟨Nat.zero_le _, fun t0 ht0 => ?_⟩
            generalize hH : upd H2 t0 _ = H3; obtain ⟨k3, f3⟩ := new_facts hH ht0; clear hH
            refine r_eqD (d := .list []) (e := .list []) (.lst (.of (k3 _ _ eE)) .nil) (.lst (.of f3) .nil) (by decide +kernel) (by decide +kernel) ?_
            exact q H3
end
/-! the head's Hook: facts, defs at any address, tables that are empty -/
section
variable {K : PySem.W.Frag} {h : Heap}
def isB (a b : Option Bool) : Bool := decide (a = b)
theorem isB_ok {a b : Option Bool} (h : isB a b = true) : a = b := of_decide_eq_true h
/-- an exception class of its own __init__ -/
def oxB (K : PySem.W.Frag) (C : Addr) : Bool := match K.lookup C with
  | some ⟨.type t, _, .cls cd, sl⟩ => (match cd.mro, sl.toList with
    | .ref D :: bm, [_, _, _, _, some (.builtin n), _] => decide (t = "type") && (decide (D = C) && (decide (n = "ValueError.__new__") && (!cd.hasDel && (cd.hasDict && PySem.HandSPX.refsVE bm))))
    | _, _ => false)
  | _ => false
def oexB (K : PySem.W.Frag) (C : Addr) : Bool := oxB K C && (He.eqO (PySem.W.findIn K (.ref C) "__setattr__") (some (some (.builtin "object.__setattr__"))) && (isB (PySem.W.subIn K (.ref C) (.type "BaseException")) (some true) && (decide (PySem.W.typeIn K (.ref C) = some (.type "type")) && PySem.W.keepIn K (.ref C))))
theorem oexB_ok {C : Addr} (h : oexB K C = true) : OexC K C := by
  obtain ⟨h1, h⟩ := He.ba h
  obtain ⟨h2, h⟩ := He.ba h
  obtain ⟨h3, h⟩ := He.ba h
  obtain ⟨h4, h5⟩ := He.ba h
  refine ⟨?_, He.eqO_ok h2, isB_ok h3, of_decide_eq_true h4, h5⟩
  unfold oxB at h1
  split at h1
  · rename_i t dd cd sl ho
    split at h1
    · rename_i D bm k0 k1 k2 k3 n k5 hm hs
      obtain ⟨a1, h1⟩ := He.ba h1
      obtain ⟨a2, h1⟩ := He.ba h1
      obtain ⟨a3, h1⟩ := He.ba h1
      obtain ⟨a4, h1⟩ := He.ba h1
      obtain ⟨a5, a6⟩ := He.ba h1
      have e1 := of_decide_eq_true a1
      have e2 := of_decide_eq_true a2
      have e3 := of_decide_eq_true a3
      obtain ⟨nm, bs, mro, ns, qn, hd, sn, sub, ab, col, del⟩ := cd
      dsimp only at hm a4 a5
      have e4 : del = false := by
        cases del
        · rfl
        · cases a4
      subst hm e1 e2 e3 e4 a5
      have hsl : sl = #[k0, k1, k2, k3, some (.builtin "ValueError.__new__"), k5] := by
        obtain ⟨l⟩ := sl
        simp only at hs
        rw [hs]
      subst hsl
      exact ⟨nm, qn, ns, bs, bm, sn, sub, ab, col, dd, k0, k1, k2, k3, k5, ho, a6⟩
    · cases h1
  · cases h1
/-- what isinstance(e, ..) looks at -/
def ecB (K : PySem.W.Frag) (C : Addr) : Bool := He.eqO (PySem.W.findIn K (.ref C) "__getattribute__") (some (some (.builtin "BaseException.__getattribute__"))) && (He.eqO (PySem.W.findIn K (.ref C) "__getattr__") (some none) && (isB (PySem.W.subIn K (.ref C) (.type "BaseException")) (some true) && (PySem.W.hasDictIn K C &&
  (He.eqO (PySem.W.findIn K (.ref C) "__class__") (some (some (.builtin "object.__class__"))) && (He.eqO (PySem.W.specialIn K (.builtin "object.__class__") "__get__") (some (some (.builtin "getset_descriptor.__get__"))) && (isB (PySem.W.takesIn K (.builtin "object.__class__")) (some true) && isB (PySem.W.mroIn K C (.type "object")) (some true)))))))
theorem ecB_ok {C : Addr} (h : ecB K C = true) : ExcC K C := by
  obtain ⟨h1, h⟩ := He.ba h
  obtain ⟨h2, h⟩ := He.ba h
  obtain ⟨h3, h⟩ := He.ba h
  obtain ⟨h4, h⟩ := He.ba h
  obtain ⟨h5, h⟩ := He.ba h
  obtain ⟨h6, h⟩ := He.ba h
  obtain ⟨h7, h8⟩ := He.ba h
  exact ⟨He.eqO_ok h1, He.eqO_ok h2, isB_ok h3, h4, He.eqO_ok h5, He.eqO_ok h6, isB_ok h7, isB_ok h8⟩
/-- a property's getter -/
def pgO (K : PySem.W.Frag) (m : Str) : Addr := match PySem.W.recIn K (He.ma K (cR K) m) "property" with
  | some (.ref g :: _) => g
  | _ => 0
def prB (K : PySem.W.Frag) (m : Str) : Bool := He.eqO (PySem.W.findIn K (.ref (cR K)) m) (some (some (.ref (He.ma K (cR K) m)))) && (He.eqO (PySem.W.specialIn K (.ref (He.ma K (cR K) m)) "__get__") (some (some (.builtin "property.__get__"))) && (isB (PySem.W.takesIn K (.ref (He.ma K (cR K) m))) (some true) &&
  (match PySem.W.recIn K (He.ma K (cR K) m) "property" with
    | some (.ref _ :: _) => true
    | _ => false)))
theorem prB_ok {m : Str} (h : prB K m = true) : PropOf K (cR K) m (He.ma K (cR K) m) (pgO K m) := by
  obtain ⟨h1, h⟩ := He.ba h
  obtain ⟨h2, h⟩ := He.ba h
  obtain ⟨h3, h4⟩ := He.ba h
  refine ⟨He.eqO_ok h1, He.eqO_ok h2, isB_ok h3, ?_⟩
  unfold pgO
  split at h4
  · rename_i g r e
    exact ⟨r, by rw [e]⟩
  · cases h4
/-- a class that is read -/
def crB (K : PySem.W.Frag) (C : Addr) : Bool := PySem.W.readsIn K C (.type "type") && He.eqO (PySem.W.specialIn K (.ref C) "__getattribute__") (some (some (.builtin "type.__getattribute__")))
theorem crB_ok {C : Addr} (h : crB K C = true) : ClX.CRead K C (.type "type") := by
  obtain ⟨h1, h2⟩ := He.ba h
  exact ⟨h1, He.eqO_ok h2⟩
def fvB (K : PySem.W.Frag) : Bool := match PySem.W.findCls K (.ref (He.ga K "StepError")) (.type "type") "__init__" with
  | some (.val (.builtin n)) => decide (n = "ValueError.__init__")
  | _ => false
theorem fvB_ok (h : fvB K = true) : PySem.W.findCls K (.ref (He.ga K "StepError")) (.type "type") "__init__" = some (.val (.builtin "ValueError.__init__")) := by
  unfold fvB at h
  split at h
  · rename_i n e
    rw [e, of_decide_eq_true h]
  · cases h
/-- the tables' defs -/
def tfL : List He.Defn := [("is_name", none), ("_law_are_rules", none), ("_law_are_states", none), ("law", none)]
def tbL (K : PySem.W.Frag) : List Addr := tfL.map fun p => (He.cT K p).2
/-- the rest of the facts, as one Bool -/
def exL (K : PySem.W.Frag) : List Bool := [
  oexB K (He.ga K "InvalidRules"), oexB K (He.ga K "InvalidState"),
  He.eqO (PySem.W.findIn K (.ref (He.ga K "InvalidRules")) "__init__") (some (some (.ref (He.ma K (He.ga K "InvalidRules") "__init__")))), decide (PySem.W.typeIn K (.ref (He.ma K (He.ga K "InvalidRules") "__init__")) = some (.type "function")),
  He.eqO (PySem.W.findIn K (.ref (He.ga K "InvalidState")) "__init__") (some (some (.ref (He.ma K (He.ga K "InvalidState") "__init__")))), decide (PySem.W.typeIn K (.ref (He.ma K (He.ga K "InvalidState") "__init__")) = some (.type "function")),
  crB K (He.ga K "StepError"), fvB K, crB K (cR K),
  fourN.all (fun x => ecB K (He.ga K x)),
  fourN.all (fun x => isB (PySem.W.exmOne K (.ref (He.ga K x)) (.ref (He.ga K "StepError"))) (some true)),
  fourN.all (fun x => isB (PySem.W.kitOne K (.ref (He.ga K x)) (.type "ValueError")) (some true)),
  fourN.all (fun x => kindsN.all fun y => isB (PySem.W.kitOne K (.ref (He.ga K x)) (.ref (He.ga K y))) (some (decide (x = y)))),
  xfB K (He.ga K "InvalidRules"), xfB K (He.ga K "InvalidState"),
  prB K "names", prB K "clauses",
  He5.wrapB K (cR K) "classmethod" "classmethod.__get__" "free", PySem.W.fnIn K (He5.wf K (cR K) "classmethod" "free"),
  He.tupB K "WORDS" [.str "needs", .str "excludes", .str "either"],
  decide ((tbL K).Nodup)]
def exB (K : PySem.W.Frag) : Bool := (exL K).all id
/-- a def of the top, of Rules, of an error -/
def dT (x : Str) (i : Nat) : He5.DefA := ⟨fun K => He.fAd K (x, none), x, x, defArgs (top i), defBody (top i), defScope (top i), [], []⟩
def dR (m q : Str) (j : Nat) : He5.DefA := ⟨fun K => He.ma K (cR K) m, m, q, defArgs (sM j), defBody (sM j), defScope (sM j), [], []⟩
def dG (m q : Str) (j : Nat) : He5.DefA := ⟨fun K => pgO K m, m, q, defArgs (sM j), defBody (sM j), defScope (sM j), [], []⟩
def dF : He5.DefA := ⟨fun K => He5.wf K (cR K) "classmethod" "free", "free", "Rules.free", defArgs (sM 3), defBody (sM 3), defScope (sM 3), [], []⟩
def dE (C q : Str) (i : Nat) : He5.DefA := ⟨fun K => He.ma K (He.ga K C) "__init__", "__init__", q, defArgs (sErr i), defBody (sErr i), defScope (sErr i), [], []⟩
def fnL : List He5.DefA := [
  dT "is_number" 17, dT "is_name" 18, dT "is_clause" 19, dT "check_names" 20, dT "check_clauses" 21, dT "check_state" 22, dT "fulfils" 24,
  dT "_law_taken" 28, dT "_law_alike" 29, dT "_law_raised" 30, dT "_law_holds" 31, dT "_law_clause" 32, dT "_law_ordered" 33, dT "_law_rules" 34, dT "_law_are_rules" 35, dT "_law_are_states" 36, dT "law" 37,
  dE "InvalidRules" "InvalidRules.__init__" 2, dE "InvalidState" "InvalidState.__init__" 7,
  dR "__init__" "Rules.__init__" 0, dG "names" "Rules.names" 1, dG "clauses" "Rules.clauses" 2, dF, dR "with_clause" "Rules.with_clause" 4, dR "without_clause" "Rules.without_clause" 5, dR "broken_clauses" "Rules.broken_clauses" 6, dR "is_legal" "Rules.is_legal" 7, dT "broken_among" 25]
def gloN : List Str := ["StepError", "InvalidState", "IllegalState", "InvalidRules", "IllegalStep", "UnknownSwitch", "NoWay", "InvalidClause", "UnknownClause", "Impossible", "Rules", "WORDS",
  "is_number", "is_name", "is_clause", "check_names", "check_clauses", "check_state", "fulfils", "broken_among", "_law_taken", "_law_alike", "_law_raised", "_law_holds", "_law_clause", "_law_ordered", "_law_rules", "_law_are_rules", "_law_are_states", "law"]
def freeN : List Str := ["isinstance", "int", "bool", "str", "len", "all", "tuple", "enumerate", "list", "max", "min", "range", "ValueError"]
def faL : List He.Fa := [.int "MOST_LETTERS" 8, .int "MOST_NAMES" 10, .int "MOST_CLAUSES" 40, .str "LETTERS" letters, .cls "Rules", .noat "Rules" "_names", .noat "Rules" "_clauses", .mkr "Rules",
  .meth "Rules" "with_clause", .meth "Rules" "without_clause", .meth "Rules" "broken_clauses", .meth "Rules" "is_legal", .exc "InvalidClause", .exc "UnknownClause",
  .noat "InvalidRules" "part", .noat "InvalidRules" "index", .noat "InvalidState" "index"] ++ gloN.map He.Fa.glo ++ freeN.map He.Fa.free
structure SaysF (h : Heap) (K : PySem.W.Frag) : Prop where
  a : He5.SaysA faL fnL K
  more : exB K = true
  hd : ∀ p ∈ tfL, PySem.W.codeHdIn K (He.cT K p).1 (He.cT K p).2 = true
  out : ∀ p ∈ tfL, K.lookup (He.cT K p).2 = none
  empty : ∀ p ∈ tfL, h.get? (He.cT K p).2 = some { cls := .none, data := .fields #[] }
abbrev AlF : Type := He.AlD × Bool
def obsF (n : Nat) (g : Addr → Option Obj) : AlF := (He5.obsA faL fnL (He.frT g (He5.asA g n)), exB (He.frT g (He5.asA g n)) && He.tabsB g tfL (He.frT g (He5.asA g n)))
def valF : AlF := (He5.valA fnL, true)
theorem saysF_of {n : Nat} {h : Heap} (e : obsF n h.get? = valF) : SaysF h (He.frT h.get? (He5.asA h.get? n)) := by
  have e1 : He5.obsA faL fnL (He.frT h.get? (He5.asA h.get? n)) = He5.valA fnL := congrArg (fun z : AlF => z.1) e
  have e2 : (exB (He.frT h.get? (He5.asA h.get? n)) && He.tabsB h.get? tfL (He.frT h.get? (He5.asA h.get? n))) = true := congrArg (fun z : AlF => z.2) e
  obtain ⟨h1, h2⟩ := He.ba e2
  generalize hK : He.frT h.get? (He5.asA h.get? n) = K at e1 h1 h2
  have key : ∀ p ∈ tfL, PySem.W.codeHdIn K (He.cT K p).1 (He.cT K p).2 = true ∧ ∃ o, h.get? (He.cT K p).2 = some o ∧ He.emptyTab o = true := fun p hp => by
    obtain ⟨h3, h4⟩ := He.ba (List.all_eq_true.mp h2 p hp)
    refine ⟨h3, ?_⟩
    cases q : h.get? (He.cT K p).2 with
    | none =>
      rw [q] at h4
      cases h4
    | some o =>
      rw [q] at h4
      exact ⟨o, rfl, h4⟩
  refine ⟨e1, h1, fun p hp => (key p hp).1, fun p hp => ?_, fun p hp => ?_⟩
  · obtain ⟨_, o, q, z⟩ := key p hp
    have zz : ∀ a, h.get? a = some o → K.lookup a = none := fun a q => by
      rw [← hK]
      exact He.frT_none q z
    exact zz _ q
  · obtain ⟨_, o, q, z⟩ := key p hp
    rw [q, He.emptyTab_eq z]
def hkF : PySem.W.Hook where
  α := AlF
  obs := fun s => obsF 5 s.heap.get?
  val := fun _ => valF
  says := fun _ h => ∃ K : PySem.W.Frag, K.In h ∧ SaysF h K
  of := fun _ _ e => ⟨_, He.frT_in, saysF_of e⟩
  keeps := fun _ _ _ ⟨K, hK, c⟩ k => ⟨K, PySem.W.Frag.In.keeps hK k, ⟨c.a, c.more, c.hd, c.out, fun p hp => k _ _ (c.empty p hp)⟩⟩
def obT (s : PySem.W.SharedT) : AlF := obsF 5 (HandSHeadRun.getT s)
theorem obT_eq (s : PySem.W.SharedT) : obT s = hkF.obs s.abs := by
  have e : HandSHeadRun.getT s = s.abs.heap.get? := funext (HandSHeadRun.getT_eq s)
  unfold obT
  rw [e]
  rfl
end
abbrev RW : PySem.W.OpenRow := PySem.W.OpenLaw.row PySem.Challenge.rw_flagsteps_k01_invalid_rules_and_states
abbrev qv : Program := PySem.W.view RW.prog [37]
def looseN : List Str := (["StepError", "InvalidRules", "InvalidClause", "UnknownClause", "UnknownSwitch", "Impossible", "InvalidState", "IllegalState", "IllegalStep", "NoWay"] : List Str) ++ ([
  "LETTERS", "WORDS", "MOST_LETTERS", "MOST_NAMES", "MOST_CLAUSES", "is_number", "is_name", "is_clause", "check_names", "check_clauses", "check_state", "fulfils", "broken_among", "Rules",
  "_law_taken", "_law_alike", "_law_raised", "_law_holds", "_law_clause", "_law_ordered", "_law_rules", "_law_are_rules", "_law_are_states"] : List Str)
theorem runF (w : World) : HandSHeadRun.RunEq RW qv hkF obT 6000 looseN w := by
  intro os
  kernel_rfl
/-! the facts -/
section
variable {K : PySem.W.Frag} {h : Heap} {mg : Str → Option Value}
theorem SaysF.fa (c : SaysF h K) {f : He.Fa} (hf : f ∈ faL) : f.ok K = true := by
  obtain ⟨i, hi, e⟩ := List.mem_iff_getElem.mp hf
  exact c.a.fact i (f := f) (by rw [List.getElem?_eq_getElem hi, e])
theorem SaysF.glo (c : SaysF h K) (X : K.In h) (G : h.Ns mainGlobals mg) : ∀ x ∈ gloN, mg x = some (.ref (He.ga K x)) := fun x hx =>
  He.glo_ok X G (c.fa (List.mem_append.mpr (.inl (List.mem_append.mpr (.inr (List.mem_map_of_mem hx))))))
theorem SaysF.free (c : SaysF h K) (X : K.In h) (G : h.Ns mainGlobals mg) : ∀ x ∈ freeN, mg x = none := fun x hx =>
  He.free_ok X G (c.fa (List.mem_append.mpr (.inr (List.mem_map_of_mem hx))))
theorem SaysF.ex (c : SaysF h K) (i : Nat) {b : Bool} (e : (exL K)[i]? = some b := by rfl) : b = true := List.all_eq_true.mp c.more b (List.mem_of_getElem? e)
theorem SaysF.dt (c : SaysF h K) (i : Nat) {x : Str} {j : Nat} (e : fnL[i]? = some (dT x j) := by rfl) : ∃ fd, L2.FunD K x x (defArgs (top j)) (defBody (top j)) (defScope (top j)) [] [] (He.ga K x) fd := c.a.def_ i e
theorem SaysF.dr (c : SaysF h K) (i : Nat) {m q : Str} {j : Nat} (e : fnL[i]? = some (dR m q j) := by rfl) : ∃ fd, L2.FunD K m q (defArgs (sM j)) (defBody (sM j)) (defScope (sM j)) [] [] (He.ma K (cR K) m) fd := c.a.def_ i e
theorem SaysF.dg (c : SaysF h K) (i : Nat) {m q : Str} {j : Nat} (e : fnL[i]? = some (dG m q j) := by rfl) : ∃ fd, L2.FunD K m q (defArgs (sM j)) (defBody (sM j)) (defScope (sM j)) [] [] (pgO K m) fd := c.a.def_ i e
theorem SaysF.de (c : SaysF h K) (i : Nat) {C q : Str} {j : Nat} (e : fnL[i]? = some (dE C q j) := by rfl) : ∃ fd, L2.FunD K "__init__" q (defArgs (sErr j)) (defBody (sErr j)) (defScope (sErr j)) [] [] (He.ma K (He.ga K C) "__init__") fd := c.a.def_ i e
theorem SaysF.df (c : SaysF h K) (i : Nat) (e : fnL[i]? = some dF := by rfl) : ∃ fd, L2.FunD K "free" "Rules.free" (defArgs (sM 3)) (defBody (sM 3)) (defScope (sM 3)) [] [] (He5.wf K (cR K) "classmethod" "free") fd := c.a.def_ i e
theorem code_at {x : Str} {st : Stmt} {fd : FuncData} (F : L2.FunD K x x (defArgs st) (defBody st) (defScope st) [] [] (He.ga K x) fd) : fd.code = .ref (He.cT K (x, none)).1 := by
  obtain ⟨oc, od, dV, kV, doc, pm, an, cdv, ct, osl, e, l, hc, _⟩ := F.ex
  obtain ⟨cc, ec⟩ := He.codeIn_ref hc
  subst e
  have e2 : cdv = .ref cc := ec
  subst e2
  have z : He.codeOf K (x, none) = cc := He.codeOf_eq (p := (x, none)) l rfl
  show Value.ref cc = .ref (He.codeOf K (x, none))
  rw [z]
theorem apart4 {t0 t1 t2 t3 : Addr} {q1 q2 q3 : Str} (h : [t0, t1, t2, t3].Nodup) : Apart [t0] [(t1, q1), (t2, q2), (t3, q3)] := by
  simp only [List.nodup_cons, List.mem_cons, List.not_mem_nil, or_false, not_or, not_false_eq_true, List.nodup_nil, and_true] at h
  obtain ⟨⟨a1, a2, a3⟩, ⟨b1, b2⟩, c1⟩ := h
  refine ⟨fun p hp z => ?_, fun p hp q hq e => ?_⟩
  · have z' := List.mem_singleton.mp z
    simp only [List.mem_cons, List.not_mem_nil, or_false] at hp
    rcases hp with rfl | rfl | rfl
    · exact a1 z'.symm
    · exact a2 z'.symm
    · exact a3 z'.symm
  · simp only [List.mem_cons, List.not_mem_nil, or_false] at hp hq
    rcases hp with rfl | rfl | rfl <;> rcases hq with rfl | rfl | rfl <;> first | rfl | exact absurd e b1 | exact absurd e b2 | exact absurd e c1 | exact absurd e.symm b1 | exact absurd e.symm b2 | exact absurd e.symm c1
theorem tab0 {H : Hp} {P : Addr} (e : H P = some (.tbl #[])) : GxR.TabG H P := ⟨#[], e, trivial⟩
theorem tabS0 {H : Hp} {P : Addr} {q : Str} (e : H P = some (.tbl #[])) : LamX.TabS H P q := ⟨#[], e, trivial, fun _ _ z => by cases z⟩
theorem facts (w : World) (X : K.In h) (G : h.Ns mainGlobals mg) {f : Addr} (hfa : mg "law" = some (.ref f)) (c : SaysF h K) : LamX.LawAtS PySem.Challenge.rw_flagsteps_k01_invalid_rules_and_states w K CX0 12 63 "_law_script" mg f h := by
  have gg := c.glo X G
  have zz := c.free X G
  obtain ⟨t8, g8⟩ := He.int_ok X G (c.a.fact 0 (f := .int "MOST_LETTERS" 8) rfl)
  obtain ⟨t10, g10⟩ := He.int_ok X G (c.a.fact 1 (f := .int "MOST_NAMES" 10) rfl)
  obtain ⟨t40, g40⟩ := He.int_ok X G (c.a.fact 2 (f := .int "MOST_CLAUSES" 40) rfl)
  obtain ⟨tz, gL⟩ := He.str_ok X G (c.a.fact 3 (f := .str "LETTERS" letters) rfl)
  have kCls := He.cls_ok (c.a.fact 4 (f := .cls "Rules") rfl)
  have kN1 := He.noat_ok (c.a.fact 5 (f := .noat "Rules" "_names") rfl)
  have kN2 := He.noat_ok (c.a.fact 6 (f := .noat "Rules" "_clauses") rfl)
  have kMk := He.mkr_ok (c.a.fact 7 (f := .mkr "Rules") rfl)
  have mW := He.meth_ok (c.a.fact 8 (f := .meth "Rules" "with_clause") rfl)
  have mWO := He.meth_ok (c.a.fact 9 (f := .meth "Rules" "without_clause") rfl)
  have mB := He.meth_ok (c.a.fact 10 (f := .meth "Rules" "broken_clauses") rfl)
  have mI := He.meth_ok (c.a.fact 11 (f := .meth "Rules" "is_legal") rfl)
  obtain ⟨x1, x2, x3, x4⟩ := He.exc_ok (c.a.fact 12 (f := .exc "InvalidClause") rfl)
  obtain ⟨y1, y2, y3, y4⟩ := He.exc_ok (c.a.fact 13 (f := .exc "UnknownClause") rfl)
  have n1 : PySem.W.findIn K (.ref (He.ga K "InvalidRules")) "part" = some none := He.noat_ok (c.a.fact 14 (f := .noat "InvalidRules" "part") rfl)
  have n2 : PySem.W.findIn K (.ref (He.ga K "InvalidRules")) "index" = some none := He.noat_ok (c.a.fact 15 (f := .noat "InvalidRules" "index") rfl)
  have n3 : PySem.W.findIn K (.ref (He.ga K "InvalidState")) "index" = some none := He.noat_ok (c.a.fact 16 (f := .noat "InvalidState" "index") rfl)
  obtain ⟨dNum, FNum⟩ := c.dt 0 (x := "is_number") (j := 17)
  obtain ⟨dNam, FNam⟩ := c.dt 1 (x := "is_name") (j := 18)
  obtain ⟨dCla, FCla⟩ := c.dt 2 (x := "is_clause") (j := 19)
  obtain ⟨dChN, FChN⟩ := c.dt 3 (x := "check_names") (j := 20)
  obtain ⟨dChC, FChC⟩ := c.dt 4 (x := "check_clauses") (j := 21)
  obtain ⟨dChS, FChS⟩ := c.dt 5 (x := "check_state") (j := 22)
  obtain ⟨dFul, FFul⟩ := c.dt 6 (x := "fulfils") (j := 24)
  obtain ⟨dTak, FTak⟩ := c.dt 7 (x := "_law_taken") (j := 28)
  obtain ⟨dAli, FAli⟩ := c.dt 8 (x := "_law_alike") (j := 29)
  obtain ⟨dRai, FRai⟩ := c.dt 9 (x := "_law_raised") (j := 30)
  obtain ⟨dHol, FHol⟩ := c.dt 10 (x := "_law_holds") (j := 31)
  obtain ⟨dLCl, FLCl⟩ := c.dt 11 (x := "_law_clause") (j := 32)
  obtain ⟨dOrd, FOrd⟩ := c.dt 12 (x := "_law_ordered") (j := 33)
  obtain ⟨dRul, FRul⟩ := c.dt 13 (x := "_law_rules") (j := 34)
  obtain ⟨dAR, FAR⟩ := c.dt 14 (x := "_law_are_rules") (j := 35)
  obtain ⟨dAS, FAS⟩ := c.dt 15 (x := "_law_are_states") (j := 36)
  obtain ⟨dLaw, FLaw⟩ := c.dt 16 (x := "law") (j := 37)
  obtain ⟨dIR, FIR⟩ := c.de 17 (C := "InvalidRules") (q := "InvalidRules.__init__") (j := 2)
  obtain ⟨dIS, FIS⟩ := c.de 18 (C := "InvalidState") (q := "InvalidState.__init__") (j := 7)
  obtain ⟨dIni, FIni⟩ := c.dr 19 (m := "__init__") (q := "Rules.__init__") (j := 0)
  obtain ⟨dGN, FGN⟩ := c.dg 20 (m := "names") (q := "Rules.names") (j := 1)
  obtain ⟨dGC, FGC⟩ := c.dg 21 (m := "clauses") (q := "Rules.clauses") (j := 2)
  obtain ⟨dFre, FFre⟩ := c.df 22
  obtain ⟨dWi, FWi⟩ := c.dr 23 (m := "with_clause") (q := "Rules.with_clause") (j := 4)
  obtain ⟨dWo, FWo⟩ := c.dr 24 (m := "without_clause") (q := "Rules.without_clause") (j := 5)
  obtain ⟨dBr, FBr⟩ := c.dr 25 (m := "broken_clauses") (q := "Rules.broken_clauses") (j := 6)
  obtain ⟨dAm, FAm⟩ := c.dt 27 (x := "broken_among") (j := 25)
  obtain ⟨dIL, FIL⟩ := c.dr 26 (m := "is_legal") (q := "Rules.is_legal") (j := 7)
  have oR := oexB_ok (c.ex 0)
  have oS := oexB_ok (c.ex 1)
  have iR := He.eqO_ok (c.ex 2)
  have tR := of_decide_eq_true (c.ex 3)
  have iS := He.eqO_ok (c.ex 4)
  have tS := of_decide_eq_true (c.ex 5)
  have cS := crB_ok (c.ex 6)
  have fv := fvB_ok (c.ex 7)
  have cC := crB_ok (c.ex 8)
  have e9 := List.all_eq_true.mp (c.ex 9)
  have e10 := List.all_eq_true.mp (c.ex 10)
  have e11 := List.all_eq_true.mp (c.ex 11)
  have e12 := List.all_eq_true.mp (c.ex 12)
  have xR := xfB_ok (c.ex 13)
  have xS := xfB_ok (c.ex 14)
  have pN := prB_ok (c.ex 15)
  have pC := prB_ok (c.ex 16)
  have wF := c.ex 17
  have fF := c.ex 18
  have hW := He.tupB_ok (c.ex 19)
  have nd : (tbL K).Nodup := of_decide_eq_true (c.ex 20)
  have hf : f = He.ga K "law" := by
    have z := gg "law" (by decide +kernel)
    rw [hfa] at z
    injection z with z
    injection z
  subst hf
  refine ⟨dLaw, tfL.map (He.cT K), spLaw K [(He.cT K ("is_name", none)).2] [((He.cT K ("_law_are_rules", none)).2, lamQ "_law_are_rules"), ((He.cT K ("_law_are_states", none)).2, lamQ "_law_are_states"), ((He.cT K ("law", none)).2, lamQ "law")], fun p hp => ?_, fun p hp => ?_, fun p hp => ?_, fun s u => ?_, fun H a ns hl _ ht hS => ?_, fun base Xb Gb TB => ?_⟩
  · obtain ⟨q, hq, e⟩ := List.mem_map.mp hp
    rw [← e]
    exact c.empty q hq
  · obtain ⟨q, hq, e⟩ := List.mem_map.mp hp
    rw [← e]
    exact c.out q hq
  · obtain ⟨q, hq, e⟩ := List.mem_map.mp hp
    rw [← e]
    exact PySem.W.codeHd_of_K X (c.hd q hq)
  · exact FLaw.bindsA (ps := ["_law_script"]) (fun _ _ _ _ _ _ us hl => match us, hl with | [_], _ => rfl) s [u] rfl
  · have tt : ∀ x, (x, none) ∈ tfL → H (He.cT K (x, none)).2 = some (.tbl #[]) := fun x hx => ht _ (List.mem_map_of_mem hx)
    refine ⟨a, ns, rfl, hl, hS, ⟨fun p hp => ?_, fun p hp => ?_⟩, fun _ => rfl⟩
    · rw [List.mem_singleton.mp hp]
      exact tab0 (tt _ (by decide +kernel))
    · simp only [List.mem_cons, List.not_mem_nil, or_false] at hp
      rcases hp with rfl | rfl | rfl
      · exact tabS0 (tt "_law_are_rules" (by decide +kernel))
      · exact tabS0 (tt "_law_are_states" (by decide +kernel))
      · exact tabS0 (tt "law" (by decide +kernel))
  · have tb : ∀ x, (x, none) ∈ tfL → LamX.TabB base mg (He.cT K (x, none)).1 (He.cT K (x, none)).2 := fun x hx => TB _ (List.mem_map_of_mem hx)
    have tNam := tb "is_name" (by decide +kernel)
    have tAR := tb "_law_are_rules" (by decide +kernel)
    have tAS := tb "_law_are_states" (by decide +kernel)
    have tLaw := tb "law" (by decide +kernel)
    have AP : Apart [(He.cT K ("is_name", none)).2] [((He.cT K ("_law_are_rules", none)).2, lamQ "_law_are_rules"), ((He.cT K ("_law_are_states", none)).2, lamQ "_law_are_states"), ((He.cT K ("law", none)).2, lamQ "law")] := apart4 nd
    have cNam := code_at FNam
    have cAR := code_at FAR
    have cAS := code_at FAS
    have cLaw := code_at FLaw
    generalize hG : [(He.cT K ("is_name", none)).2] = GG at AP ⊢
    have hPN : (He.cT K ("is_name", none)).2 ∈ GG := by rw [← hG]; exact List.mem_singleton_self _
    generalize hLL : [((He.cT K ("_law_are_rules", none)).2, lamQ "_law_are_rules"), ((He.cT K ("_law_are_states", none)).2, lamQ "_law_are_states"), ((He.cT K ("law", none)).2, lamQ "law")] = LL at AP ⊢
    have hP1 : ((He.cT K ("_law_are_rules", none)).2, lamQ "_law_are_rules") ∈ LL := by rw [← hLL]; exact List.mem_cons_self
    have hP2 : ((He.cT K ("_law_are_states", none)).2, lamQ "_law_are_states") ∈ LL := by rw [← hLL]; exact List.mem_cons_of_mem _ List.mem_cons_self
    have hP3 : ((He.cT K ("law", none)).2, lamQ "law") ∈ LL := by rw [← hLL]; exact List.mem_cons_of_mem _ (List.mem_cons_of_mem _ List.mem_cons_self)
    clear hG hLL TB tb
    have zI := zz "isinstance" (by decide +kernel)
    have zi := zz "int" (by decide +kernel)
    have zB := zz "bool" (by decide +kernel)
    have zs := zz "str" (by decide +kernel)
    have zL := zz "len" (by decide +kernel)
    have zA := zz "all" (by decide +kernel)
    have zT := zz "tuple" (by decide +kernel)
    have zE := zz "enumerate" (by decide +kernel)
    have zl := zz "list" (by decide +kernel)
    have zX := zz "max" (by decide +kernel)
    have zM := zz "min" (by decide +kernel)
    have zR := zz "range" (by decide +kernel)
    have zV := zz "ValueError" (by decide +kernel)
    -- the program's defs
    have NUM : Fd CX0 PG0 w K mg base "is_number" 1 (spIsNumber K) := ⟨_, _, _, gg _ (by decide +kernel), FNum.kp, ok_isNumber (He5.fun_of FNum) zI zi zB, FNum.bindsN fun _ _ _ _ _ _ us hl => match us, hl with | [_], _ => rfl⟩
    have NAM : Fd CX0 PG0 w K mg base "is_name" 1 (spIsName K GG LL) := ⟨_, _, _, gg _ (by decide +kernel), FNam.kp, ok_isName (He5.fun_of FNam) cNam ⟨tNam.code, tNam.bm, tNam.gP⟩ hPN AP zI zs zL zA gL g8, FNam.bindsN fun _ _ _ _ _ _ us hl => match us, hl with | [_], _ => rfl⟩
    have CLA : Fd CX0 PG0 w K mg base "is_clause" 1 (spIsClause K) := ⟨_, _, _, gg _ (by decide +kernel), FCla.kp, ok_isClause (He5.fun_of FCla) zI zT zL (gg "WORDS" (by decide +kernel)) hW, FCla.bindsN fun _ _ _ _ _ _ us hl => match us, hl with | [_, _], _ => rfl⟩
    have FUL : Fd CX0 PG0 w K mg base "fulfils" 1 (spFul K) := ⟨_, _, _, gg _ (by decide +kernel), FFul.kp, ok_fulfils (He5.fun_of FFul), FFul.bindsN fun _ _ _ _ _ _ us hl => match us, hl with | [_, _], _ => rfl⟩
    have BC : BaseC K mg (He.ga K "StepError") := ⟨gg _ (by decide +kernel), cS, fv⟩
    have ER : Err PG0 w K mg base "InvalidRules" (spIR K (He.ga K "InvalidRules")) := ⟨oR, gg _ (by decide +kernel), _, _, _, iR, tR, ok_IR (He5.fun_of FIR) BC oR n1 n2, FIR.bindsN fun _ _ _ _ _ _ us hl => match us, hl with | [_, _, _], _ => rfl⟩
    have ES : Err PG0 w K mg base "InvalidState" (spIS K (He.ga K "InvalidState")) := ⟨oS, gg _ (by decide +kernel), _, _, _, iS, tS, ok_IS (He5.fun_of FIS) BC oS n3, FIS.bindsN fun _ _ _ _ _ _ us hl => match us, hl with | [_, _], _ => rfl⟩
    have CHN : Fd (L2.CX PG0 w) PG0 w K mg base "check_names" 3 (spChkNames K GG LL) := ⟨_, _, _, gg _ (by decide +kernel), FChN.kp, ok_chkNames (He5.fun_of FChN) zI zT zL zE g10 ER NAM, FChN.bindsN fun _ _ _ _ _ _ us hl => match us, hl with | [_], _ => rfl⟩
    have CHC : Fd (L2.CX PG0 w) PG0 w K mg base "check_clauses" 3 (spChkClauses K GG LL) := ⟨_, _, _, gg _ (by decide +kernel), FChC.kp, ok_chkClauses (He5.fun_of FChC) zI zT zE g40 ER CLA, FChC.bindsN fun _ _ _ _ _ _ us hl => match us, hl with | [_, _], _ => rfl⟩
    have CHS : Fd (L2.CX PG0 w) PG0 w K mg base "check_state" 3 (spChkState K GG LL) := ⟨_, _, _, gg _ (by decide +kernel), FChS.kp, ok_chkState (He5.fun_of FChS) zI zT zE ES, FChS.bindsN fun _ _ _ _ _ _ us hl => match us, hl with | [_, _], _ => rfl⟩
    have RC : RulC K mg := ⟨kCls, kN1, kN2, gg _ (by decide +kernel)⟩
    have MK : Mkr PG0 w K mg base GG LL := ⟨RC, _, _, _, kMk, ok_init (He5.fun_of FIni) RC CHN CHC, FIni.bindsN fun _ _ _ _ _ _ us hl => match us, hl with | [_, _, _], _ => rfl⟩
    have E0C : Er0 K mg "InvalidClause" := ⟨x1, gg _ (by decide +kernel), x2, x3, x4⟩
    have E0U : Er0 K mg "UnknownClause" := ⟨y1, gg _ (by decide +kernel), y2, y3, y4⟩
    have WI : Fm PG0 w K mg base "with_clause" 6 (spWith K GG LL) := ⟨kCls, _, _, _, mW, ok_with (He5.fun_of FWi) MK CLA E0C, FWi.bindsN fun _ _ _ _ _ _ us hl => match us, hl with | [_, _], _ => rfl⟩
    have WO : Fm PG0 w K mg base "without_clause" 6 (spWithout K GG LL) := ⟨kCls, _, _, _, mWO, ok_without (He5.fun_of FWo) zL MK NUM E0U, FWo.bindsN fun _ _ _ _ _ _ us hl => match us, hl with | [_, _], _ => rfl⟩
    have AM : Fd CX0 PG0 w K mg base "broken_among" 2 (spAmong K GG LL) := ⟨_, _, _, gg _ (by decide +kernel), FAm.kp, ok_among (He5.fun_of FAm) zE FUL, FAm.bindsN fun _ _ _ _ _ _ us hl => match us, hl with | [_, _], _ => rfl⟩
    have BR : Fm PG0 w K mg base "broken_clauses" 4 (spBroken K GG LL) := ⟨kCls, _, _, _, mB, ok_broken (He5.fun_of FBr) RC CHS AM, FBr.bindsN fun _ _ _ _ _ _ us hl => match us, hl with | [_, _], _ => rfl⟩
    have IL : Fm PG0 w K mg base "is_legal" 5 (spLegal K GG LL) := ⟨kCls, _, _, _, mI, ok_legal (He5.fun_of FIL) zL BR, FIL.bindsN fun _ _ _ _ _ _ us hl => match us, hl with | [_, _], _ => rfl⟩
    have FN : Fp PG0 w K mg base "names" "_names" := ⟨kCls, _, _, _, pN, ok_names (He5.fun_of FGN) RC, FGN.bindsN fun _ _ _ _ _ _ us hl => match us, hl with | [_], _ => rfl⟩
    have FL : Fp PG0 w K mg base "clauses" "_clauses" := ⟨kCls, _, _, _, pC, ok_clauses (He5.fun_of FGC) RC, FGC.bindsN fun _ _ _ _ _ _ us hl => match us, hl with | [_], _ => rfl⟩
    have FC : FreeC PG0 w K mg base GG LL := ⟨gg _ (by decide +kernel), _, _, _, cC, He5.cmet_of wF fF, ok_free (He5.fun_of FFre) MK⟩
    -- the law's defs
    have TK : Fd CX0 PG0 w K mg base "_law_taken" 1 (spTaken K GG LL) := ⟨_, _, _, gg _ (by decide +kernel), FTak.kp, ok_taken (He5.fun_of FTak) zi zL, FTak.bindsN fun _ _ _ _ _ _ us hl => match us, hl with | [_, _], _ => rfl⟩
    have bAli : Binds K dAli ["_law_one", "_law_due"] [] := FAli.bindsN fun _ _ _ _ _ _ us hl => match us, hl with | [_, _], _ => rfl
    have AL : Fd CX0 PG0 w K mg base "_law_alike" 5 (spAlike K GG LL 4) := ⟨_, _, _, gg _ (by decide +kernel), FAli.kp, ok_alike (He5.fun_of FAli) (gg _ (by decide +kernel)) bAli zI zT zl zL zR zB 4, bAli⟩
    have HO : Fd CX0 PG0 w K mg base "_law_holds" 1 (spHolds K GG LL) := ⟨_, _, _, gg _ (by decide +kernel), FHol.kp, ok_holds (He5.fun_of FHol), FHol.bindsN fun _ _ _ _ _ _ us hl => match us, hl with | [_, _], _ => rfl⟩
    have CL : Fd CX0 PG0 w K mg base "_law_clause" 2 (spClause K GG LL) := ⟨_, _, _, gg _ (by decide +kernel), FLCl.kp, ok_clause (He5.fun_of FLCl) zL TK, FLCl.bindsN fun _ _ _ _ _ _ us hl => match us, hl with | [_, _], _ => rfl⟩
    have OR : Fd CX0 PG0 w K mg base "_law_ordered" 2 (spOrdered K GG LL) := ⟨_, _, _, gg _ (by decide +kernel), FOrd.kp, ok_ordered (He5.fun_of FOrd) zL zl zR zT TK, FOrd.bindsN fun _ _ _ _ _ _ us hl => match us, hl with | [_, _], _ => rfl⟩
    have RU : Fd CX0 PG0 w K mg base "_law_rules" 3 (spRulesL K GG LL) := ⟨_, _, _, gg _ (by decide +kernel), FRul.kp, ok_rulesL (He5.fun_of FRul) zL zR zT zi zM TK CL OR, FRul.bindsN fun _ _ _ _ _ _ us hl => match us, hl with | [_, _], _ => rfl⟩
    have kg : ∀ x ∈ kindsN, x ∈ gloN := by decide +kernel
    have RZ0 : Rz K mg := ⟨zI, zV, gg _ (by decide +kernel), fun x hx => gg x (kg x hx), fun x hx => ecB_ok (e9 x hx), fun x hx => isB_ok (e10 x hx), fun x hx => isB_ok (e11 x hx), fun x hx y hy => isB_ok (List.all_eq_true.mp (e12 x hx) y hy), xR, xS, n1, n2, n3⟩
    have RZ : RzD K mg := ⟨RZ0, _, _, He5.fun_of FRai, gg _ (by decide +kernel), FRai.bindsN fun _ _ _ _ _ _ us hl => match us, hl with | [_], _ => rfl⟩
    have AR : Fd CX0 PG0 w K mg base "_law_are_rules" 11 (spAreRules K GG LL) := ⟨_, _, _, gg _ (by decide +kernel), FAR.kp, ok_areRules (He5.fun_of FAR) cAR tAR hP1 AP zL zl zX zT TK RZ MK WI FC, FAR.bindsN fun _ _ _ _ _ _ us hl => match us, hl with | [_, _, _], _ => rfl⟩
    have AS : Fd CX0 PG0 w K mg base "_law_are_states" 11 (spAreStates K GG LL) := ⟨_, _, _, gg _ (by decide +kernel), FAS.kp, ok_areStates (He5.fun_of FAS) cAS tAS hP2 AP zL zl zT TK RZ IL BR, FAS.bindsN fun _ _ _ _ _ _ us hl => match us, hl with | [_, _, _], _ => rfl⟩
    exact ok_law (He5.fun_of FLaw) cLaw tLaw hP3 AP zL zl zT zR TK RZ IL BR MK WI WO FC FN FL RU AR AS AL HO CL
end
end FS
set_option maxHeartbeats 0
open PySem PySem.W PySem.Calls PyProof.Rows
theorem PySem.Challenge.cw_flagsteps_k01_invalid_rules_and_states_holds : PySem.Challenge.rw_flagsteps_k01_invalid_rules_and_states.Holds := by
  w_on; o_law
  refine HandSHeadRun.head_any (r := OpenLaw.row PySem.Challenge.rw_flagsteps_k01_invalid_rules_and_states) (q := FS.qv) (H := FS.hkF) (ob := FS.obT) (M := 6000) (loose := FS.looseN) (d := HandSHeadRun.topDef (OpenLaw.row PySem.Challenge.rw_flagsteps_k01_invalid_rules_and_states).prog 37) (kwd := []) FS.obT_eq
    (by kernel_rfl) (fun s => by kernel_rfl) FS.runF (by kernel_rfl) (by kernel_rfl) (by kernel_rfl) (by rfl) (by first | assumption | decide +kernel) (by decide +kernel) ⟨rfl, rfl, rfl, rfl, rfl, by decide +kernel⟩ ?hw ?hc
  case hw => w_witness2
  case hc =>
    refine LamX.walk_ofTsE (l := PySem.Challenge.rw_flagsteps_k01_invalid_rules_and_states) (n := 63) (k := 12) (x := "_law_script") (CX := fun _ => L2.CX0) rfl (by decide) (by kernel_rfl) ⟨rfl, by decide, by decide⟩ ?F (fun _ _ _ _ _ z => z)
    intro w mg fa h Y G hmg0
    obtain ⟨K, KX, c⟩ := Y
    have hmg : mg ("law" : PySem.Str) = some (.ref fa) := by
      have e : (HandSHeadRun.topDef (OpenLaw.row PySem.Challenge.rw_flagsteps_k01_invalid_rules_and_states).prog 37).name = ("law" : PySem.Str) := by kernel_rfl
      rw [← e]
      exact hmg0
    exact ⟨K, KX, FS.facts w KX G hmg c⟩

import PyProof.Rows.All
import Wide.All
import OpenK.AllK
import Wide.FinOn
import KE.KStateDown
import KE.KNestM
import HandS.ForMost
import HandS.TupAny
import HandS.Strs
import HandS.Walk
import HandS.Deep
import HandS.Lambda
import HandS.AnyAll
import KE.GoesEnum
import HandS.SetFor
import HandS.IsInst
import HandS.Exc
import HandS.TryOnly
import HandS.ExcOwn
import HandS.WordsExc
import HandS.Conv
import PyProof.ListStr
import KE.KDflt
import HandS.ExcInit
import HandS.ExcIs
import HandS.ExcField
import HandS.ClsMeth
import HandS.Property
import HandS.Star
import HandS.Style
import HandS.TupMul
import HandS.FStr
import HandS.HeadNt
import HandS.HeadHook4
import HandS.RepeatKit
import KE.SortData
import HandS.GenList
import HandS.GenYield
import KE.KTryMore
import PyProof.Rows.CatchTuple
import HandS.ExcInitHot
import HandS.Words
import HandS.ExcCtx
import HandS.SuiteRaise
import HandS.RaiseFrom
import HandS.HotCalls
import HandS.Finally
import KE.KWithOwn
import HandS.MakeKwOnly
import HandS.Comp
import HandS.More
import HandS.Replace
import HandS.Text
import HandS.RevRange
import HandS.Flow
import HandS.DictComp
import HandS.WordsDict
import HandS.Head3
import HandS.HeadWalk
import HandS.HeadEnd
import HandS.Head0
import HandS.Head1
import HandS.Head2
import PySem.Challenge.RW_flagsteps_k52_rollouts_towards_goals
set_option Elab.async false
set_option linter.all false
set_option maxRecDepth 100000
set_option maxHeartbeats 2000000
namespace FS
open PySem PySem.Spec PyProof.Rows L2
/-- at a: a plain tuple of xs -/
def NT (H : Hp) (a : Addr) (xs : List V) : Prop := ∃ o : Obj, H a = some (.frz o (.tup xs)) ∧ o.cls = .type "tuple" ∧ o.dict = none
theorem NT.seq {K : PySem.W.Frag} {H : Hp} {a : Addr} {xs : List V} (h : NT H a xs) : SqT K H a xs := by
  obtain ⟨o, e, _⟩ := h
  exact .inl (.inr ⟨o, e⟩)
end FS
set_option maxHeartbeats 2000000
namespace FS
open PySem PySem.Spec PyProof.Rows L2 LamX GxR
/-- all but lists and tables -/
def KT (H H' : Hp) : Prop := ∀ b o, (∀ xs, o ≠ .lst xs) → (∀ ps, o ≠ .tbl ps) → H b = some o → H' b = some o
theorem KT.trans {H H1 H2 : Hp} (a : KT H H1) (b : KT H1 H2) : KT H H2 := fun c o h1 h2 e => b c o h1 h2 (a c o h1 h2 e)
/-- all but r and tables -/
def Ev (r : Addr) (H H' : Hp) : Prop := ∀ b o, b ≠ r → (∀ ps, o ≠ .tbl ps) → H b = some o → H' b = some o
theorem Ev.trans {r : Addr} {H H1 H2 : Hp} (a : Ev r H H1) (b : Ev r H1 H2) : Ev r H H2 := fun c o h1 h2 e => b c o h1 h2 (a c o h1 h2 e)
theorem ev_of {r : Addr} {H H' : Hp} (e : ExtN H H') : Ev r H H' := fun b o _ n h => e b o h n
theorem kt_of {H H' : Hp} (e : ExtN H H') : KT H H' := fun b o _ n h => e b o h n
theorem Ev.kt {r : Addr} {H H' : Hp} {xs : List V} (e : Ev r H H') (hr : H r = some (.lst xs)) : KT H H' := fun b o n1 n2 h => e b o (fun z => by rw [z, hr] at h; exact n1 xs (Option.some.inj h).symm) n2 h
/-- the tables: those of generator expressions, those of lambdas -/
def TBS (G : List Addr) (L : List (Addr × Str)) (H : Hp) : Prop := (∀ p ∈ G, TabG H p) ∧ ∀ p ∈ L, TabS H p.1 p.2
structure Apart (G : List Addr) (L : List (Addr × Str)) : Prop where
  gl : ∀ p ∈ L, p.1 ∉ G
  ll : ∀ p ∈ L, ∀ q ∈ L, p.1 = q.1 → p = q
section
variable {G : List Addr} {L : List (Addr × Str)} {H H' H1 H2 : Hp} {r : Addr}
theorem tabG_keep {P : Addr} (t : TabG H P) (k : ∀ o, H P = some o → H' P = some o) : TabG H' P := by
  obtain ⟨ps, e, ok⟩ := t
  exact ⟨ps, k _ e, ok⟩
theorem tabS_keep {P : Addr} {q : Str} (t : TabS H P q) (k : ∀ o, H P = some o → H' P = some o) (kc : ∀ c, H c = some (CodeO c q) → H' c = some (CodeO c q)) : TabS H' P q := by
  obtain ⟨ps, e, ok, cs⟩ := t
  refine ⟨ps, k _ e, ok, fun pos cv h => ?_⟩
  obtain ⟨c, e1, e2⟩ := cs pos cv h
  exact ⟨c, e1, kc c e2⟩
theorem code_lst {c : Addr} {q : Str} {xs : List V} : CodeO c q ≠ .lst xs := fun z => by
  have z' : HO.ext _ = HO.lst xs := z
  cases z'
/-- a call that changes nothing but tables -/
def Go (G : List Addr) (L : List (Addr × Str)) (H H' : Hp) : Prop := ExtN H H' ∧ (TBS G L H → TBS G L H')
theorem Go.trans (a : Go G L H H1) (b : Go G L H1 H2) : Go G L H H2 := ⟨a.1.trans b.1, fun t => b.2 (a.2 t)⟩
theorem Go.same (e : ∀ b o, H b = some o → H' b = some o) : Go G L H H' :=
  ⟨fun b o h _ => e b o h, fun t => ⟨fun p hp => tabG_keep (t.1 p hp) (e p), fun p hp => tabS_keep (t.2 p hp) (e _) fun c => e c _⟩⟩
theorem Go.new {p : Addr} {o : HO} (n : H p = none) : Go G L H (upd H p o) := Go.same fun b u e => by rw [upd_ne (ne_of_none e n)]; exact e
theorem Go.but {p : Addr × Str} (A : Apart G L) (hp : p ∈ L) (t : TBS G L H) (e : ∀ b o, b ≠ p.1 → H b = some o → H' b = some o) (ts : TabS H' p.1 p.2) : Go G L H H' := by
  obtain ⟨ps, hps, _⟩ := t.2 p hp
  have nP : ∀ b o, (∀ q, o ≠ .tbl q) → H b = some o → b ≠ p.1 := fun b o n h z => by
    rw [z, hps] at h
    exact n ps (Option.some.inj h).symm
  refine ⟨fun b o h n => e b o (nP b o n h) h, fun _ => ⟨fun q hq => tabG_keep (t.1 q hq) fun o => e q o fun z => A.gl p hp (z ▸ hq), fun q hq => ?_⟩⟩
  by_cases z : q.1 = p.1
  · rw [A.ll q hq p hp z]
    exact ts
  · exact tabS_keep (t.2 q hq) (fun o => e _ o z) fun c hc => e _ _ (nP c _ codeO_ne hc) hc
/-- a call that changes the list at r, too -/
def GoR (G : List Addr) (L : List (Addr × Str)) (r : Addr) (H H' : Hp) : Prop := Ev r H H' ∧ (TBS G L H → TBS G L H')
theorem GoR.trans (a : GoR G L r H H1) (b : GoR G L r H1 H2) : GoR G L r H H2 := ⟨a.1.trans b.1, fun t => b.2 (a.2 t)⟩
theorem Go.toR (a : Go G L H H') : GoR G L r H H' := ⟨ev_of a.1, a.2⟩
theorem GoR.upd {xs ys : List V} (hr : H r = some (.lst xs)) : GoR G L r H (upd H r (.lst ys)) := by
  have k : ∀ b o, b ≠ r → H b = some o → L2.upd H r (.lst ys) b = some o := fun b o n h => by rw [upd_ne n]; exact h
  have nr : ∀ b o, (∀ zs, o ≠ .lst zs) → H b = some o → b ≠ r := fun b o n h z => by
    rw [z, hr] at h
    exact n xs (Option.some.inj h).symm
  refine ⟨fun b o n _ h => k b o n h, fun t => ⟨fun p hp => ?_, fun p hp => ?_⟩⟩
  · obtain ⟨ps, e, _⟩ := t.1 p hp
    exact tabG_keep (t.1 p hp) fun o => k p o (nr p _ (fun zs q => by cases q) e)
  · obtain ⟨ps, e, _⟩ := t.2 p hp
    exact tabS_keep (t.2 p hp) (fun o => k _ o (nr _ _ (fun zs q => by cases q) e)) fun c hc => k _ _ (nr c _ (fun zs => code_lst) hc) hc
theorem Go.kt (a : Go G L H H') : KT H H' := kt_of a.1
theorem GoR.kt {xs : List V} (a : GoR G L r H H') (hr : H r = some (.lst xs)) : KT H H' := a.1.kt hr
theorem Go.lst {a : Addr} {xs : List V} (g : Go G L H H') (h : H a = some (.lst xs)) : H' a = some (.lst xs) := g.1 a _ h fun ps z => by cases z
theorem GoR.lst {a : Addr} {xs : List V} (g : GoR G L r H H') (n : a ≠ r) (h : H a = some (.lst xs)) : H' a = some (.lst xs) := g.1 a _ n (fun ps z => by cases z) h
theorem GoR.free {b : Addr} {o : HO} (g : GoR G L r H H') (n : b ≠ r) (hn : ∀ ps, o ≠ .tbl ps) (h : H b = some o) : H' b = some o := g.1 b o n hn h
end
def Tp (H : Hp) (a : Addr) (xs : List V) : Prop := H a = some (.tup xs) ∨ ∃ o, H a = some (.frz o (.tup xs))
theorem Tp.seq {K : PySem.W.Frag} {H : Hp} {a : Addr} {xs : List V} (h : Tp H a xs) : SqT K H a xs := .inl h
theorem Tp.kt {H H' : Hp} {a : Addr} {xs : List V} (h : Tp H a xs) (k : KT H H') : Tp H' a xs := by
  rcases h with h | ⟨o, h⟩
  · exact .inl (k a _ (fun _ z => by cases z) (fun _ z => by cases z) h)
  · exact .inr ⟨o, k a _ (fun _ z => by cases z) (fun _ z => by cases z) h⟩
theorem NT.tp {H : Hp} {a : Addr} {xs : List V} (h : NT H a xs) : Tp H a xs := by
  obtain ⟨o, e, _⟩ := h
  exact .inr ⟨o, e⟩
theorem NT.kt {H H' : Hp} {a : Addr} {xs : List V} (h : NT H a xs) (k : KT H H') : NT H' a xs := by
  obtain ⟨o, e, h1, h2⟩ := h
  exact ⟨o, k a _ (fun _ z => by cases z) (fun _ z => by cases z) e, h1, h2⟩
theorem NT.of {H : Hp} {p : Addr} {o : Obj} {xs : List V} (h1 : o.cls = .type "tuple") (h2 : o.dict = none) : NT (upd H p (.frz o (.tup xs))) p xs := ⟨o, upd_same, h1, h2⟩
mutual
inductive Im (H : Hp) : V → PyData → Prop
  | non : Im H .non .none
  | bl (b : Bool) : Im H (.bl b) (.bool b)
  | int (i : Int) : Im H (.int i) (.int i)
  | str (x : Str) : Im H (.str x) (.str x)
  | tup {a : Addr} {xs : List V} {ds : List PyData} : Tp H a xs → Ims H xs ds → Im H (.ref a) (.tuple ds)
inductive Ims (H : Hp) : List V → List PyData → Prop
  | nil : Ims H [] []
  | cons {v : V} {vs : List V} {d : PyData} {ds : List PyData} : Im H v d → Ims H vs ds → Ims H (v :: vs) (d :: ds)
end
mutual
theorem Im.kt {H H' : Hp} (k : KT H H') : ∀ {v : V} {d : PyData}, Im H v d → Im H' v d
  | _, _, .non => .non
  | _, _, .bl b => .bl b
  | _, _, .int i => .int i
  | _, _, .str x => .str x
  | _, _, .tup h t => .tup (h.kt k) (Ims.kt k t)
theorem Ims.kt {H H' : Hp} (k : KT H H') : ∀ {vs : List V} {ds : List PyData}, Ims H vs ds → Ims H' vs ds
  | _, _, .nil => .nil
  | _, _, .cons h t => .cons (Im.kt k h) (Ims.kt k t)
end
theorem Ims.length {H : Hp} : ∀ {vs : List V} {ds : List PyData}, Ims H vs ds → vs.length = ds.length
  | _, _, .nil => rfl
  | _, _, .cons _ t => congrArg (· + 1) t.length
theorem Ims.take {H : Hp} : ∀ {vs : List V} {ds : List PyData} (n : Nat), Ims H vs ds → Ims H (vs.take n) (ds.take n)
  | _, _, 0, _ => .nil
  | _, _, _ + 1, .nil => .nil
  | _, _, n + 1, .cons h t => .cons h (Ims.take n t)
theorem Ims.drop {H : Hp} : ∀ {vs : List V} {ds : List PyData} (n : Nat), Ims H vs ds → Ims H (vs.drop n) (ds.drop n)
  | _, _, 0, r => r
  | _, _, _ + 1, .nil => .nil
  | _, _, n + 1, .cons _ t => Ims.drop n t
mutual
theorem Dp.go {K : PySem.W.Frag} {H H' : Hp} (e : ExtN H H') : ∀ {v : V} {d : PyData}, Dp K H v d → Dp K H' v d
  | _, _, .non => .non
  | _, _, .bl b => .bl b
  | _, _, .int i => .int i
  | _, _, .str x => .str x
  | _, _, .lst h t => .lst (by
      rcases h with (h | ⟨o, h⟩) | h
      · exact .inl (.inl (e _ _ h fun _ z => by cases z))
      · exact .inl (.inr ⟨o, e _ _ h fun _ z => by cases z⟩)
      · exact .inr h) (Dps.go e t)
  | _, _, .tup h t => .tup (by
      rcases h with (h | ⟨o, h⟩) | h
      · exact .inl (.inl (e _ _ h fun _ z => by cases z))
      · exact .inl (.inr ⟨o, e _ _ h fun _ z => by cases z⟩)
      · exact .inr h) (Dps.go e t)
theorem Dps.go {K : PySem.W.Frag} {H H' : Hp} (e : ExtN H H') : ∀ {vs : List V} {ds : List PyData}, DpAll K H vs ds → DpAll K H' vs ds
  | _, _, .nil => .nil
  | _, _, .cons h t => .cons (Dp.go e h) (Dps.go e t)
end
theorem Dps.length {K : PySem.W.Frag} {H : Hp} : ∀ {vs : List V} {ds : List PyData}, DpAll K H vs ds → vs.length = ds.length
  | _, _, .nil => rfl
  | _, _, .cons _ t => congrArg (· + 1) (Dps.length t)
theorem Dps.take {K : PySem.W.Frag} {H : Hp} : ∀ {vs : List V} {ds : List PyData} (n : Nat), DpAll K H vs ds → DpAll K H (vs.take n) (ds.take n)
  | _, _, 0, _ => .nil
  | _, _, _ + 1, .nil => .nil
  | _, _, n + 1, .cons h t => .cons h (Dps.take n t)
/-- small depth: what == and in ask of data -/
def lv : Nat → PyData → Bool
  | _, .none => true
  | _, .bool _ => true
  | _, .int _ => true
  | _, .str z => PyData.strOk z
  | n + 1, .tuple ds => ds.all (lv n)
  | n + 1, .list ds => ds.all (lv n)
  | _, _ => false
end FS
set_option maxHeartbeats 2000000
set_option maxHeartbeats 2000000
set_option maxHeartbeats 2000000
namespace FS
open PySem PySem.Spec PyProof.Rows L2
section
variable {P : Program} {w : World} {K : PySem.W.Frag} {mg : Str → Option Value} {base : Heap}
/-- a def that may be called by its name: no exception leaves it | one may -/
structure Fd (CX : CXT) (P : Program) (w : World) (K : PySem.W.Frag) (mg : Str → Option Value) (base : Heap) (x : Str) (k : Nat) (sp : Sp) : Prop where
  ex : ∃ (f : Addr) (fd : FuncData) (ps : List Str), mg x = some (.ref f) ∧ PySem.W.keepIn K (.ref f) = true ∧ FnOk P w K mg base CX k f fd ps sp ∧ Binds K fd ps []
end
/-- one step of a reading -/
local macro_rules | `(tactic| walk_at "rd") => `(tactic| first
  | ((with_reducible refine r_var (v := ?v) ?h ?_); (case h => rfl))
  | (with_reducible refine r_c ?_)
  | (with_reducible refine r_op ?_)
  | (with_reducible refine r_cons ?_)
  | (with_reducible refine r_nil ?_)
  | (with_reducible refine r_I0 ?_)
  | (with_reducible refine r_test ?_)
  | (with_reducible refine r_bl ?_)
  | (with_reducible refine r_tB ?_)
  | (with_reducible refine r_chain ?_)
  | (with_reducible refine iteT ?_)
  | (with_reducible refine iteF ?_)
  | (with_reducible refine r_nf ?_)
  | (with_reducible refine r_nt ?_)
  | (with_reducible refine r_not ?_)
  | (with_reducible refine r_and ?_)
  | (with_reducible refine r_or ?_)
  | (with_reducible refine r_notV ?_)
  | (with_reducible refine r_andV ?_)
  | (with_reducible refine r_orV ?_)
  | (with_reducible refine r_ifE ?_)
  | (with_reducible refine r_seq ?_)
  | (with_reducible refine r_asg ?_)
  | (with_reducible refine r_gN ?_)
  | (with_reducible refine r_ifS ?_)
  | (with_reducible refine r_ret ?_)
  | (with_reducible refine r_drop ?_)
  | (with_reducible refine r_retN ?_)
  | (with_reducible refine r_next ?_)
  | (with_reducible refine r_cb ?_)
  | (with_reducible refine r_call ?_)
  | (with_reducible refine r_lst ?_)
  | (with_reducible refine r_tup ?_)
  | (with_reducible refine r_fld ?_)
  | (with_reducible refine r_gsub ?_)
  | (with_reducible refine r_make ?_)
  | (with_reducible refine r_sl ?_)
  | (with_reducible refine r_part ?_)
  | (with_reducible refine r_nopart ?_)
  | (with_reducible refine r_isInt ?_)
  | (with_reducible refine r_tm ?_)
  | (with_reducible refine r_bm ?_)
  | (with_reducible refine r_int1 ?_)
  | (with_reducible refine r_intB ?_)
  | (dsimp only))
end FS
set_option maxHeartbeats 2000000
set_option maxHeartbeats 2000000
set_option maxHeartbeats 2000000
set_option maxHeartbeats 2000000
namespace FS
open PySem PySem.Spec PyProof.Rows L2 LamX
/-- the function object o stands at f -/
def LamO (o : Obj) (f : Addr) : HO := .ext fun h => h.get? f = some o
abbrev lamObj (X : Cx) (ps : Arguments) (b : Expr) (sc : Scope) (dV doc pm ct : Value) (c' : Addr) : Obj :=
  PySem.W.kdv_obj "<lambda>" (X.env.qual ++ "<lambda>") ps (.expr b) sc (cloFrom X.env.cells sc.names []) dV doc pm c' ct
section
variable {X : Cx} {pins : List (Addr × Obj)} {σ : L2.St} {H : Hp} {s : Shared}
/-- the lambda's object stands at f: without parameters | with one that is the number i if nothing is given -/
def LamAt (X : Cx) (ps : Arguments) (b : Expr) (sc : Scope) (df : Option Int) (H : Hp) (f c' : Addr) : Prop := H c' = some (CodeO c' (X.env.qual ++ "<lambda>")) ∧ ∃ doc pm ct, match df with
  | none => H f = some (LamO (lamObj X ps b sc .none doc pm ct c') f)
  | some i => ∃ T, H T = some (.tup [.int i]) ∧ H f = some (LamO (lamObj X ps b sc (.ref T) doc pm ct c') f)
theorem LamAt.kept {ps : Arguments} {b : Expr} {sc : Scope} {df : Option Int} {H H' : Hp} {f c' : Addr} (h : LamAt X ps b sc df H f c') (k : ∀ d o, (∀ tb, o ≠ HO.tbl tb) → (∀ xs, o ≠ HO.lst xs) → H d = some o → H' d = some o) : LamAt X ps b sc df H' f c' := by
  obtain ⟨h1, doc, pm, ct, h2⟩ := h
  refine ⟨k _ _ (fun tb z => by cases z) (fun xs z => by cases z) h1, doc, pm, ct, ?_⟩
  cases df with
  | none => exact k _ _ (fun tb z => by cases z) (fun xs z => by cases z) h2
  | some i =>
    obtain ⟨T, h3, h4⟩ := h2
    exact ⟨T, k _ _ (fun tb z => by cases z) (fun xs z => by cases z) h3, k _ _ (fun tb z => by cases z) (fun xs z => by cases z) h4⟩
/-- the lambda's names: captured ones, globals, parameters that its maker has no name of -/
structure LamS1 (N : List Str) (sc0 sc : Scope) : Prop where
  kind : sc.kind = .function
  co : sc.isCoroutine = false
  gen : sc.isGenerator = false
  own : ∀ y ∈ sc.names, y.2 ≠ .cell ∧ (y.2 = .local → y.1 ∉ N)
  free : ∀ y ∈ sc.names, y.2 = .free → sc0.names.lookup y.1 = some .cell ∨ sc0.names.lookup y.1 = some .free
theorem LamS1.has {N : List Str} {sc : Scope} (L : LamS1 N X.env.scope sc) (ok : X.Ok) : ∀ y ∈ sc.names, y.2 = .free → ∃ c, X.env.cells.lookup y.1 = some c := fun y hy e => by
  rcases L.free y hy e with z | z
  · exact ok.has _ (.inl z)
  · exact ok.has _ (.inr z)
end
end FS
set_option maxHeartbeats 2000000
set_option maxHeartbeats 2000000
namespace FS
open PySem PySem.Spec PyProof.Rows L2
abbrev PG0 : Program := PySem.Challenge.pw_flagsteps_k52_rollouts_towards_goals
def top (i : Nat) : Stmt := PG0.main.body.getD i (.Pass ⟨0, 0, 0, 0⟩)
abbrev iRules : Nat := 53
abbrev iRol : Nat := 49
end FS
set_option maxHeartbeats 2000000
set_option maxHeartbeats 1000000
namespace FS
open PySem PySem.Spec PyProof.Rows L2
/-- the last place that can still go up -/
def lastLow (n : Nat) (l : List Nat) : Option Nat := (List.range l.length).reverse.find? (fun j => l.getD j 0 != j + n - l.length)
def nextC (n : Nat) (l : List Nat) : Option (List Nat) :=
  (lastLow n l).map fun j => l.take j ++ (List.range (l.length - j)).map (l.getD j 0 + 1 + ·)
end FS
set_option maxHeartbeats 1000000
set_option maxHeartbeats 2000000
set_option maxHeartbeats 2000000
namespace FS
open PySem PySem.Spec PyProof.Rows L2
open PySem.W (EachIs AllAlike Sortable dataLe dataLt rowLt alike alikeAll)
def itC : Nat → Nat → List Nat → List (List Nat)
  | 0, _, l => [l]
  | f + 1, n, l => l :: (match nextC n l with | some l' => itC f n l' | none => [])
def seqC (n r : Nat) : List (List Nat) := itC 300 n (List.range r)
/-- all of them, fewer ones first -/
def ordI (n : Nat) : List (List Nat) := (List.range (n + 1)).flatMap (seqC n)
end FS
set_option maxHeartbeats 1000000
set_option maxHeartbeats 2000000
set_option maxHeartbeats 2000000
set_option maxHeartbeats 2000000
set_option maxHeartbeats 2000000
set_option maxHeartbeats 2000000
set_option maxHeartbeats 2000000
set_option maxHeartbeats 2000000
set_option maxHeartbeats 2000000
set_option maxHeartbeats 2000000
set_option maxHeartbeats 400000
namespace FS
open PySem PySem.Spec PyProof.Rows L2
/-- one step of a reading -/
local macro_rules | `(tactic| walk_at "rd") => `(tactic| first
  | ((with_reducible refine r_var (v := ?v) ?h ?_); (case h => rfl))
  | (with_reducible refine r_c ?_)
  | (with_reducible refine r_op ?_)
  | (with_reducible refine r_cons ?_)
  | (with_reducible refine r_nil ?_)
  | (with_reducible refine r_I0 ?_)
  | (with_reducible refine r_test ?_)
  | (with_reducible refine r_bl ?_)
  | (with_reducible refine r_tB ?_)
  | (with_reducible refine r_chain ?_)
  | (with_reducible refine iteT ?_)
  | (with_reducible refine iteF ?_)
  | (with_reducible refine r_nf ?_)
  | (with_reducible refine r_nt ?_)
  | (with_reducible refine r_not ?_)
  | (with_reducible refine r_and ?_)
  | (with_reducible refine r_or ?_)
  | (with_reducible refine r_notV ?_)
  | (with_reducible refine r_andV ?_)
  | (with_reducible refine r_orV ?_)
  | (with_reducible refine r_ifE ?_)
  | (with_reducible refine r_seq ?_)
  | (with_reducible refine r_asg ?_)
  | (with_reducible refine r_gN ?_)
  | (with_reducible refine r_ifS ?_)
  | (with_reducible refine r_ret ?_)
  | (with_reducible refine r_drop ?_)
  | (with_reducible refine r_retN ?_)
  | (with_reducible refine r_next ?_)
  | (with_reducible refine r_cb ?_)
  | (with_reducible refine r_call ?_)
  | (with_reducible refine r_lst ?_)
  | (with_reducible refine r_tup ?_)
  | (with_reducible refine r_fld ?_)
  | (with_reducible refine r_gsub ?_)
  | (with_reducible refine r_make ?_)
  | (with_reducible refine r_sl ?_)
  | (with_reducible refine r_part ?_)
  | (with_reducible refine r_nopart ?_)
  | (with_reducible refine r_isInt ?_)
  | (with_reducible refine r_tm ?_)
  | (with_reducible refine r_bm ?_)
  | (with_reducible refine r_int1 ?_)
  | (with_reducible refine r_intB ?_)
  | (dsimp only))
section
variable {P : Program} {w : World} {K : PySem.W.Frag} {mg : Str → Option Value} {base : Heap}
theorem Fd.mk' {x : Str} {CX : CXT} {st : Stmt} {f : Addr} {fd : FuncData} {k : Nat} {ps : List Str} {sp : Sp} (F : Fun K x x st f fd) (hm : mg x = some (.ref f)) (b : Binds K fd ps []) (ok : FnOk P w K mg base CX k f fd ps sp) : Fd CX P w K mg base x k sp := ⟨f, fd, ps, hm, F.kp, ok, b⟩

/-- the kinds of values, by the names of their types -/
def Kd (K : PySem.W.Frag) (H : Hp) (v : V) (n : String) : Prop := n ∈ ["NoneType", "bool", "int", "str", "tuple", "list"] ∧ TyX K H v (.type n)
/-- the script at a, whatever stands at r -/
def Scr (K : PySem.W.Frag) (H : Hp) (r a : Addr) (ns : List Int) : Prop := ∀ H', Ev r H H' → SqL K H' a (ns.map V.int)
/-- where the row of draws stands, where its script, which -/
structure Rid where
  r : Addr
  a : Addr
  ns : List Int
def Row (K : PySem.W.Frag) (H : Hp) (ρ : Rid) : Prop := ∃ (i s l : Int), Scr K H ρ.r ρ.a ρ.ns ∧ ρ.ns.length ≤ 63 ∧ H ρ.r = some (.lst [.ref ρ.a, .int i, .int s, .int l]) ∧ 0 ≤ i
theorem Row.mk' {K : PySem.W.Frag} {H H' : Hp} {r a : Addr} {ns : List Int} {i s l : Int} (sc : Scr K H r a ns) (hn : ns.length ≤ 63) (e : Ev r H H') (h : H' r = some (.lst [.ref a, .int i, .int s, .int l])) (hi : 0 ≤ i) : Row K H' ⟨r, a, ns⟩ :=
  ⟨i, s, l, fun H2 e2 => sc H2 (e.trans e2), hn, h, hi⟩
end
def tyOf : PyData → String
  | .none => "NoneType" | .bool _ => "bool" | .int _ => "int" | .str _ => "str" | .list _ => "list" | .tuple _ => "tuple" | .dict _ => "dict"
theorem Dp.kd {K : PySem.W.Frag} {H : Hp} {v : V} {d : PyData} (h : Dp K H v d) : Kd K H v (tyOf d) := by
  cases h with
  | non => exact ⟨by simp [tyOf], .base .non⟩
  | bl b => exact ⟨by simp [tyOf], .base (.bl b)⟩
  | int i => exact ⟨by simp [tyOf], .base (.int i)⟩
  | str x => exact ⟨by simp [tyOf], .base (.str x)⟩
  | lst h _ =>
    refine ⟨by simp [tyOf], ?_⟩
    rcases h with (h | ⟨o, h⟩) | ⟨o, its, n, h, hc, _⟩
    · exact .base (.lst h)
    · exact .base (.frz h)
    · exact .kList h hc
  | tup h _ =>
    refine ⟨by simp [tyOf], ?_⟩
    rcases h with (h | ⟨o, h⟩) | ⟨o, its, n, h, hc, _⟩
    · exact .base (.tup h)
    · exact .fTuple h
    · exact .kTuple h hc
def letters : Str := "abcdefghijklmnopqrstuvwxyz"
def nameOk : PyData → Bool
  | .str z => decide (1 ≤ (z.length : Int)) && decide ((z.length : Int) ≤ 8) && z.cps.toList.all fun c => decide (c ∈ letters.cps.toList)
  | _ => false
def smallS : PyData → Prop
  | .str z => z.length ≤ sizeLine
  | _ => True
def inD (d : PyData) (ds : List PyData) : Bool := ds.any fun z => PyData.eqv z d
def wordsD : List PyData := [.str "needs", .str "excludes", .str "either"]
def clauseOk (nd : List PyData) : PyData → Bool
  | .tuple [x, y, z] => inD x wordsD && inD y nd && inD z nd
  | _ => false
section
variable {P : Program} {w : World} {K : PySem.W.Frag} {mg : Str → Option Value} {base : Heap} {G : List Addr} {L : List (Addr × Str)}
abbrev sErr (i : Nat) : Stmt := inClass (top i) 0
end
def Told (K : PySem.W.Frag) (cls : Value) (d : Option Addr) (H : Hp) (D : PyData) : Prop :=
  (∃ a p i, cls = .ref (He.ga K "InvalidRules") ∧ d = some a ∧ H a = some (.xd [("index", .int i), ("part", .str p)]) ∧ D = .tuple [.str "rules", .str p, .int i]) ∨
  (∃ a i, cls = .ref (He.ga K "InvalidState") ∧ d = some a ∧ H a = some (.xd [("index", .int i)]) ∧ D = .tuple [.str "invalid", .int i]) ∨
  (cls = .ref (He.ga K "InvalidClause") ∧ d = none ∧ D = .tuple [.str "clause"]) ∨ (cls = .ref (He.ga K "UnknownClause") ∧ d = none ∧ D = .tuple [.str "noclause"]) ∨
  (cls = .ref (He.ga K "Impossible") ∧ d = none ∧ D = .tuple [.str "impossible"]) ∨
  (∃ a i, cls = .ref (He.ga K "IllegalState") ∧ d = some a ∧ H a = some (.xd [("index", .int i)]) ∧ D = .tuple [.str "illegal", .int i]) ∨
  (∃ a i j, cls = .ref (He.ga K "IllegalStep") ∧ d = some a ∧ H a = some (.xd [("clause", .int j), ("index", .int i)]) ∧ D = .tuple [.str "step", .int i, .int j]) ∨
  (∃ a v e, cls = .ref (He.ga K "UnknownSwitch") ∧ d = some a ∧ H a = some (.xd [("name", v)]) ∧ Im H v e ∧ D = .tuple [.str "switch", e]) ∨
  (∃ a v e, cls = .ref (He.ga K "NoWay") ∧ d = some a ∧ H a = some (.xd [("circle", v)]) ∧ Im H v e ∧ D = .tuple [.str "noway", e])
theorem Told.ill {K : PySem.W.Frag} {H : Hp} {a : Addr} {i : Int} (h : H a = some (.xd [("index", .int i)])) : Told K (.ref (He.ga K "IllegalState")) (some a) H (.tuple [.str "illegal", .int i]) := .inr (.inr (.inr (.inr (.inr (.inl ⟨a, i, rfl, rfl, h, rfl⟩)))))
theorem Told.step {K : PySem.W.Frag} {H : Hp} {a : Addr} {i j : Int} (h : H a = some (.xd [("clause", .int j), ("index", .int i)])) : Told K (.ref (He.ga K "IllegalStep")) (some a) H (.tuple [.str "step", .int i, .int j]) := .inr (.inr (.inr (.inr (.inr (.inr (.inl ⟨a, i, j, rfl, rfl, h, rfl⟩))))))
theorem Told.switch {K : PySem.W.Frag} {H : Hp} {a : Addr} {v : V} {e : PyData} (h : H a = some (.xd [("name", v)])) (i : Im H v e) : Told K (.ref (He.ga K "UnknownSwitch")) (some a) H (.tuple [.str "switch", e]) := .inr (.inr (.inr (.inr (.inr (.inr (.inr (.inl ⟨a, v, e, rfl, rfl, h, i, rfl⟩)))))))
theorem Told.noway {K : PySem.W.Frag} {H : Hp} {a : Addr} {v : V} {e : PyData} (h : H a = some (.xd [("circle", v)])) (i : Im H v e) : Told K (.ref (He.ga K "NoWay")) (some a) H (.tuple [.str "noway", e]) := .inr (.inr (.inr (.inr (.inr (.inr (.inr (.inr ⟨a, v, e, rfl, rfl, h, i, rfl⟩)))))))
theorem inD_strs (z : Str) (ns : List Str) : inD (.str z) (ns.map PyData.str) = decide (z ∈ ns) := by
  induction ns with
  | nil => rfl
  | cons y ns ih =>
    show ((y == z) || inD (.str z) (ns.map PyData.str)) = _
    rw [ih]
    by_cases h : y = z
    · subst h
      simp
    · have h' : (y == z) = false := by simpa using h
      have h2 : ¬ z = y := fun q => h q.symm
      rw [h', Bool.false_or]
      simp [h2]
theorem inD_no {d : PyData} (h : ∀ z, d ≠ .str z) (ns : List Str) : inD d (ns.map PyData.str) = false := by
  induction ns with
  | nil => rfl
  | cons y ns ih =>
    show (PyData.eqv (.str y) d || inD d (ns.map PyData.str)) = false
    rw [ih]
    cases d with
    | str z => exact absurd rfl (h z)
    | _ => simp [PyData.eqv]
section
variable {P : Program} {w : World} {K : PySem.W.Frag} {mg : Str → Option Value} {base : Heap} {G : List Addr} {L : List (Addr × Str)}
def goodS (ns : List Str) : Prop := (∀ z ∈ ns, PyData.strOk z = true) ∧ ns.length ≤ 60
end
def scanN : List PyData → List PyData → Option Nat
  | _, [] => none
  | pre, d :: ds => if decide ((10 : Int) ≤ (pre.length : Nat)) || (!nameOk d || inD d pre) then some pre.length else scanN (pre ++ [d]) ds
def namesBad : PyData → Option Nat
  | .tuple [] => some 0
  | .tuple ds => scanN [] ds
  | _ => some 0
section
variable {P : Program} {w : World} {K : PySem.W.Frag} {mg : Str → Option Value} {base : Heap} {G : List Addr} {L : List (Addr × Str)}
def rulesE (p : Str) (i : Nat) : PyData := .tuple [.str "rules", .str p, .int (i : Nat)]
end
section
variable {G : List Addr} {L : List (Addr × Str)} {H H' : Hp} {r D : Addr} {xs ys : List V}
theorem GoR.new {o : HO} (g : GoR G L r H H') (n : H' D = none) : GoR G L r H (L2.upd H' D o) := g.trans (Go.new n).toR
end
def scanC (nd : List PyData) : Nat → List PyData → Option Nat
  | _, [] => none
  | i, d :: ds => if decide ((40 : Int) ≤ (i : Nat)) || !clauseOk nd d then some i else scanC nd (i + 1) ds
def clausesBad (nd : List PyData) : PyData → Option Nat
  | .tuple ds => scanC nd 0 ds
  | _ => some 0
def holdsD (sd : List PyData) (w : Str) (a b : PyData) : Bool :=
  if w = "needs" then (!inD a sd || inD b sd) else if w = "excludes" then (!inD a sd || !inD b sd) else (inD a sd || inD b sd)
section
variable {P : Program} {w : World} {K : PySem.W.Frag} {mg : Str → Option Value} {base : Heap} {G : List Addr} {L : List (Addr × Str)}
abbrev cR (K : PySem.W.Frag) : Addr := He.ga K "Rules"
abbrev sM (j : Nat) : Stmt := inClass (top iRules) j
def rulesBad (dn dc : PyData) : Option PyData := match namesBad dn with
  | some i => some (rulesE "names" i)
  | none => match dn with
    | .tuple nd => (clausesBad nd dc).map (rulesE "clauses")
    | _ => none
def rfs (nv cv : V) : List (Str × V) := [("_names", nv), ("_clauses", cv)]
def okN (d : PyData) : Prop := lv 7 d = true ∧ ∀ ds, d = .tuple ds → ds.length ≤ 60 ∧ ∀ x ∈ ds, smallS x
def okC (d : PyData) : Prop := lv 8 d = true ∧ ∀ ds, d = .tuple ds → ds.length ≤ 60
end
section
variable {P : Program} {w : World} {K : PySem.W.Frag} {mg : Str → Option Value} {base : Heap} {G : List Addr} {L : List (Addr × Str)}
def RulesAt (K : PySem.W.Frag) (H : Hp) (x : Addr) (ns : List Str) (cd : List PyData) : Prop := ∃ dx an ac xs, H x = some (.ins (cR K) dx (rfs (.ref an) (.ref ac))) ∧ NT H an (ns.map V.str) ∧ Tp H ac xs ∧ Ims H xs cd
theorem RulesAt.kt {H H' : Hp} {x : Addr} {ns : List Str} {cd : List PyData} (h : RulesAt K H x ns cd) (k : KT H H') : RulesAt K H' x ns cd := by
  obtain ⟨dx, an, ac, xs, h1, h2, h3, h4⟩ := h
  exact ⟨dx, an, ac, xs, k x _ (fun _ z => by cases z) (fun _ z => by cases z) h1, h2.kt k, h3.kt k, h4.kt k⟩
structure OkR (ns : List Str) (cd : List PyData) : Prop where
  gs : goodS ns
  nb : namesBad (.tuple (ns.map PyData.str)) = none
  sm : ∀ z ∈ ns, z.length ≤ sizeLine
  cs : ∀ d ∈ cd, clauseOk (ns.map PyData.str) d = true
  cl : cd.length ≤ 40
theorem inD_str {d : PyData} {ns : List Str} (h : inD d (ns.map PyData.str) = true) : ∃ z, d = .str z ∧ z ∈ ns := by
  cases d with
  | str z =>
    rw [inD_strs] at h
    exact ⟨z, rfl, of_decide_eq_true h⟩
  | _ =>
    rw [inD_no (fun z q => by cases q)] at h
    cases h
theorem clause_shape {ns : List Str} {d : PyData} (h : clauseOk (ns.map PyData.str) d = true) : ∃ w a b, d = .tuple [.str w, .str a, .str b] ∧ (w = "needs" ∨ w = "excludes" ∨ w = "either") ∧ a ∈ ns ∧ b ∈ ns := by
  match d, h with
  | .tuple [x, y, z], h =>
    have h' : (inD x ((["needs", "excludes", "either"] : List Str).map PyData.str) && inD y (ns.map PyData.str) && inD z (ns.map PyData.str)) = true := h
    rw [Bool.and_eq_true, Bool.and_eq_true] at h'
    obtain ⟨⟨h1, h2⟩, h3⟩ := h'
    obtain ⟨w, rfl, hw⟩ := inD_str h1
    obtain ⟨a, rfl, ha⟩ := inD_str h2
    obtain ⟨b, rfl, hb⟩ := inD_str h3
    exact ⟨w, a, b, rfl, by simpa using hw, ha, hb⟩
theorem word_ok {w : Str} (h : w = "needs" ∨ w = "excludes" ∨ w = "either") : PyData.strOk w = true := by
  rcases h with rfl | rfl | rfl <;> decide +kernel
end
section
variable {P : Program} {w : World} {K : PySem.W.Frag} {mg : Str → Option Value} {base : Heap} {G : List Addr} {L : List (Addr × Str)}
def brk (sd : List PyData) : PyData → Bool
  | .tuple [.str w, a, b] => !holdsD sd w a b
  | _ => false
def brokenFrom (sd : List PyData) : Nat → List PyData → List Nat
  | _, [] => []
  | i, d :: ds => if brk sd d then i :: brokenFrom sd (i + 1) ds else brokenFrom sd (i + 1) ds
/-- what stands there: a list | a tuple -/
def Sq2 (H : Hp) (b : Bool) (a : Addr) (xs : List V) : Prop := if b = true then H a = some (.lst xs) else Tp H a xs
theorem Sq2.go {H H' : Hp} {b : Bool} {a : Addr} {xs : List V} (g : Go G L H H') (h : Sq2 H b a xs) : Sq2 H' b a xs := by
  cases b
  · exact Tp.kt h g.kt
  · exact g.lst h
def ClS (d : PyData) : Prop := ∃ w a b, d = .tuple [.str w, .str a, .str b] ∧ PyData.strOk w = true ∧ PyData.strOk a = true ∧ PyData.strOk b = true
theorem OkR.cls {ns : List Str} {cd : List PyData} (ok : OkR ns cd) : ∀ d ∈ cd, ClS d := fun d hd => by
  obtain ⟨w, a, b, rfl, hw, ha, hb⟩ := clause_shape (ok.cs d hd)
  exact ⟨w, a, b, rfl, word_ok hw, ok.gs.1 a ha, ok.gs.1 b hb⟩
end
section
variable {P : Program} {w : World} {K : PySem.W.Frag} {mg : Str → Option Value} {base : Heap} {G : List Addr} {L : List (Addr × Str)}
def isWord (w : Str) : Prop := w = "needs" ∨ w = "excludes" ∨ w = "either"
end
section
variable {P : Program} {w : World} {K : PySem.W.Frag} {mg : Str → Option Value} {base : Heap} {G : List Addr} {L : List (Addr × Str)}
theorem Row.lst {H : Hp} {r : Rid} (h : Row K H r) : ∃ xs, H r.r = some (.lst xs) := by
  obtain ⟨_, _, _, _, _, h, _⟩ := h
  exact ⟨_, h⟩
theorem Row.kt {H H' : Hp} {r : Rid} (h : Row K H r) (g : GoR G L r.r H H') : KT H H' := by
  obtain ⟨_, h⟩ := h.lst
  exact g.kt h
theorem Row.ev {H H' : Hp} {r : Rid} (h : Row K H r) (g : Ev r.r H H') (hr : ∀ o, H r.r = some o → H' r.r = some o) : Row K H' r := by
  obtain ⟨i, s, l, sc, hn, h, hi⟩ := h
  exact .mk' sc hn g (hr _ h) hi
theorem Row.go {H H' : Hp} {r : Rid} (h : Row K H r) (g : Go G L H H') : Row K H' r :=
  h.ev (ev_of g.1) fun o e => g.1 r.r o e (by
    obtain ⟨xs, z⟩ := h.lst
    rw [z] at e
    cases e
    intro ps q
    cases q)
/-- a clause of the names -/
def ClD (ns : List Str) (d : PyData) : Prop := ∃ w a b, d = .tuple [.str w, .str a, .str b] ∧ isWord w ∧ a ∈ ns ∧ b ∈ ns
end
section
variable {P : Program} {w : World} {K : PySem.W.Frag} {mg : Str → Option Value} {base : Heap} {G : List Addr} {L : List (Addr × Str)}
theorem Ims.erase {H : Hp} : ∀ {vs : List V} {ds : List PyData} (k : Nat), Ims H vs ds → Ims H (vs.eraseIdx k) (ds.eraseIdx k)
  | _, _, _, .nil => .nil
  | _, _, 0, .cons _ t => t
  | _, _, k + 1, .cons h t => .cons h (Ims.erase k t)
/-- new, or a table -/
def Nw (H : Hp) (D : Addr) : Prop := ∀ o, (∀ ps, o ≠ .tbl ps) → H D ≠ some o
theorem Nw.of {H : Hp} {D : Addr} (n : H D = none) : Nw H D := fun o _ e => by rw [n] at e; cases e
theorem Nw.lst {H : Hp} {D b : Addr} {xs : List V} (n : Nw H D) (h : H b = some (.lst xs)) : D ≠ b := fun e => by
  subst e
  exact n _ (fun ps z => by cases z) h
end
section
variable {K : PySem.W.Frag} {G : List Addr} {L : List (Addr × Str)}
theorem Told.kt {cls : Value} {d : Option Addr} {H H' : Hp} {D : PyData} (h : Told K cls d H D) (k : KT H H') : Told K cls d H' D := by
  rcases h with ⟨a, p, i, e1, e2, e3, e4⟩ | ⟨a, i, e1, e2, e3, e4⟩ | ⟨e1, e2, e3⟩ | ⟨e1, e2, e3⟩ | ⟨e1, e2, e3⟩ | ⟨a, i, e1, e2, e3, e4⟩ | ⟨a, i, j, e1, e2, e3, e4⟩ | ⟨a, v, e, e1, e2, e3, e4, e5⟩ | ⟨a, v, e, e1, e2, e3, e4, e5⟩
  · exact .inl ⟨a, p, i, e1, e2, k a _ (fun _ z => by cases z) (fun _ z => by cases z) e3, e4⟩
  · exact .inr (.inl ⟨a, i, e1, e2, k a _ (fun _ z => by cases z) (fun _ z => by cases z) e3, e4⟩)
  · exact .inr (.inr (.inl ⟨e1, e2, e3⟩))
  · exact .inr (.inr (.inr (.inl ⟨e1, e2, e3⟩)))
  · exact .inr (.inr (.inr (.inr (.inl ⟨e1, e2, e3⟩))))
  · subst e1 e2 e4
    exact .ill (k a _ (fun _ z => by cases z) (fun _ z => by cases z) e3)
  · subst e1 e2 e4
    exact .step (k a _ (fun _ z => by cases z) (fun _ z => by cases z) e3)
  · subst e1 e2 e5
    exact .switch (k a _ (fun _ z => by cases z) (fun _ z => by cases z) e3) (e4.kt k)
  · subst e1 e2 e5
    exact .noway (k a _ (fun _ z => by cases z) (fun _ z => by cases z) e3) (e4.kt k)
end
theorem ClD.ok {ns : List Str} {d : PyData} (h : ClD ns d) : clauseOk (ns.map PyData.str) d = true := by
  obtain ⟨w, a, b, rfl, hw, ha, hb⟩ := h
  show (inD (.str w) ((["needs", "excludes", "either"] : List Str).map PyData.str) && inD (.str a) (ns.map PyData.str) && inD (.str b) (ns.map PyData.str)) = true
  rw [inD_strs, inD_strs, inD_strs, decide_eq_true ha, decide_eq_true hb]
  have e : w ∈ (["needs", "excludes", "either"] : List Str) := by
    rcases hw with rfl | rfl | rfl <;> decide
  rw [decide_eq_true e]
  rfl
section
variable {P : Program} {w : World} {K : PySem.W.Frag} {mg : Str → Option Value} {base : Heap} {G : List Addr} {L : List (Addr × Str)}
def Case (K : PySem.W.Frag) (H : Hp) (p : Addr) (v : V) : Prop := ∃ (a : Addr) (s m : V) (part : Str) (i : Nat) (dn dc : PyData), v = .ref a ∧ (part = "names" ∨ part = "clauses") ∧ okN dn ∧ okC dc ∧ rulesBad dn dc = some (rulesE part i) ∧
  ∀ H', Ev p H H' → H' a = some (.tup [s, m, .str part, .int (i : Nat)]) ∧ Dp K H' s dn ∧ Dp K H' m dc
theorem Case.ev {H H1 : Hp} {p : Addr} {v : V} (h : Case K H p v) (e : Ev p H H1) : Case K H1 p v := by
  obtain ⟨a, s, m, part, i, dn, dc, h1, h2, h3, h4, h5, h6⟩ := h
  exact ⟨a, s, m, part, i, dn, dc, h1, h2, h3, h4, h5, fun H' e' => h6 H' (e.trans e')⟩
end
section
variable {P : Program} {w : World} {K : PySem.W.Frag} {mg : Str → Option Value} {base : Heap} {G : List Addr} {L : List (Addr × Str)}
/-- tuples of names -/
def StsAt (H : Hp) (xs : List V) (ss : List (List Str)) : Prop := Ims H xs (ss.map fun s => .tuple (s.map PyData.str))
end
section
variable {P : Program} {w : World} {K : PySem.W.Frag} {mg : Str → Option Value} {base : Heap} {G : List Addr} {L : List (Addr × Str)}
/-- the states of some places -/
def nmsOf (ns : List Str) (ix : List Nat) : List Str := ix.map fun i => ns.getD i ""
def allD (ns : List Str) : List (List Str) := (ordI ns.length).map (nmsOf ns)
theorem StsAt.kt {H H' : Hp} {xs : List V} {ss : List (List Str)} (h : StsAt H xs ss) (k : KT H H') : StsAt H' xs ss := Ims.kt k h
end
section
variable {P : Program} {w : World} {K : PySem.W.Frag} {mg : Str → Option Value} {base : Heap} {G : List Addr} {L : List (Addr × Str)}
def legalD (ns : List Str) (cd : List PyData) : List (List Str) := (allD ns).filter fun s => decide (brokenFrom (s.map PyData.str) 0 cd = [])
end
section
variable {P : Program} {w : World} {K : PySem.W.Frag} {mg : Str → Option Value} {base : Heap} {G : List Addr} {L : List (Addr × Str)}
theorem StsAt.len {H : Hp} {xs : List V} {ss : List (List Str)} (h : StsAt H xs ss) : xs.length = ss.length := by
  have z := h.length
  rw [List.length_map] at z
  exact z
end
/-- a step, generators' lists first -/
local macro_rules | `(tactic| walk_at "rl") => `(tactic| first | (with_reducible refine r_lgd ?_) | (with_reducible refine r_fr ?_) | walk_at "rd")
section
variable {P : Program} {w : World} {K : PySem.W.Frag} {mg : Str → Option Value} {base : Heap} {G : List Addr} {L : List (Addr × Str)}
def SqA (K : PySem.W.Frag) (H : Hp) (p : Addr) (xs : List V) : Prop := SqL K H p xs ∨ SqT K H p xs
end
/-- which letter stands last ahead of the z -/
def tagOf (z : Str) : Nat := ((z.cps.toList.reverse.dropWhile (· == 122)).headD 0) - 97
def nmB (z : Str) (k : Nat) : Bool := nameOk (.str z) && (PyData.strOk z && (decide (z.length ≤ 8) && (decide (tagOf z = k) && decide (z ≠ "zzzzzzzz" ∧ z ≠ "none"))))
section
variable {P : Program} {w : World} {K : PySem.W.Frag} {mg : Str → Option Value} {base : Heap} {G : List Addr} {L : List (Addr × Str)}
/-- names as they are drawn: the k-th one has the k-th letter -/
def NmsP (ns : List Str) : Prop := ∀ k z, ns[k]? = some z → nmB z k = true
end
theorem nmB_ok {z : Str} {k : Nat} (h : nmB z k = true) : nameOk (.str z) = true ∧ PyData.strOk z = true ∧ z.length ≤ 8 ∧ tagOf z = k := by
  unfold nmB at h
  simp only [Bool.and_eq_true, decide_eq_true_eq] at h
  exact ⟨h.1, h.2.1, h.2.2.1, h.2.2.2.1⟩
theorem nmB_n {z : Str} {k : Nat} (h : nmB z k = true) : z ≠ "none" := by
  unfold nmB at h
  simp only [Bool.and_eq_true, decide_eq_true_eq] at h
  exact h.2.2.2.2.2
theorem NmsP.nodup {ns : List Str} (h : NmsP ns) : ns.Nodup := by
  refine List.pairwise_iff_getElem.mpr fun i j hi hj hij e => ?_
  have e1 := (nmB_ok (h i ns[i] (List.getElem?_eq_getElem hi))).2.2.2
  have e2 := (nmB_ok (h j ns[j] (List.getElem?_eq_getElem hj))).2.2.2
  rw [e, e2] at e1
  omega
theorem NmsP.all {ns : List Str} (h : NmsP ns) {z : Str} (hz : z ∈ ns) : nameOk (.str z) = true ∧ PyData.strOk z = true ∧ z.length ≤ 8 := by
  obtain ⟨i, hi, e⟩ := List.mem_iff_getElem.mp hz
  have q := nmB_ok (h i z (by rw [List.getElem?_eq_getElem hi, e]))
  exact ⟨q.1, q.2.1, q.2.2.1⟩
theorem scanN_none : ∀ (pre ds : List Str), (pre ++ ds).Nodup → (∀ z ∈ ds, nameOk (.str z) = true) → (pre ++ ds).length ≤ 10 → scanN (pre.map PyData.str) (ds.map PyData.str) = none
  | pre, [], _, _, _ => rfl
  | pre, z :: ds, hn, ho, hl => by
    have e1 : inD (.str z) (pre.map PyData.str) = false := by
      rw [inD_strs]
      refine decide_eq_false fun hm => ?_
      have q := List.nodup_append.mp hn
      exact q.2.2 z hm z List.mem_cons_self rfl
    have hl2 : pre.length < 10 := by
      rw [List.length_append, List.length_cons] at hl
      omega
    show (if decide ((10 : Int) ≤ ((pre.map PyData.str).length : Nat)) || (!nameOk (.str z) || inD (.str z) (pre.map PyData.str)) then some (pre.map PyData.str).length else scanN (pre.map PyData.str ++ [.str z]) (ds.map PyData.str)) = none
    rw [e1, ho z List.mem_cons_self, List.length_map, decide_eq_false (by omega)]
    have ih := scanN_none (pre ++ [z]) ds (by rw [List.append_assoc]; exact hn) (fun y hy => ho y (List.mem_cons_of_mem _ hy)) (by rw [List.append_assoc]; exact hl)
    rw [List.map_append] at ih
    exact ih
theorem NmsP.names {ns : List Str} (h : NmsP ns) (h0 : 0 < ns.length) (h10 : ns.length ≤ 10) : namesBad (.tuple (ns.map PyData.str)) = none := by
  cases ns with
  | nil => cases h0
  | cons z ds => exact scanN_none [] (z :: ds) h.nodup (fun y hy => (h.all hy).1) h10
/-- names that rules may have -/
theorem NmsP.non {ns : List Str} (h : NmsP ns) : ("none" : Str) ∉ ns := fun hm => by
  obtain ⟨k, hk, e⟩ := List.mem_iff_getElem.mp hm
  exact nmB_n (h k _ (by rw [List.getElem?_eq_getElem hk])) e
/-- names that rules may have -/
structure GoodN (ns : List Str) : Prop where
  nd : ns.Nodup
  al : ∀ z ∈ ns, nameOk (.str z) = true ∧ PyData.strOk z = true ∧ z.length ≤ 8
theorem GoodN.names {ns : List Str} (h : GoodN ns) (h0 : 0 < ns.length) (h10 : ns.length ≤ 10) : namesBad (.tuple (ns.map PyData.str)) = none := by
  cases ns with
  | nil => cases h0
  | cons z ds => exact scanN_none [] (z :: ds) h.nd (fun y hy => (h.al y hy).1) h10
/-- rules, whose names may be any tuple -/
def RulesW (K : PySem.W.Frag) (H : Hp) (x : Addr) (ns : List Str) (cd : List PyData) : Prop := ∃ dx an ac xs, H x = some (.ins (cR K) dx (rfs (.ref an) (.ref ac))) ∧ Tp H an (ns.map V.str) ∧ Tp H ac xs ∧ Ims H xs cd
theorem RulesAt.w {K : PySem.W.Frag} {H : Hp} {x : Addr} {ns : List Str} {cd : List PyData} (h : RulesAt K H x ns cd) : RulesW K H x ns cd := by
  obtain ⟨dx, an, ac, xs, h1, h2, h3, h4⟩ := h
  exact ⟨dx, an, ac, xs, h1, h2.tp, h3, h4⟩
section
variable {K : PySem.W.Frag} {G : List Addr} {L : List (Addr × Str)} {H H' : Hp} {b : Bool} {a r : Addr} {xs : List V}
theorem Sq2.goR {ρ : Rid} (hR : Row K H ρ) (na : a ≠ ρ.r) (g : GoR G L ρ.r H H') (h : Sq2 H b a xs) : Sq2 H' b a xs := by
  cases b
  · exact Tp.kt h (hR.kt g)
  · exact g.lst na h
theorem Sq2.any (h : Sq2 H b a xs) : SqA K H a xs := by
  cases b
  · exact .inr (Tp.seq h)
  · exact .inl (.of h)
end
def kinds5 : List Str := ["InvalidRules", "IllegalStep", "NotationError", "UnknownSwitch", "DecodeError", "InvalidState", "IllegalState", "InvalidStates", "InvalidOperation", "InvalidClause", "UnknownClause", "NoWay", "NoGoal", "TooManyClauses", "DifferentNames", "TooManySwitches", "LastSwitch", "InvalidName", "InvalidCount"]
def fldOf (x : Str) : List Str := if x = "InvalidRules" then ["part", "index"] else if x = "IllegalStep" then ["index", "clause"] else if x = "NotationError" then ["row", "word"] else if x = "UnknownSwitch" then ["name"] else if x = "DecodeError" then ["offset"]
  else if x = "InvalidState" ∨ x = "IllegalState" ∨ x = "InvalidStates" ∨ x = "InvalidOperation" then ["index"] else []
section
variable {P : Program} {w : World} {K : PySem.W.Frag} {mg : Str → Option Value} {base : Heap} {G : List Addr} {L : List (Addr × Str)}
/-- the state after a change -/
def swD (ns s : List Str) (z : Str) : List Str := ns.filter fun o => decide (o ∈ s) != decide (o ∈ [z])
def wayE (ns : List Str) (cd : List PyData) : Nat → List Str → List PyData → Option PyData
  | _, _, [] => none
  | i, s, .str z :: ds => if z ∈ ns then (match brokenFrom ((swD ns s z).map PyData.str) 0 cd with
    | [] => wayE ns cd (i + 1) (swD ns s z) ds
    | j :: _ => some (.tuple [.str "step", .int (i : Nat), .int (j : Nat)])) else some (.tuple [.str "switch", .str z])
  | _, _, d :: _ => some (.tuple [.str "switch", d])
end
section
variable {P : Program} {w : World} {K : PySem.W.Frag} {mg : Str → Option Value} {base : Heap} {G : List Addr} {L : List (Addr × Str)}
/-- rows of words: other lists than D -/
def RowsW (D : Addr) (H : Hp) (xs : List V) (wss : List (List Str)) : Prop := xs.length = wss.length ∧ ∀ (i : Nat) (x : V), xs[i]? = some x → ∃ (p : Addr) (ws : List Str), x = .ref p ∧ wss[i]? = some ws ∧ p ≠ D ∧ H p = some (.lst (ws.map V.str))
theorem RowsW.go {D : Addr} {H H' : Hp} {xs : List V} {wss : List (List Str)} (h : RowsW D H xs wss) (g : Go G L H H') : RowsW D H' xs wss := ⟨h.1, fun i x e => by
  obtain ⟨p, ws, h1, h2, h3, h4⟩ := h.2 i x e
  exact ⟨p, ws, h1, h2, h3, g.lst h4⟩⟩
theorem RowsW.nil {D : Addr} {H : Hp} : RowsW D H [] [] := ⟨rfl, fun i x e => by cases e⟩
end
def vN (l : List Nat) : List V := l.map fun (n : Nat) => V.int (n : Nat)
section
variable {P : Program} {w : World} {K : PySem.W.Frag} {mg : Str → Option Value} {base : Heap} {G : List Addr} {L : List (Addr × Str)}
/-- lists of numbers, elsewhere than at D -/
def LsAt (D : Addr) (H : Hp) (vs : List V) (ls : List (List Nat)) : Prop := vs.length = ls.length ∧ ∀ (i : Nat) (v : V), vs[i]? = some v → ∃ (p : Addr) (l : List Nat), ls[i]? = some l ∧ v = .ref p ∧ p ≠ D ∧ H p = some (.lst (l.map fun i => V.int (i : Nat)))
theorem LsAt.go {D : Addr} {H H' : Hp} {vs : List V} {ls : List (List Nat)} (h : LsAt D H vs ls) (g : Go G L H H') : LsAt D H' vs ls := ⟨h.1, fun i v e => by
  obtain ⟨p, l, e1, e2, e3, e4⟩ := h.2 i v e
  exact ⟨p, l, e1, e2, e3, g.lst e4⟩⟩
theorem LsAt.upd {D : Addr} {H : Hp} {vs : List V} {ls : List (List Nat)} {o : HO} (h : LsAt D H vs ls) : LsAt D (L2.upd H D o) vs ls := ⟨h.1, fun i v e => by
  obtain ⟨p, l, e1, e2, e3, e4⟩ := h.2 i v e
  exact ⟨p, l, e1, e2, e3, by rw [upd_ne e3]; exact e4⟩⟩
end
section
variable {G : List Addr} {L : List (Addr × Str)} {H H' : Hp} {r : Addr}
theorem GoR.ins {C d d' : Addr} {fs fs' : List (Str × V)} (hr : H r = some (.ins C d fs)) : GoR G L r H (L2.upd H r (.ins C d' fs')) := by
  have k : ∀ b o, b ≠ r → H b = some o → L2.upd H r (.ins C d' fs') b = some o := fun b o n h => by rw [upd_ne n]; exact h
  refine ⟨fun b o n _ h => k b o n h, fun t => ⟨fun p hp => ?_, fun p hp => ?_⟩⟩
  · obtain ⟨ps, e, _⟩ := t.1 p hp
    exact tabG_keep (t.1 p hp) fun o eo => k p o (fun z => by rw [z, hr] at e; cases e) eo
  · obtain ⟨ps, e, _⟩ := t.2 p hp
    exact tabS_keep (t.2 p hp) (fun o eo => k _ o (fun z => by rw [z, hr] at e; cases e) eo) fun c hc => k c _ (fun z => by
      rw [z, hr] at hc
      have q' := Option.some.inj hc
      cases q') hc
end
abbrev cD (K : PySem.W.Frag) : Addr := He.ga K "Reader"
def rds (nl : Addr) (o : Nat) : List (Str × V) := [("numbers", .ref nl), ("offset", .int (o : Nat))]
/-- the reader at r: the numbers l, of which o are read -/
def RdAt (K : PySem.W.Frag) (H : Hp) (r nl : Addr) (l : List Nat) (o : Nat) : Prop := ∃ dx, H r = some (.ins (cD K) dx (rds nl o)) ∧ H nl = some (.lst (vN l))
section
variable {P : Program} {w : World} {K : PySem.W.Frag} {mg : Str → Option Value} {base : Heap} {G : List Addr} {L : List (Addr × Str)}
theorem RdAt.go {H H' : Hp} {r nl : Addr} {l : List Nat} {o : Nat} (h : RdAt K H r nl l o) (g : Go G L H H') : RdAt K H' r nl l o := by
  obtain ⟨dx, h1, h2⟩ := h
  exact ⟨dx, g.1 _ _ h1 (fun _ z => by cases z), g.lst h2⟩
end
abbrev cO (K : PySem.W.Frag) : Addr := He.ga K "Rollout"
abbrev sO (j : Nat) : Stmt := inClass (top iRol) j
/-- a rollout's fields -/
structure Ro where
  ru : V
  st : V
  go : V
  dn : V
  un : V
  op : V
  ks : V
  kd : V
  ku : V
def rof (f : Ro) : List (Str × V) := [("_rules", f.ru), ("_state", f.st), ("_goal", f.go), ("_done", f.dn), ("_undone", f.un), ("_is_open", f.op), ("_kept_state", f.ks), ("_kept_done", f.kd), ("_kept_undone", f.ku)]
def RoAt (K : PySem.W.Frag) (H : Hp) (x : Addr) (f : Ro) : Prop := ∃ dx, H x = some (.ins (cO K) dx (rof f))
section
variable {P : Program} {w : World} {K : PySem.W.Frag} {mg : Str → Option Value} {base : Heap} {G : List Addr} {L : List (Addr × Str)}
theorem RoAt.go {H H' : Hp} {x : Addr} {f : Ro} (h : RoAt K H x f) (g : Go G L H H') : RoAt K H' x f := by
  obtain ⟨dx, h1⟩ := h
  exact ⟨dx, g.1 _ _ h1 (fun _ z => by cases z)⟩
theorem RoAt.gor {H H' : Hp} {x r : Addr} {f : Ro} (h : RoAt K H x f) (g : GoR G L r H H') (n : x ≠ r) : RoAt K H' x f := by
  obtain ⟨dx, h1⟩ := h
  exact ⟨dx, g.free n (fun _ z => by cases z) h1⟩
end
/-- what a rollout holds -/
structure RoD where
  ns : List Str
  cd : List PyData
  st : List Str
  dn : List Str
  un : List Str
section
variable {P : Program} {w : World} {K : PySem.W.Frag} {mg : Str → Option Value} {base : Heap} {G : List Addr} {L : List (Addr × Str)}
/-- a rollout at x -/
def RolAt (K : PySem.W.Frag) (H : Hp) (x : Addr) (f : Ro) (d : RoD) : Prop := RoAt K H x f ∧ ∃ rr S D U, f.ru = .ref rr ∧ f.st = .ref S ∧ f.dn = .ref D ∧ f.un = .ref U ∧ RulesAt K H rr d.ns d.cd ∧ Tp H S (d.st.map V.str) ∧ Tp H D (d.dn.map V.str) ∧ Tp H U (d.un.map V.str)
end
/-- tuples are kept -/
def TTp (H H' : Hp) : Prop := ∀ a xs, Tp H a xs → Tp H' a xs
mutual
theorem Im.tt {H H' : Hp} (k : TTp H H') : ∀ {v : V} {d : PyData}, Im H v d → Im H' v d
  | _, _, .non => .non
  | _, _, .bl b => .bl b
  | _, _, .int i => .int i
  | _, _, .str x => .str x
  | _, _, .tup h t => .tup (k _ _ h) (Ims.tt k t)
theorem Ims.tt {H H' : Hp} (k : TTp H H') : ∀ {vs : List V} {ds : List PyData}, Ims H vs ds → Ims H' vs ds
  | _, _, .nil => .nil
  | _, _, .cons h t => .cons (Im.tt k h) (Ims.tt k t)
end
section
variable {P : Program} {w : World} {K : PySem.W.Frag} {mg : Str → Option Value} {base : Heap} {G : List Addr} {L : List (Addr × Str)} {H H' : Hp} {x : Addr} {f : Ro}
theorem RoAt.no {a : Addr} {o : HO} (h : RoAt K H x f) (e : H a = some o) (n : ∀ C d fs, o ≠ .ins C d fs) : a ≠ x := fun z => by
  obtain ⟨dx, h1⟩ := h
  rw [z, h1] at e
  exact n _ _ _ (Option.some.inj e).symm
theorem RoAt.tt (h : RoAt K H x f) (g : GoR G L x H H') : TTp H H' := fun a xs ht => by
  rcases ht with e | ⟨o, e⟩
  · exact .inl (g.free (h.no e fun _ _ _ z => by cases z) (fun _ z => by cases z) e)
  · exact .inr ⟨o, g.free (h.no e fun _ _ _ z => by cases z) (fun _ z => by cases z) e⟩
theorem RoAt.rules {rr : Addr} {ns : List Str} {cd : List PyData} (h : RoAt K H x f) (g : GoR G L x H H') (ne : cR K ≠ cO K) (hr : RulesAt K H rr ns cd) : RulesAt K H' rr ns cd := by
  obtain ⟨dx, an, ac, xs, h1, ⟨o, e, n1, n2⟩, h3, h4⟩ := hr
  have nx : rr ≠ x := fun z => by
    obtain ⟨dx', h'⟩ := h
    rw [z, h'] at h1
    have q := Option.some.inj h1
    injection q with q1
    exact ne q1.symm
  exact ⟨dx, an, ac, xs, g.free nx (fun _ z => by cases z) h1, ⟨o, g.free (h.no e fun _ _ _ z => by cases z) (fun _ z => by cases z) e, n1, n2⟩, h.tt g _ _ h3, h4.tt (h.tt g)⟩
end
section
variable {P : Program} {w : World} {K : PySem.W.Frag} {mg : Str → Option Value} {base : Heap} {G : List Addr} {L : List (Addr × Str)} {H H' : Hp} {x : Addr} {f : Ro}
/-- an instance that is being built -/
def InsAt (K : PySem.W.Frag) (H : Hp) (x : Addr) (fs : List (Str × V)) : Prop := ∃ dx, H x = some (.ins (cO K) dx fs)
theorem InsAt.go {fs : List (Str × V)} (h : InsAt K H x fs) (g : Go G L H H') : InsAt K H' x fs := by
  obtain ⟨dx, h1⟩ := h
  exact ⟨dx, g.1 _ _ h1 (fun _ z => by cases z)⟩
theorem InsAt.no {fs : List (Str × V)} {a : Addr} {o : HO} (h : InsAt K H x fs) (e : H a = some o) (n : ∀ C d fs, o ≠ .ins C d fs) : a ≠ x := fun z => by
  obtain ⟨dx, h1⟩ := h
  rw [z, h1] at e
  exact n _ _ _ (Option.some.inj e).symm
theorem InsAt.tt {fs : List (Str × V)} (h : InsAt K H x fs) (g : GoR G L x H H') : TTp H H' := fun a xs ht => by
  rcases ht with e | ⟨o, e⟩
  · exact .inl (g.free (h.no e fun _ _ _ z => by cases z) (fun _ z => by cases z) e)
  · exact .inr ⟨o, g.free (h.no e fun _ _ _ z => by cases z) (fun _ z => by cases z) e⟩
theorem InsAt.rules {fs : List (Str × V)} {rr : Addr} {ns : List Str} {cd : List PyData} (h : InsAt K H x fs) (g : GoR G L x H H') (ne : cR K ≠ cO K) (hr : RulesAt K H rr ns cd) : RulesAt K H' rr ns cd := by
  obtain ⟨dx, an, ac, xs, h1, ⟨o, e, n1, n2⟩, h3, h4⟩ := hr
  have nx : rr ≠ x := fun z => by
    obtain ⟨dx', h'⟩ := h
    rw [z, h'] at h1
    have q := Option.some.inj h1
    injection q with q1
    exact ne q1.symm
  exact ⟨dx, an, ac, xs, g.free nx (fun _ z => by cases z) h1, ⟨o, g.free (h.no e fun _ _ _ z => by cases z) (fun _ z => by cases z) e, n1, n2⟩, h.tt g _ _ h3, h4.tt (h.tt g)⟩
end
section
variable {P : Program} {w : World} {K : PySem.W.Frag} {mg : Str → Option Value} {base : Heap} {G : List Addr} {L : List (Addr × Str)} {H H' : Hp} {x : Addr} {f : Ro}
set_option maxHeartbeats 1000000 in
end
section
variable {P : Program} {w : World} {K : PySem.W.Frag} {mg : Str → Option Value} {base : Heap} {G : List Addr} {L : List (Addr × Str)}
abbrev runS (ns : List Str) (s : List Str) (cs : List Str) : List Str := cs.foldl (swD ns) s
end
section
variable {P : Program} {w : World} {K : PySem.W.Frag} {mg : Str → Option Value} {base : Heap} {G : List Addr} {L : List (Addr × Str)}
/-- what was done leads from the start to the state; all that is undone can be done again -/
structure Trk (ns : List Str) (cd : List PyData) (s0 : List Str) (d : RoD) : Prop where
  ens : d.ns = ns
  ecd : d.cd = cd
  run : d.st = runS ns s0 d.dn
  way : wayE ns cd 0 s0 ((d.dn ++ d.un.reverse).map PyData.str) = none
/-- the rules and the start are in order -/
structure Base51 (ns : List Str) (cd : List PyData) (s0 : List Str) : Prop where
  ok : OkR ns cd
  nd : ns.Nodup
  n10 : ns.length ≤ 10
  sub : s0.Sublist ns
  leg : brokenFrom (s0.map PyData.str) 0 cd = []
  nok : ∀ y ∈ ns, PyData.strOk y = true
variable {ns : List Str} {cd : List PyData} {s0 : List Str} {d : RoD}
theorem Trk.start (b : Base51 ns cd s0) : Trk ns cd s0 ⟨ns, cd, s0, [], []⟩ := ⟨rfl, rfl, rfl, rfl⟩
/-- the heap's part: HB the heap before the rollout was made, e: what the law itself holds -/
structure Now (K : PySem.W.Frag) (G : List Addr) (L : List (Addr × Str)) (HB H : Hp) (ρ : Rid) (x T dl ul : Addr) (f : Ro) (d e : RoD) : Prop where
  g : GoR G L ρ.r HB H
  row : Row K H ρ
  tb : TBS G L H
  rol : RolAt K H x f d
  go : f.go = .non
  op : f.op = .bl false
  now : Tp H T (e.st.map V.str)
  nd : dl ≠ ρ.r
  nu : ul ≠ ρ.r
  dn : H dl = some (.lst (e.dn.map V.str))
  un : H ul = some (.lst (e.un.map V.str))
variable {HB H H' : Hp} {ρ : Rid} {x T dl ul : Addr} {f f' : Ro} {d' e : RoD}
theorem RolAt.kt (h : RolAt K H x f d) (k : KT H H') (h0 : RoAt K H' x f) : RolAt K H' x f d := by
  obtain ⟨_, rr, S, D, U, e1, e2, e3, e4, hru, hS, hD, hU⟩ := h
  exact ⟨h0, rr, S, D, U, e1, e2, e3, e4, hru.kt k, hS.kt k, hD.kt k, hU.kt k⟩
theorem RolAt.go (h : RolAt K H x f d) (g : Go G L H H') : RolAt K H' x f d := h.kt g.kt (h.1.go g)
theorem Row.ner (h : Row K H ρ) (hx : RoAt K H x f) : x ≠ ρ.r := fun z => by
  obtain ⟨xs, e⟩ := h.lst
  obtain ⟨dx, e2⟩ := hx
  rw [z, e] at e2
  cases e2
theorem Now.goR (n : Now K G L HB H ρ x T dl ul f d e) (g : GoR G L ρ.r H H') (r : Row K H' ρ) : Now K G L HB H' ρ x T dl ul f d e := by
  have k := n.row.kt g
  exact ⟨n.g.trans g, r, g.2 n.tb, n.rol.kt k (n.rol.1.gor g (n.row.ner n.rol.1)), n.go, n.op, n.now.kt k, n.nd, n.nu, g.lst n.nd n.dn, g.lst n.nu n.un⟩
theorem Now.to (n : Now K G L HB H ρ x T dl ul f d e) (g : Go G L H H') : Now K G L HB H' ρ x T dl ul f d e := n.goR g.toR (n.row.go g)
theorem RoAt.lst {a : Addr} {xs : List V} (h : RoAt K H x f) (g : GoR G L x H H') (ea : H a = some (.lst xs)) : H' a = some (.lst xs) :=
  g.free (h.no ea fun _ _ _ z => by cases z) (fun _ z => by cases z) ea
end
/-- each switch comes after those that it waits for -/
def Resp (W : Str → List Str) (p : List Str) : Prop := ∀ u z v, p = u ++ z :: v → ∀ b ∈ W z, b ∈ u
theorem Resp.pre {W : Str → List Str} {p q : List Str} (h : Resp W (p ++ q)) : Resp W p := fun u z v e b hb => h u z (v ++ q) (by rw [e, List.append_assoc, List.cons_append]) b hb
/-- what stands done -/
structure Done (ch : List Str) (W : Str → List Str) (p : List Str) : Prop where
  nd : p.Nodup
  sub : ∀ z ∈ p, z ∈ ch
  rs : Resp W p
theorem Done.nil {ch : List Str} {W : Str → List Str} : Done ch W [] := ⟨List.nodup_nil, fun z hz => (by cases hz), fun u z v e => (by cases u <;> cases e)⟩
theorem nodup_len : ∀ {p ch : List Str}, p.Nodup → (∀ z ∈ p, z ∈ ch) → p.length ≤ ch.length
  | [], _, _, _ => Nat.zero_le _
  | x :: p, ch, nd, h => by
    obtain ⟨h1, h2⟩ := List.nodup_cons.mp nd
    have hx := h x List.mem_cons_self
    have e := List.length_erase_of_mem hx
    have z := nodup_len (ch := ch.erase x) h2 fun y hy => (List.mem_erase_of_ne (fun q => h1 (by rw [← q]; exact hy))).mpr (h y (List.mem_cons_of_mem _ hy))
    have p0 : 0 < ch.length := List.length_pos_of_mem hx
    show p.length + 1 ≤ _
    omega
theorem Done.len {ch : List Str} {W : Str → List Str} {p : List Str} (h : Done ch W p) : p.length ≤ ch.length := nodup_len h.nd h.sub
structure WB (ns : List Str) (cd : List PyData) (s g : List Str) : Prop where
  nd : ns.Nodup
  cl : ∀ d ∈ cd, ClD ns d
  ss : s.Sublist ns
  gs : g.Sublist ns
  ls : brokenFrom (s.map PyData.str) 0 cd = []
  lg : brokenFrom (g.map PyData.str) 0 cd = []
section
variable {ns : List Str} {cd : List PyData} {s g p : List Str}
theorem Done.pre {ch : List Str} {W : Str → List Str} {q r : List Str} (D : Done ch W (q ++ r)) : Done ch W q := ⟨(List.nodup_append.mp D.nd).1, fun z hz => D.sub z (List.mem_append.mpr (.inl hz)), D.rs.pre⟩
theorem Done.take {ch : List Str} {W : Str → List Str} {q : List Str} (D : Done ch W q) (c : Nat) : Done ch W (q.take c) := Done.pre (r := q.drop c) (by rw [List.take_append_drop]; exact D)
end
section
variable {P : Program} {w : World} {K : PySem.W.Frag} {mg : Str → Option Value} {base : Heap} {G : List Addr} {L : List (Addr × Str)}
/-- two legal states of rules, in the heap -/
structure Two (K : PySem.W.Frag) (H : Hp) (x S T : Addr) (ns : List Str) (cd : List PyData) (s g : List Str) : Prop where
  ru : RulesAt K H x ns cd
  ok : OkR ns cd
  n10 : ns.length ≤ 10
  b : WB ns cd s g
  hs : Tp H S (s.map V.str)
  hg : Tp H T (g.map V.str)
theorem Two.go {H H' : Hp} {x S T : Addr} {ns : List Str} {cd : List PyData} {s g : List Str} (h : Two K H x S T ns cd s g) (k : Go G L H H') : Two K H' x S T ns cd s g := ⟨h.ru.kt k.kt, h.ok, h.n10, h.b, h.hs.kt k.kt, h.hg.kt k.kt⟩
end
section
variable {P : Program} {w : World} {K : PySem.W.Frag} {mg : Str → Option Value} {base : Heap} {G : List Addr} {L : List (Addr × Str)}
theorem GoR.dK {r : Addr} {H : Hp} {ks ls : List (Key × V)} (hr : H r = some (.dK ks)) : GoR G L r H (L2.upd H r (.dK ls)) := by
  have k : ∀ b o, b ≠ r → H b = some o → L2.upd H r (.dK ls) b = some o := fun b o n h => (upd_ne n).trans h
  have nr : ∀ b o, (∀ zs, o ≠ .dK zs) → H b = some o → b ≠ r := fun b o n h z => by
    rw [z, hr] at h
    exact n ks (Option.some.inj h).symm
  refine ⟨fun b o n _ h => k b o n h, fun t => ⟨fun p hp => ?_, fun p hp => ?_⟩⟩
  · obtain ⟨ps, e, _⟩ := t.1 p hp
    exact tabG_keep (t.1 p hp) fun o => k p o (nr p _ (fun zs q => by cases q) e)
  · obtain ⟨ps, e, _⟩ := t.2 p hp
    exact tabS_keep (t.2 p hp) (fun o => k _ o (nr _ _ (fun zs q => by cases q) e)) fun c hc => k _ _ (nr c _ (fun zs q => by cases q) hc) hc
theorem Go.dK {H H' : Hp} {d : Addr} {kvs : List (Key × V)} (g : Go G L H H') (h : H d = some (.dK kvs)) : H' d = some (.dK kvs) := g.1 _ _ h fun _ z => by cases z
/-- the entries of a dict from switches to lists of switches: dD is no list of them -/
def KvsAt (H : Hp) (kvs : List (Key × V)) (ch : List Str) (W : Str → List Str) : Prop := kvs.length = ch.length ∧ ∀ (i : Nat) (z : Str), ch[i]? = some z → ∃ l : Addr, kvs[i]? = some ((Sum.inr z : Key), V.ref l) ∧ H l = some (.lst ((W z).map V.str))
theorem KvsAt.go {H H' : Hp} {kvs : List (Key × V)} {ch : List Str} {W : Str → List Str} (h : KvsAt H kvs ch W) (g : Go G L H H') : KvsAt H' kvs ch W := ⟨h.1, fun i z e => by
  obtain ⟨l, h1, h2⟩ := h.2 i z e
  exact ⟨l, h1, g.lst h2⟩⟩
theorem KvsAt.keys {H : Hp} {kvs : List (Key × V)} {ch : List Str} {W : Str → List Str} (h : KvsAt H kvs ch W) : kvs.map (·.1) = ch.map fun z => (Sum.inr z : Key) := by
  refine List.ext_getElem? fun i => ?_
  rw [List.getElem?_map, List.getElem?_map]
  cases e : ch[i]? with
  | none =>
    have hl : ch.length ≤ i := List.getElem?_eq_none_iff.mp e
    rw [List.getElem?_eq_none (by rw [h.1]; exact hl)]
    rfl
  | some z =>
    obtain ⟨l, h1, _⟩ := h.2 i z e
    rw [h1]
    rfl
theorem KvsAt.val {H : Hp} {W : Str → List Str} {z : Str} : ∀ {kvs : List (Key × V)} {ch : List Str}, KvsAt H kvs ch W → z ∈ ch → ∃ l : Addr, valV kvs (Sum.inr z : Key) = some (V.ref l) ∧ H l = some (.lst ((W z).map V.str))
  | [], ch, h, hz => by
    have e : ch = [] := List.eq_nil_of_length_eq_zero h.1.symm
    rw [e] at hz
    cases hz
  | p :: kvs, [], h, hz => by cases hz
  | p :: kvs, y :: ch, h, hz => by
    obtain ⟨l, h1, h2⟩ := h.2 0 y rfl
    have h1' : p = ((Sum.inr y : Key), V.ref l) := Option.some.inj h1
    by_cases c : z = y
    · subst c
      exact ⟨l, by rw [h1']; exact valV_pos rfl, h2⟩
    · have hz2 : z ∈ ch := by
        rcases List.mem_cons.mp hz with hz | hz
        · exact absurd hz c
        · exact hz
      obtain ⟨l2, h3, h4⟩ := KvsAt.val (kvs := kvs) (ch := ch) ⟨Nat.succ.inj h.1, fun i z' e => h.2 (i + 1) z' e⟩ hz2
      refine ⟨l2, ?_, h4⟩
      rw [h1', valV_neg (fun q => c (Sum.inr.inj q).symm)]
      exact h3
theorem KvsAt.none {H : Hp} {W : Str → List Str} {z : Str} {kvs : List (Key × V)} {ch : List Str} (h : KvsAt H kvs ch W) (hz : z ∉ ch) : valV kvs (Sum.inr z : Key) = none := by
  cases e : valV kvs (Sum.inr z : Key) with
  | none => rfl
  | some v =>
    have hm := valV_in e
    rw [h.keys] at hm
    obtain ⟨y, hy, hq⟩ := List.mem_map.mp hm
    exact absurd (Sum.inr.inj hq ▸ hy) hz
def WtAt (H : Hp) (d : Addr) (ch : List Str) (W : Str → List Str) : Prop := ∃ kvs, H d = some (.dK kvs) ∧ KvsAt H kvs ch W
end
section
variable {P : Program} {w : World} {K : PySem.W.Frag} {mg : Str → Option Value} {base : Heap} {G : List Addr} {L : List (Addr × Str)}
theorem WtAt.go {H H' : Hp} {d : Addr} {ch : List Str} {W : Str → List Str} (h : WtAt H d ch W) (g : Go G L H H') : WtAt H' d ch W := by
  obtain ⟨kvs, h1, h2⟩ := h
  exact ⟨kvs, g.dK h1, h2.go g⟩
end
section
variable {P : Program} {w : World} {K : PySem.W.Frag} {mg : Str → Option Value} {base : Heap} {G : List Addr} {L : List (Addr × Str)}
/-- the causes: a dict from switches to a clause and a switch that is left -/
def CauAt (H : Hp) (kvs : List (Key × V)) (left : List Str) : Prop := ∀ k v, valV kvs k = some v → ∃ (z b : Str) (t : Addr) (c : Nat), k = .inr z ∧ v = .ref t ∧ Tp H t [.int (c : Nat), .str b] ∧ b ∈ left
theorem CauAt.kt {H H' : Hp} {kvs : List (Key × V)} {left : List Str} (h : CauAt H kvs left) (k : KT H H') : CauAt H' kvs left := fun q v e => by
  obtain ⟨z, b, t, c, h1, h2, h3, h4⟩ := h q v e
  exact ⟨z, b, t, c, h1, h2, h3.kt k, h4⟩
end
section
variable {P : Program} {w : World} {K : PySem.W.Frag} {mg : Str → Option Value} {base : Heap} {G : List Addr} {L : List (Addr × Str)}
/-- a goal, or none -/
def GoalAt (H : Hp) (gv : V) (ns : List Str) (cd : List PyData) (g : Option (List Str)) : Prop := (g = none ∧ gv = .non) ∨ ∃ (T : Addr) (gs : List Str), g = some gs ∧ gv = .ref T ∧ Tp H T (gs.map V.str) ∧ gs.Sublist ns ∧ brokenFrom (gs.map PyData.str) 0 cd = []
theorem GoalAt.tt {H H' : Hp} {gv : V} {ns : List Str} {cd : List PyData} {g : Option (List Str)} (h : GoalAt H gv ns cd g) (k : TTp H H') : GoalAt H' gv ns cd g := by
  rcases h with h | ⟨T, gs, h1, h2, h3, h4⟩
  · exact .inl h
  · exact .inr ⟨T, gs, h1, h2, k _ _ h3, h4⟩
theorem Go.tt {H H' : Hp} (g : Go G L H H') : TTp H H' := fun a xs h => h.kt g.kt
end
/-- a step -/
local macro_rules | `(tactic| walk_at "rl") => `(tactic| first | (with_reducible refine r_tM1 ?_) | (with_reducible refine r_un ?_) | (with_reducible refine r_u1 ?_) | (with_reducible refine r_par ?_) | walk_at "rd")
/-- a step -/
local macro_rules | `(tactic| walk_at "rl") => `(tactic| first | (with_reducible refine r_tM1 ?_) | (with_reducible refine r_un ?_) | (with_reducible refine r_u1 ?_) | (with_reducible refine r_par ?_) | walk_at "rd")
section
variable {P : Program} {w : World} {K : PySem.W.Frag} {mg : Str → Option Value} {base : Heap} {G : List Addr} {L : List (Addr × Str)}
/-- rules and their legal states, as the law draws them; a start -/
structure Drw (K : PySem.W.Frag) (H : Hp) (x l S : Addr) (ns : List Str) (cd : List PyData) (st : List Str) : Prop where
  ru : RulesAt K H x ns cd
  ok : OkR ns cd
  cl : ∀ d ∈ cd, ClD ns d
  nd : ns.Nodup
  n0 : 0 < ns.length
  n8 : ns.length ≤ 8
  c40 : cd.length ≤ 40
  nn : ("none" : Str) ∉ ns
  lg : ∃ lx, H l = some (.lst lx) ∧ StsAt H lx (legalD ns cd)
  hs : Tp H S (st.map V.str)
  sub : st.Sublist ns
  leg : brokenFrom (st.map PyData.str) 0 cd = []
theorem Drw.kt {H H' : Hp} {x l S : Addr} {ns : List Str} {cd : List PyData} {st : List Str} (h : Drw K H x l S ns cd st) (k : KT H H') (hl : ∀ lx, H l = some (.lst lx) → H' l = some (.lst lx)) : Drw K H' x l S ns cd st := by
  obtain ⟨lx, h1, h2⟩ := h.lg
  exact ⟨h.ru.kt k, h.ok, h.cl, h.nd, h.n0, h.n8, h.c40, h.nn, ⟨lx, hl _ h1, h2.kt k⟩, h.hs.kt k, h.sub, h.leg⟩
theorem Drw.go {H H' : Hp} {x l S : Addr} {ns : List Str} {cd : List PyData} {st : List Str} (h : Drw K H x l S ns cd st) (g : Go G L H H') : Drw K H' x l S ns cd st := h.kt g.kt fun _ e => g.lst e
theorem Drw.goR {H H' : Hp} {ρ : Rid} {x l S : Addr} {ns : List Str} {cd : List PyData} {st : List Str} (h : Drw K H x l S ns cd st) (hR : Row K H ρ) (n : l ≠ ρ.r) (g : GoR G L ρ.r H H') : Drw K H' x l S ns cd st := h.kt (hR.kt g) fun _ e => g.lst n e
end
section
variable {K : PySem.W.Frag} {f : Addr} {fd : FuncData}
/-- a method that may be bound -/
def bmB (K : PySem.W.Frag) (C : Addr) (m : Str) : Bool := He.eqO (PySem.W.specialIn K (.ref (He.ma K C m)) "__get__") (some (some (.builtin "function.__get__"))) && (decide (PySem.W.takesIn K (.ref (He.ma K C m)) = some false) && (!PySem.W.copiedNames.contains m && PySem.W.fnIn K (He.ma K C m)))
/-- a property of the class C -/
def pgC (K : PySem.W.Frag) (C : Addr) (m : Str) : Addr := match PySem.W.recIn K (He.ma K C m) "property" with
  | some (.ref g :: _) => g
  | _ => 0
def prC (K : PySem.W.Frag) (C : Addr) (m : Str) : Bool := He.eqO (PySem.W.findIn K (.ref C) m) (some (some (.ref (He.ma K C m)))) && (He.eqO (PySem.W.specialIn K (.ref (He.ma K C m)) "__get__") (some (some (.builtin "property.__get__"))) && (decide (PySem.W.takesIn K (.ref (He.ma K C m)) = some true) &&
  (match PySem.W.recIn K (He.ma K C m) "property" with
    | some (.ref _ :: _) => true
    | _ => false)))
end
/-- a step -/
local macro_rules | `(tactic| walk_at "rl") => `(tactic| first | (with_reducible refine r_tM1 ?_) | (with_reducible refine r_un ?_) | (with_reducible refine r_u1 ?_) | (with_reducible refine r_par ?_) | walk_at "rd")
section
variable {P : Program} {w : World} {K : PySem.W.Frag} {mg : Str → Option Value} {base : Heap} {G : List Addr} {L : List (Addr × Str)}
def errNW : PyData := .tuple [.str "error", .str "NoWay"]
/-- the way, or that there is none -/
def WayAt (H : Hp) (r : Addr) (v : V) (sv : Prop) : Prop := (sv ∧ ∃ (l : Addr) (ss : List Str), v = .ref l ∧ l ≠ r ∧ H l = some (.lst (ss.map V.str))) ∨ (¬ sv ∧ Im H v errNW)
/-- the heap's part: HB the heap before the rollout was made -/
structure NowG (K : PySem.W.Frag) (G : List Addr) (L : List (Addr × Str)) (HB H : Hp) (ρ : Rid) (x T l : Addr) (lx : List V) (LD : List (List Str)) (wv : V) (sv : Prop) (f : Ro) (d : RoD) : Prop where
  g : GoR G L ρ.r HB H
  row : Row K H ρ
  tb : TBS G L H
  rol : RolAt K H x f d
  go : f.go = .ref T
  nl : l ≠ ρ.r
  lg : H l = some (.lst lx)
  ls : StsAt H lx LD
  way : WayAt H ρ.r wv sv
variable {HB H H' : Hp} {ρ : Rid} {x T l : Addr} {lx : List V} {LD : List (List Str)} {wv : V} {sv : Prop} {f f' : Ro} {d d' : RoD}
theorem NowG.goR (n : NowG K G L HB H ρ x T l lx LD wv sv f d) (g : GoR G L ρ.r H H') (r : Row K H' ρ) : NowG K G L HB H' ρ x T l lx LD wv sv f d := by
  have k := n.row.kt g
  refine ⟨n.g.trans g, r, g.2 n.tb, n.rol.kt k (n.rol.1.gor g (n.row.ner n.rol.1)), n.go, n.nl, g.lst n.nl n.lg, n.ls.kt k, ?_⟩
  rcases n.way with ⟨h1, w, ss, e, nw, h2⟩ | ⟨h1, h2⟩
  · exact .inl ⟨h1, w, ss, e, nw, g.lst nw h2⟩
  · exact .inr ⟨h1, h2.kt k⟩
theorem NowG.to (n : NowG K G L HB H ρ x T l lx LD wv sv f d) (g : Go G L H H') : NowG K G L HB H' ρ x T l lx LD wv sv f d := n.goR g.toR (n.row.go g)
end
/-- a step -/
local macro_rules | `(tactic| walk_at "rl") => `(tactic| first | (with_reducible refine r_tM1 ?_) | (with_reducible refine r_un ?_) | (with_reducible refine r_u1 ?_) | (with_reducible refine r_par ?_) | walk_at "rd")
section
variable {K : PySem.W.Frag} {h : Heap}
def isB (a b : Option Bool) : Bool := decide (a = b)
/-- an exception class of its own __init__ -/
def oxB (K : PySem.W.Frag) (C : Addr) : Bool := match K.lookup C with
  | some ⟨.type t, _, .cls cd, sl⟩ => (match cd.mro, sl.toList with
    | .ref D :: bm, [_, _, _, _, some (.builtin n), _] => decide (t = "type") && (decide (D = C) && (decide (n = "ValueError.__new__") && (!cd.hasDel && (cd.hasDict && PySem.HandSPX.refsVE bm))))
    | _, _ => false)
  | _ => false
def oexB (K : PySem.W.Frag) (C : Addr) : Bool := oxB K C && (He.eqO (PySem.W.findIn K (.ref C) "__setattr__") (some (some (.builtin "object.__setattr__"))) && (isB (PySem.W.subIn K (.ref C) (.type "BaseException")) (some true) && (decide (PySem.W.typeIn K (.ref C) = some (.type "type")) && PySem.W.keepIn K (.ref C))))
/-- what isinstance(e, ..) looks at -/
def ecB (K : PySem.W.Frag) (C : Addr) : Bool := He.eqO (PySem.W.findIn K (.ref C) "__getattribute__") (some (some (.builtin "BaseException.__getattribute__"))) && (He.eqO (PySem.W.findIn K (.ref C) "__getattr__") (some none) && (isB (PySem.W.subIn K (.ref C) (.type "BaseException")) (some true) && (PySem.W.hasDictIn K C &&
  (He.eqO (PySem.W.findIn K (.ref C) "__class__") (some (some (.builtin "object.__class__"))) && (He.eqO (PySem.W.specialIn K (.builtin "object.__class__") "__get__") (some (some (.builtin "getset_descriptor.__get__"))) && (isB (PySem.W.takesIn K (.builtin "object.__class__")) (some true) && isB (PySem.W.mroIn K C (.type "object")) (some true)))))))
/-- a property's getter -/
def pgO (K : PySem.W.Frag) (m : Str) : Addr := match PySem.W.recIn K (He.ma K (cR K) m) "property" with
  | some (.ref g :: _) => g
  | _ => 0
def prB (K : PySem.W.Frag) (m : Str) : Bool := He.eqO (PySem.W.findIn K (.ref (cR K)) m) (some (some (.ref (He.ma K (cR K) m)))) && (He.eqO (PySem.W.specialIn K (.ref (He.ma K (cR K) m)) "__get__") (some (some (.builtin "property.__get__"))) && (isB (PySem.W.takesIn K (.ref (He.ma K (cR K) m))) (some true) &&
  (match PySem.W.recIn K (He.ma K (cR K) m) "property" with
    | some (.ref _ :: _) => true
    | _ => false)))
/-- a class that is read -/
def crB (K : PySem.W.Frag) (C : Addr) : Bool := PySem.W.readsIn K C (.type "type") && He.eqO (PySem.W.specialIn K (.ref C) "__getattribute__") (some (some (.builtin "type.__getattribute__")))
def fvB (K : PySem.W.Frag) : Bool := match PySem.W.findCls K (.ref (He.ga K "StepError")) (.type "type") "__init__" with
  | some (.val (.builtin n)) => decide (n = "ValueError.__init__")
  | _ => false
/-- the tables' defs -/
def tfL : List He.Defn := [("is_name", none), ("law", none), ("_law_errors", none)]
def tbL (K : PySem.W.Frag) : List Addr := tfL.map fun p => (He.cT K p).2
/-- the rest of the facts, as one Bool -/
def initB (K : PySem.W.Frag) (x : Str) : Bool := oexB K (He.ga K x) && (He.eqO (PySem.W.findIn K (.ref (He.ga K x)) "__init__") (some (some (.ref (He.ma K (He.ga K x) "__init__")))) && decide (PySem.W.typeIn K (.ref (He.ma K (He.ga K x) "__init__")) = some (.type "function")))
/-- an error class without __init__ -/
def erB (K : PySem.W.Frag) (x : Str) : Bool := PySem.W.excIn K (He.ga K x) He.veBase "ValueError.__new__" && (PySem.W.keepIn K (.ref (He.ga K x)) && (isB (PySem.W.subIn K (.ref (He.ga K x)) (.type "BaseException")) (some true) && decide (PySem.W.typeIn K (.ref (He.ga K x)) = some (.type "type"))))
def fldH : List (Str × Str) := [("InvalidRules", "part"), ("InvalidRules", "index"), ("UnknownSwitch", "name"), ("InvalidState", "index"), ("IllegalState", "index"), ("IllegalStep", "index"), ("IllegalStep", "clause"), ("NoWay", "circle")]
def exL (K : PySem.W.Frag) : List Bool := [
  initB K "InvalidRules",
  initB K "InvalidState",
  initB K "IllegalState",
  initB K "UnknownSwitch",
  initB K "IllegalStep",
  initB K "NoWay",
  crB K (He.ga K "StepError"),
  fvB K,
  kinds5.all (fun x => ecB K (He.ga K x)),
  kinds5.all (fun x => isB (PySem.W.exmOne K (.ref (He.ga K x)) (.ref (He.ga K "StepError"))) (some true)),
  kinds5.all (fun x => isB (PySem.W.kitOne K (.ref (He.ga K x)) (.type "ValueError")) (some true)),
  kinds5.all (fun x => kinds5.all fun y => isB (PySem.W.kitOne K (.ref (He.ga K x)) (.ref (He.ga K y))) (some (decide (x = y)))),
  kinds5.all (fun x => decide (fldOf x = []) || xfB K (He.ga K x)),
  kinds5.all (fun x => (fldOf x).all fun f => He.eqO (PySem.W.findIn K (.ref (He.ga K x)) f) (some none)),
  erB K "NoGoal",
  fldH.all (fun p => He.eqO (PySem.W.findIn K (.ref (He.ga K p.1)) p.2) (some none)),
  bmB K (cO K) "change",
  prC K (cO K) "state",
  prC K (cO K) "target",
  prC K (cO K) "history",
  prC K (cO K) "remaining",
  He5.wrapB K (cO K) "classmethod" "classmethod.__get__" "resumed",
  PySem.W.fnIn K (He5.wf K (cO K) "classmethod" "resumed"),
  crB K (cO K),
  He5.wrapB K (cO K) "classmethod" "classmethod.__get__" "resumed",
  PySem.W.fnIn K (He5.wf K (cO K) "classmethod" "resumed"),
  crB K (cO K),
  decide (cR K ≠ cO K),
  decide (PySem.W.subIn K (.ref (He.ga K "IllegalStep")) (.type "StopIteration") = some false),
  decide (PySem.W.subIn K (.ref (He.ga K "UnknownSwitch")) (.type "StopIteration") = some false),
  prB K "names",
  prB K "clauses",
  He.tupB K "WORDS" [.str "needs", .str "excludes", .str "either"],
  decide ((tbL K).Nodup)]
def exB (K : PySem.W.Frag) : Bool := (exL K).all id
/-- a def of the top, of Rules, of an error -/
def dT (x : Str) (i : Nat) : He5.DefA := ⟨fun K => He.fAd K (x, none), x, x, defArgs (top i), defBody (top i), defScope (top i), [], []⟩
def dR (m q : Str) (j : Nat) : He5.DefA := ⟨fun K => He.ma K (cR K) m, m, q, defArgs (sM j), defBody (sM j), defScope (sM j), [], []⟩
def dG (m q : Str) (j : Nat) : He5.DefA := ⟨fun K => pgO K m, m, q, defArgs (sM j), defBody (sM j), defScope (sM j), [], []⟩
def dE (C q : Str) (i : Nat) : He5.DefA := ⟨fun K => He.ma K (He.ga K C) "__init__", "__init__", q, defArgs (sErr i), defBody (sErr i), defScope (sErr i), [], []⟩
def dO (m q : Str) (j : Nat) : He5.DefA := ⟨fun K => He.ma K (cO K) m, m, q, defArgs (sO j), defBody (sO j), defScope (sO j), [], []⟩
def dOG (m q : Str) (j : Nat) : He5.DefA := ⟨fun K => pgC K (cO K) m, m, q, defArgs (sO j), defBody (sO j), defScope (sO j), [], []⟩
def dOI (m q : Str) (j : Nat) : He5.DefA := ⟨fun K => He.ma K (cO K) m, m, q, defArgs (sO j), defBody (sO j), defScope (sO j), [], [("goal", .non)]⟩
def dOD (m q : Str) (j : Nat) : He5.DefA := ⟨fun K => He.ma K (cO K) m, m, q, defArgs (sO j), defBody (sO j), defScope (sO j), [.int 1], []⟩
def dOC (m q : Str) (j : Nat) : He5.DefA := ⟨fun K => He5.wf K (cO K) "classmethod" m, m, q, defArgs (sO j), defBody (sO j), defScope (sO j), [], [("goal", .non)]⟩
def fnL : List He5.DefA := [
  dT "is_name" 33,
  dT "is_clause" 34,
  dT "fulfils" 51,
  dT "broken_among" 52,
  dE "InvalidRules" "InvalidRules.__init__" 3,
  dE "InvalidState" "InvalidState.__init__" 7,
  dE "IllegalState" "IllegalState.__init__" 8,
  dE "UnknownSwitch" "UnknownSwitch.__init__" 6,
  dE "IllegalStep" "IllegalStep.__init__" 9,
  dT "check_names" 35,
  dT "check_clauses" 36,
  dT "check_state" 37,
  dR "__init__" "Rules.__init__" 0,
  dR "broken_clauses" "Rules.broken_clauses" 6,
  dG "names" "Rules.names" 1,
  dG "clauses" "Rules.clauses" 2,
  dT "check_legal" 24,
  dT "differing" 25,
  dT "_law_told" 59,
  dT "check_switch" 38,
  dT "switched" 26,
  dT "_law_dice" 55,
  dT "_law_next" 56,
  dT "_law_like" 57,
  dT "_law_pick" 58,
  dT "_law_names" 60,
  dT "_law_clause" 61,
  dT "_law_keeps" 62,
  dT "_law_all" 63,
  dT "_law_legal" 64,
  dT "_law_rules" 65,
  dT "_law_broken" 66,
  dT "states_on_way" 47,
  dOI "__init__" "Rollout.__init__" 0,
  dO "change" "Rollout.change" 5,
  dOG "state" "Rollout.state" 1,
  dOG "target" "Rollout.target" 2,
  dOG "history" "Rollout.history" 3,
  dT "_in_order" 40,
  dT "order_pairs" 41,
  dT "waiting" 42,
  dT "possible_changes" 43,
  dT "_longest" 44,
  dT "_circle" 45,
  dE "NoWay" "NoWay.__init__" 10,
  dT "find_way" 46,
  dOG "remaining" "Rollout.remaining" 4,
  dOD "advance" "Rollout.advance" 7,
  dOC "resumed" "Rollout.resumed" 10,
  dT "_law_errors" 67,
  dT "law" 68]
def defN : List Str := (["check_legal", "differing", "switched", "is_name", "is_clause", "check_names", "check_clauses", "check_state", "check_switch", "_in_order", "order_pairs", "waiting", "possible_changes", "_longest", "_circle", "find_way", "states_on_way", "fulfils", "broken_among", "_law_dice", "_law_next", "_law_like", "_law_pick", "_law_told", "_law_names"] : List Str) ++ (["_law_clause", "_law_keeps", "_law_all", "_law_legal", "_law_rules", "_law_broken", "_law_errors"] : List Str)
def clsN : List Str := ["StepError", "InvalidRules", "InvalidClause", "UnknownClause", "UnknownSwitch", "InvalidState", "IllegalState", "IllegalStep", "NoWay", "NoGoal", "AlreadyOpen", "InvalidStates", "TooManyClauses", "DifferentNames", "InvalidOperation", "TooManySwitches", "LastSwitch", "InvalidName", "NotationError", "InvalidCount", "DecodeError", "Rollout", "Rules"]
def gloN : List Str := clsN ++ defN ++ (["WORDS", "law"] : List Str)
def freeN : List Str := ["ValueError", "all", "bool", "classmethod", "enumerate", "int", "isinstance", "len", "list", "max", "property", "range", "reversed", "sorted", "str", "tuple"]
def faL : List He.Fa := [.int "MOST_LETTERS" 8, .int "MOST_NAMES" 10, .int "MOST_CLAUSES" 40, .str "LETTERS" letters, .cls "Rules", .noat "Rules" "_names", .noat "Rules" "_clauses", .mkr "Rules", .meth "Rules" "broken_clauses", .cls "Rollout", .mkr "Rollout", .noat "Rollout" "_rules", .noat "Rollout" "_state", .noat "Rollout" "_goal", .noat "Rollout" "_done", .noat "Rollout" "_undone", .noat "Rollout" "_is_open", .noat "Rollout" "_kept_state", .noat "Rollout" "_kept_done", .noat "Rollout" "_kept_undone", .meth "Rollout" "change", .meth "Rollout" "advance"] ++ gloN.map He.Fa.glo ++ freeN.map He.Fa.free
structure SaysF (h : Heap) (K : PySem.W.Frag) : Prop where
  a : He5.SaysA faL fnL K
  more : exB K = true
  hd : ∀ p ∈ tfL, PySem.W.codeHdIn K (He.cT K p).1 (He.cT K p).2 = true
  out : ∀ p ∈ tfL, K.lookup (He.cT K p).2 = none
  empty : ∀ p ∈ tfL, h.get? (He.cT K p).2 = some { cls := .none, data := .fields #[] }
abbrev AlF : Type := He.AlD × Bool
def obsF (n : Nat) (g : Addr → Option Obj) : AlF := (He5.obsA faL fnL (He.frT g (He5.asA g n)), exB (He.frT g (He5.asA g n)) && He.tabsB g tfL (He.frT g (He5.asA g n)))
def valF : AlF := (He5.valA fnL, true)
theorem saysF_of {n : Nat} {h : Heap} (e : obsF n h.get? = valF) : SaysF h (He.frT h.get? (He5.asA h.get? n)) := by
  have e1 : He5.obsA faL fnL (He.frT h.get? (He5.asA h.get? n)) = He5.valA fnL := congrArg (fun z : AlF => z.1) e
  have e2 : (exB (He.frT h.get? (He5.asA h.get? n)) && He.tabsB h.get? tfL (He.frT h.get? (He5.asA h.get? n))) = true := congrArg (fun z : AlF => z.2) e
  obtain ⟨h1, h2⟩ := He.ba e2
  generalize hK : He.frT h.get? (He5.asA h.get? n) = K at e1 h1 h2
  have key : ∀ p ∈ tfL, PySem.W.codeHdIn K (He.cT K p).1 (He.cT K p).2 = true ∧ ∃ o, h.get? (He.cT K p).2 = some o ∧ He.emptyTab o = true := fun p hp => by
    obtain ⟨h3, h4⟩ := He.ba (List.all_eq_true.mp h2 p hp)
    refine ⟨h3, ?_⟩
    cases q : h.get? (He.cT K p).2 with
    | none =>
      rw [q] at h4
      cases h4
    | some o =>
      rw [q] at h4
      exact ⟨o, rfl, h4⟩
  refine ⟨e1, h1, fun p hp => (key p hp).1, fun p hp => ?_, fun p hp => ?_⟩
  · obtain ⟨_, o, q, z⟩ := key p hp
    have zz : ∀ a, h.get? a = some o → K.lookup a = none := fun a q => by
      rw [← hK]
      exact He.frT_none q z
    exact zz _ q
  · obtain ⟨_, o, q, z⟩ := key p hp
    rw [q, He.emptyTab_eq z]
def hkF : PySem.W.Hook where
  α := AlF
  obs := fun s => obsF 5 s.heap.get?
  val := fun _ => valF
  says := fun _ h => ∃ K : PySem.W.Frag, K.In h ∧ SaysF h K
  of := fun _ _ e => ⟨_, He.frT_in, saysF_of e⟩
  keeps := fun _ _ _ ⟨K, hK, c⟩ k => ⟨K, PySem.W.Frag.In.keeps hK k, ⟨c.a, c.more, c.hd, c.out, fun p hp => k _ _ (c.empty p hp)⟩⟩
def obT (s : PySem.W.SharedT) : AlF := obsF 5 (HandSHeadRun.getT s)
end
abbrev RW : PySem.W.OpenRow := PySem.W.OpenLaw.row PySem.Challenge.rw_flagsteps_k52_rollouts_towards_goals
abbrev qv : Program := PySem.W.view RW.prog [68]
def looseN : List Str := (["StepError", "InvalidRules", "InvalidClause", "UnknownClause", "UnknownSwitch", "InvalidState", "IllegalState", "IllegalStep", "NoWay", "NoGoal", "AlreadyOpen", "InvalidStates", "TooManyClauses", "DifferentNames", "InvalidOperation", "TooManySwitches", "LastSwitch", "InvalidName", "NotationError", "InvalidCount", "DecodeError", "Rollout", "Rules", "_wall", "check_legal"] : List Str) ++ (["differing", "switched", "is_name", "is_clause", "check_names", "check_clauses", "check_state", "check_switch", "_in_order", "order_pairs", "waiting", "possible_changes", "_longest", "_circle", "find_way", "states_on_way", "fulfils", "broken_among", "_law_dice", "_law_next", "_law_like", "_law_pick", "_law_told", "_law_names", "_law_clause"] : List Str) ++ (["_law_keeps", "_law_all", "_law_legal", "_law_rules", "_law_broken", "_law_errors", "LETTERS", "WORDS", "MOST_LETTERS", "MOST_NAMES", "MOST_CLAUSES"] : List Str)
theorem runF (w : World) : HandSHeadRun.RunEq RW qv hkF obT 12000 looseN w := by
  intro os
  kernel_rfl
end FS
set_option maxHeartbeats 0
open PySem PySem.W PySem.Calls PyProof.Rows
set_option Elab.async false
set_option linter.all false
set_option maxRecDepth 100000
set_option maxHeartbeats 2000000
namespace FS
open PySem PySem.Spec PyProof.Rows L2
section
variable {X : Cx}
/-- tuple(list) -/
theorem call_tupleD : CallR X (.type "tuple") (fun xs H Q => ∃ p ys, xs = [.ref p] ∧ SqL X.K H p ys ∧ ∀ l o, H l = none → o.cls = .type "tuple" → o.dict = none → Q (.ref l) (upd H l (.frz o (.tup ys)))) := by
  intro pins s σ H xs us Q I r ⟨p, ys, ev, hq, q⟩
  subst ev
  obtain ⟨u, eu, rx⟩ := vals1 r
  subst eu
  cases rx
  obtain ⟨its, r', pl, hz⟩ := I.list hq
  have hlen := r'.length
  refine call_tuple_list pl.isList (fun h' kp => ?_) (by simp only [List.size_toArray] <;> omega)
  have I1 : Inv X pins σ H { s with heap := h' } := I.kept (t' := s.toks) kp
  have new : ObjOk X.prog X.w (upd H h'.objs.size (.frz ({ cls := .type "tuple", data := .seq its.toArray } : Obj) (.tup ys))) (h'.push { cls := .type "tuple", data := .seq its.toArray }) h'.objs.size (.frz ({ cls := .type "tuple", data := .seq its.toArray } : Obj) (.tup ys)) :=
    ⟨Heap.get?_push_size _ rfl, hz, its, r', IsTup.new _ _⟩
  have I2 := I1.laid (t' := s.toks) (fun b o e => Heap.get?_push_of_some _ e) (Nat.le_refl _) new
  exact ⟨.ref h'.objs.size, _, I2, rfl, q _ _ (I1.hok.fresh (Nat.le_refl _)) rfl rfl⟩
/-- t[lo:hi] of such a one -/
def rSlD : V → Option Int → Option Int → Hp → VK → Prop := fun x lo hi H Q => ∃ a xs, x = .ref a ∧ NT H a xs ∧
  (cutV xs lo hi = xs → Q (.ref a) H) ∧ (∀ p o, H p = none → o.cls = .type "tuple" → o.dict = none → Q (.ref p) (upd H p (.frz o (.tup (cutV xs lo hi)))))
theorem sl_tupD : SlR X rSlD := by
  intro pins s σ H x v vl vu lo hi sl Q I rx hs pl pu ⟨a, xs, ev, hx, q1, q2⟩
  subst ev
  cases rx
  obtain ⟨its, r, ht, hz⟩ := I.tuple (hx.seq (K := X.K))
  have hlen : its.toArray.size = xs.length := by rw [List.size_toArray]; exact r.length.symm
  refine ⟨"tuple", _, PyProof.Rows.slot_tuple_getitem.lookup, ht.typeIs, ?_⟩
  by_cases hw : HT.sIx xs.length 0 lo = 0 ∧ HT.sIx xs.length xs.length hi = xs.length
  · refine getItem_tuple_whole ht hs pl pu (by rw [hlen]; exact hw) ⟨.ref a, H, I, rfl, q1 ?_⟩
    unfold cutV
    rw [hw.1, hw.2]
    simp
  · refine HT.getItem_tuple_cut ht hs pl pu (by rw [hlen]; exact hw) ?_ (by rw [hlen]; exact hz)
    rw [hlen]
    refine ⟨.ref s.heap.objs.size, _, I.laid (t' := s.toks) (o := .frz ({ cls := .type "tuple", data := .seq (List.take (HT.sIx xs.length xs.length hi - HT.sIx xs.length 0 lo) (List.drop (HT.sIx xs.length 0 lo) its.toArray.toList)).toArray } : Obj) (.tup (cutV xs lo hi))) (fun b ob q => Heap.get?_push_of_some _ q) (Nat.le_refl _) ?_, rfl, q2 _ _ (I.hok.fresh (Nat.le_refl _)) rfl rfl⟩
    exact ⟨Heap.get?_push_size _ rfl, Nat.le_trans (cutV_length xs lo hi) hz, _, (r.drop (HT.sIx xs.length 0 lo)).take (HT.sIx xs.length xs.length hi - HT.sIx xs.length 0 lo), IsTup.new _ _⟩
/-- t.m(e, ..) -/
def tTM (r : V → List V → Hp → VK → Prop) (to : TE) (t : TA) : TE := fun σ H Q => to σ H fun x H1 => (∃ a xs, x = .ref a ∧ NT H1 a xs) ∧ t σ H1 fun xs H2 => r x xs H2 Q
variable {o e : Expr} {es : List Expr} {to : TE} {t : TA} {name : Str} {apos cpos : Pos} {id : String} {r : V → List V → Hp → VK → Prop}
theorem pe_tm (pa : PlainAttrs "tuple") (slot : Slot "tuple" name id) (hty : typeOf (.builtin id) = pure (.type "method_descriptor")) (hm : MtR X id r) (ho : PE X o to) (ha : PA X (e :: es) t)
    (hbase : attributeBase o name X.env (eval o X.env) = eval o X.env := by rfl)
    (hfew : ((backTo cpos (starEach (e :: es) X.env)).all (fun x => !x.1) && (backToKw cpos (keywordEach [] X.env)).all (fun x => x.1.isSome)
      && decide ((e :: es).length + ([] : List Keyword).length + (if ([] : List Keyword).isEmpty then 0 else 1) < 30)) = true := by rfl)
    (hline : (apos.endLine == cpos.line) = true := by rfl) (hs : starEach (e :: es) X.env = (false, eval e X.env) :: starEach es X.env := by rfl) (hpl : (backTo cpos (starEach es X.env)).any (·.1) = false := by rfl) :
    PE X (.Call (.Attribute o name apos) (e :: es) [] cpos) (tTM r to t) := by
  refine ⟨fun pins s σ H Q I h => ?_⟩
  refine wpAny_Call_method_late hbase hfew hline rfl (thn (ho.run pins s σ H _ I h) fun v s1 ⟨x, H1, I1, r1, ⟨a, xs, ea, ob, hob, hc, hd⟩, q1⟩ => ?_)
  subst ea
  cases r1
  obtain ⟨hget, _⟩ := (show ObjOk X.prog X.w H1 s1.heap a (.frz ob (.tup xs)) from I1.hok a _ hob)
  refine ⟨"tuple", id, pa, slot, hty, ⟨ob, hget, hc⟩, fun b eb => ?_, ?_⟩
  · cases eb
    exact ⟨ob, hget, hd⟩
  · have hA := ha.run cpos pins s1 σ H1 _ I1 q1
    rw [hs] at hA ⊢
    refine Calls.callWith_builtin (by show (false || (backTo cpos (starEach es X.env)).any (·.1)) = false; rw [hpl] <;> rfl) (Calls.evalArgs_plain ?_)
    exact thn hA fun us s2 ⟨vs, H2, I2, r2, q2⟩ => hm pins s2 σ H2 (.ref a) vs _ us Q I2 rfl r2 q2
end
end FS
set_option maxHeartbeats 2000000
namespace FS
open PySem PySem.Spec PyProof.Rows L2 LamX GxR
theorem KT.refl (H : Hp) : KT H H := fun _ _ _ _ e => e
theorem Ev.refl {r : Addr} (H : Hp) : Ev r H H := fun _ _ _ _ e => e
section
variable {G : List Addr} {L : List (Addr × Str)} {H H' H1 H2 : Hp} {r : Addr}
theorem Go.refl (H : Hp) : Go G L H H := ⟨ExtN.refl H, id⟩
theorem Go.tabbed {P : Addr} (A : Apart G L) (hP : P ∈ G) (t : TBS G L H) (e : Tabbed P H H') : Go G L H H' := by
  obtain ⟨ps, hps, _⟩ := t.1 P hP
  have k : ∀ b o, b ≠ P → H b = some o → H' b = some o := fun b o n h => (e.2 b n).trans h
  have nP : ∀ b o, (∀ q, o ≠ .tbl q) → H b = some o → b ≠ P := fun b o n h z => by
    rw [z, hps] at h
    exact n ps (Option.some.inj h).symm
  refine ⟨fun b o h n => k b o (nP b o n h) h, fun _ => ⟨fun p hp => ?_, fun p hp => tabS_keep (t.2 p hp) (fun o => k _ o fun z => A.gl p hp (z ▸ hP)) fun c hc => k _ _ (nP c _ codeO_ne hc) hc⟩⟩
  by_cases z : p = P
  · rw [z]
    exact e.1
  · exact tabG_keep (t.1 p hp) fun o => k p o z
theorem GoR.refl (H : Hp) : GoR G L r H H := ⟨Ev.refl H, id⟩
end
mutual
theorem Im.dp {K : PySem.W.Frag} {H : Hp} : ∀ {v : V} {d : PyData}, Im H v d → Dp K H v d
  | _, _, .non => .non
  | _, _, .bl b => .bl b
  | _, _, .int i => .int i
  | _, _, .str x => .str x
  | _, _, .tup h t => .tup h.seq (Ims.dp t)
theorem Ims.dp {K : PySem.W.Frag} {H : Hp} : ∀ {vs : List V} {ds : List PyData}, Ims H vs ds → DpAll K H vs ds
  | _, _, .nil => .nil
  | _, _, .cons h t => .cons (Im.dp h) (Ims.dp t)
end
theorem Ims.get {H : Hp} : ∀ {vs : List V} {ds : List PyData} {i : Nat} {v : V}, Ims H vs ds → vs[i]? = some v → ∃ d, ds[i]? = some d ∧ Im H v d
  | _, _, _, _, .nil, e => by simp at e
  | _, _, 0, _, .cons h _, e => by simp at e; subst e; exact ⟨_, rfl, h⟩
  | _, _, i + 1, v, .cons _ t, e => by
    obtain ⟨d, h1, h2⟩ := Ims.get (i := i) (v := v) t (by simpa using e)
    exact ⟨d, by simpa using h1, h2⟩
theorem Ims.app {H : Hp} : ∀ {vs ws : List V} {ds es : List PyData}, Ims H vs ds → Ims H ws es → Ims H (vs ++ ws) (ds ++ es)
  | _, _, _, _, .nil, s => s
  | _, _, _, _, .cons h t, s => .cons h (t.app s)
theorem ims_strs {H : Hp} : ∀ xs : List Str, Ims H (xs.map V.str) (xs.map PyData.str)
  | [] => .nil
  | x :: xs => .cons (.str x) (ims_strs xs)
theorem Dps.get {K : PySem.W.Frag} {H : Hp} : ∀ {vs : List V} {ds : List PyData} {i : Nat} {v : V}, DpAll K H vs ds → vs[i]? = some v → ∃ d, ds[i]? = some d ∧ Dp K H v d
  | _, _, _, _, .nil, e => by simp at e
  | _, _, 0, _, .cons h _, e => by simp at e; subst e; exact ⟨_, rfl, h⟩
  | _, _, i + 1, v, .cons _ t, e => by
    obtain ⟨d, h1, h2⟩ := Dps.get (i := i) (v := v) t (by simpa using e)
    exact ⟨d, by simpa using h1, h2⟩
theorem lv_all {n : Nat} (ih : ∀ d, lv n d = true → d.canLay0 = true ∧ d.depth ≤ n) : ∀ ds : List PyData, ds.all (lv n) = true → PyData.canLayAll0 ds = true ∧ PyData.depthAll ds ≤ n
  | [], _ => ⟨rfl, Nat.zero_le _⟩
  | d :: ds, h => by
    rw [List.all_cons, Bool.and_eq_true] at h
    obtain ⟨a1, a2⟩ := ih d h.1
    obtain ⟨b1, b2⟩ := lv_all ih ds h.2
    refine ⟨by simp only [PyData.canLayAll0, a1, b1, Bool.and_self], ?_⟩
    simp only [PyData.depthAll]
    omega
theorem lv_ok : ∀ (n : Nat) (d : PyData), lv n d = true → d.canLay0 = true ∧ d.depth ≤ n
  | n, .none, _ => by cases n <;> exact ⟨by simp [PyData.canLay0], by simp [PyData.depth]⟩
  | n, .bool _, _ => by cases n <;> exact ⟨by simp [PyData.canLay0], by simp [PyData.depth]⟩
  | n, .int _, _ => by cases n <;> exact ⟨by simp [PyData.canLay0], by simp [PyData.depth]⟩
  | n, .str z, h => by cases n <;> exact ⟨by simp only [PyData.canLay0]; exact h, by simp [PyData.depth]⟩
  | n + 1, .tuple ds, h => by
    have h' : ds.all (lv n) = true := by simpa only [lv] using h
    obtain ⟨a, b⟩ := lv_all (lv_ok n) ds h'
    refine ⟨by simp only [PyData.canLay0]; exact a, ?_⟩
    simp only [PyData.depth]
    omega
  | n + 1, .list ds, h => by
    have h' : ds.all (lv n) = true := by simpa only [lv] using h
    obtain ⟨a, b⟩ := lv_all (lv_ok n) ds h'
    refine ⟨by simp only [PyData.canLay0]; exact a, ?_⟩
    simp only [PyData.depth]
    omega
  | 0, .tuple ds, h => by simp [lv] at h
  | 0, .list ds, h => by simp [lv] at h
  | 0, .dict ds, h => by simp [lv] at h
  | n + 1, .dict ds, h => by simp [lv] at h
theorem shaped_of {n : Nat} {d : PyData} (h : lv n d = true) (hn : n ≤ 64 := by decide) : SeqAt.shaped d = true := by
  obtain ⟨a, b⟩ := lv_ok n d h
  show (d.canLay0 && decide (d.depth ≤ 64)) = true
  rw [a, decide_eq_true (Nat.le_trans b hn)]
  rfl
end FS
set_option maxHeartbeats 2000000
namespace FS
open PySem PySem.Spec PyProof.Rows L2

theorem meets_enumT {v : Value} {o : Obj} {P : Heap → Prop} (B : Begins v o P) :
    Meets (Builtin.«enumerate.__new__» ⟨[.type "enumerate", v], []⟩) (fun _ R s => P s.heap ∧
      R (.ok (.ret (.ref (s.heap.push o).objs.size)))
        { s with heap := (s.heap.push o).push { cls := .type "enumerate", data := .fields #[.none, .bool false, .ref s.heap.objs.size, rawInt 0, .none, .none] } }) :=
  .of_wp fun prog w A R s hyp => by
    obtain ⟨hp, gs, dr, tk, os⟩ := s
    obtain ⟨hP, hyp⟩ := hyp
    have sub := sub_enumerate
    have step : ∀ {A' : Around} {E : Value → Shared → Prop} {Q : Value → Shared → Prop}, Q (.ref hp.objs.size) ⟨hp.push o, gs, dr, tk, os⟩ →
        wpAny (model prog w) A' (pyIter v) Q E ⟨hp, gs, dr, tk, os⟩ := fun z => B.iter prog w _ _ ⟨hp, gs, dr, tk, os⟩ _ hP z
    wp_walk using step
    refine wpAny_stack_any fun _ => wpAny_pure ?_
    split
    · rename_i cc _ _ _ _ _
      cases (cc == Value.type "enumerate") <;> (wp_walk using step; exact ⟨_, rfl, hyp⟩)
    · wp_walk using step; exact ⟨_, rfl, hyp⟩

section
variable {prog : Program} {w : World} {A : Around} {E : Value → Shared → Prop} {s : Shared}
theorem call_enumT {v : Value} {o : Obj} {P : Heap → Prop} {Q : Value → Shared → Prop} (B : Begins v o P) (hP : P s.heap)
    (hQ : ∀ h', IsEnum h' (s.heap.objs.size + 1) s.heap.objs.size 0 .none → h'.get? s.heap.objs.size = some o → (∀ b u, s.heap.get? b = some u → h'.get? b = some u) → Q (.ref (s.heap.objs.size + 1)) { s with heap := h' }) :
    wpAny (model prog w) A (call (.type "enumerate") [v]) Q E s := by
  refine callType_new F.called_enumerate (by decide) (F.typeCall_enumerate_1 _) (F.newCall_enumerate_1 _) (fun ob => F.args_object_init_2 ob _) F.entry_enumerate_new (meets_enumT B) ⟨hP, ?_⟩
  have sz : (s.heap.push o).objs.size = s.heap.objs.size + 1 := Heap.size_push ..
  show _ ∧ _
  rw [sz]
  have en : IsEnum ((s.heap.push o).push { cls := .type "enumerate", data := .fields #[.none, .bool false, .ref s.heap.objs.size, rawInt 0, .none, .none] }) (s.heap.objs.size + 1) s.heap.objs.size 0 .none := by
    have z := Heap.get?_push_size (s.heap.push o) (o := { cls := .type "enumerate", data := .fields #[.none, .bool false, .ref s.heap.objs.size, rawInt 0, .none, .none] }) rfl
    rw [sz] at z
    exact z
  exact ⟨⟨_, en, rfl⟩, hQ _ en (Heap.get?_push_of_some _ (Heap.get?_push_size _ B.free)) fun b u q => Heap.get?_push_of_some _ (Heap.get?_push_of_some _ q)⟩
end

/-- the tuple at a, each item in a new pair with its place -/
def IteT (K : PySem.W.Frag) (a : Addr) : It where
  go := fun i H => ∃ (xs : List V) (x : V), SqT K H a xs ∧ xs[i]? = some x
  yld := fun i H v H' => ∃ T x, v = .ref T ∧ H T = none ∧ H' = upd H T (.tup [.int (i : Nat), x]) ∧ ∀ xs, SqT K H a xs → xs[i]? = some x
  stop := fun i H => ∃ xs : List V, SqT K H a xs ∧ xs.length = i

theorem turn_enumT {P : Program} {w : World} {K : PySem.W.Frag} {elts : List Expr} {kk : Nat} {tp : Pos} (a e it : Addr) (ha : a ≠ it) (hae : e ≠ a) :
    Turn P w K (.Tuple elts kk tp) (IteT K a) [e, it] e (fun i h => (∃ old, IsEnum h e it ((i : Nat) : Int) old) ∧ h.IsTupleIter it a i ∧ e ≠ it) where
  mem := by simp
  obj := fun i h st b hb => by
    obtain ⟨⟨old, he⟩, ⟨o, ho, _, hd⟩, _⟩ := st
    have hb' : b = e ∨ b = it := by simpa using hb
    rcases hb' with z | z <;> subst z
    · exact ⟨_, he, fun v q => nomatch q⟩
    · exact ⟨o, ho, fun v q => by rw [hd] at q; cases q⟩
  keep := fun i h h' st k => by
    obtain ⟨⟨old, he⟩, hi, hne⟩ := st
    exact ⟨⟨old, k e (by simp) _ he⟩, hi.at fun o q => k it (by simp) o q, hne⟩
  item := by
    intro X hP hw hK hc i pins s σ H E I hf st hg
    subst hP hw hK
    obtain ⟨⟨old, he⟩, hit, hne⟩ := st
    obtain ⟨xs, x, hq, hx⟩ := hg
    obtain ⟨its, rv, p, hz⟩ := I.tuple hq
    obtain ⟨u, hu, ru⟩ := rv.get hx
    have hel : e < s.heap.objs.size := Heap.lt_size he
    have hil : it < s.heap.objs.size := by obtain ⟨_, q, _⟩ := hit; exact Heap.lt_size q
    have hlt : i < its.toArray.size := by
      have q := (List.getElem?_eq_some_iff.mp hu).1
      simpa using q
    have D := Draws.tuple (prog := X.prog) (w := X.w) (A := X.A.in1) (by exact I.ok.hd hc) it a ha its.toArray
    refine wpAny_pyNext_enum_itemD (n := its.toArray.size) D he ⟨hit, p⟩ hlt hne (by simpa using ⟨hne, hae⟩) fun x' h' tk hx' ho hst hT hsz hk => ?_
    have ex : x' = u := by
      have q : its.toArray[i]? = some u := by simpa using hu
      rw [hx'] at q
      exact Option.some.inj q
    subst ex
    refine ⟨_, rfl, wpAny_letOwnedTupleGo_enum (s := { s with heap := h', toks := tk + 1 }) ho fun h'' he' sb => ?_⟩
    have hT2 : h''.get? s.heap.objs.size = some { cls := .type "tuple", data := .seq #[.int i tk, x'] } := (sb.2 _ (Nat.ne_of_gt hel)).trans hT
    have new : ObjOk X.prog X.w (upd H s.heap.objs.size (.tup [.int (i : Nat), x])) h'' s.heap.objs.size (.tup [.int (i : Nat), x]) :=
      ⟨by show 2 ≤ sizeLine; decide, [.int i tk, x'], .cons ⟨_, rfl⟩ (.cons ru .nil), ⟨_, hT2, rfl, _, rfl⟩⟩
    have I1 : Inv X pins σ (upd H s.heap.objs.size (.tup [.int (i : Nat), x])) { s with heap := h'', toks := tk + 1 } :=
      I.turnedNew (ch := [e, it]) (fun b ob hb q => (sb.2 b (fun z => hb (by simp [z]))).trans (hk b ob (fun z => hb (by simp [z])) (fun z => hb (by simp [z])) q)) hf (Nat.le_refl _) new
    refine ⟨.ref s.heap.objs.size, _, I1, rfl, ⟨_, x, rfl, I.hok.fresh (Nat.le_refl _), rfl, fun ys hy => by rw [I.tuple_inj hy hq]; exact hx⟩, ⟨⟨x', ?_⟩, hst.1.at fun o q => (sb.2 it (Ne.symm hne)).trans q, hne⟩, fun b hb => ?_⟩
    · have e1 : ((i + 1 : Nat) : Int) = (i : Int) + 1 := by omega
      rw [e1]
      exact he'
    · have hb' : b = e ∨ b = it := by simpa using hb
      have hlt' : b < s.heap.objs.size := by rcases hb' with z | z <;> (rw [z]; assumption)
      rw [upd_ne (Nat.ne_of_lt hlt')]
      exact (hf b hb).1
  done := by
    intro X hP hw hK hc i pins s σ H E I hf st hg
    subst hP hw hK
    obtain ⟨⟨old, he⟩, hit, hne⟩ := st
    obtain ⟨xs, hq, hx⟩ := hg
    obtain ⟨its, rv, p, hz⟩ := I.tuple hq
    obtain ⟨f0, f1, f2, f3, f4, f5⟩ := hf it (by simp)
    have hn : its.toArray.size = i := by
      have q := rv.length
      simp
      omega
    have D := Draws.tuple (prog := X.prog) (w := X.w) (A := X.A.in1) (by exact I.ok.hd hc) it a ha its.toArray
    exact wpAny_pyNext_enum_endD (n := its.toArray.size) D he (by rw [hn]; exact ⟨hit, p⟩) fun h' eb => ⟨rfl, I.turned (t' := s.toks) (fun b o hb q => eb b o hb q) f0 f1 f3 f4 f5⟩
  self := fun A i s Q E st h => by
    obtain ⟨⟨_, he⟩, _⟩ := st
    exact wpAny_pyIter_enum he h
def iEnumT (K : PySem.W.Frag) (ta : TA) : TI := fun σ H R => ta σ H fun vs H1 => ∃ a xs, vs = [.ref a] ∧ SqT K H1 a xs ∧ R (IteT K a) H1
theorem pi_enumT {X : Cx} {e : Expr} {ta : TA} {p pos tpos : Pos} {elts : List Expr} {kk : Nat} (hg : Gl X "enumerate") (hm : X.mg "enumerate" = none) (ha : PA X [e] ta) (hs : starEach [e] X.env = [(false, eval e X.env)] := by rfl) :
    PI X (.Tuple elts kk tpos) (.Call (.Name "enumerate" p) [e] [] pos) (iEnumT X.K ta) := by
  refine ⟨fun pins s σ H R I h => ?_⟩
  refine Call_ (ld_blt I hg hm boot_enumerate (PyProof.Rows.callWith_type1 (thn (ha.run pos pins s σ H _ I h) fun us s1 ⟨vs, H1, I1, r1, a, xs, ev, hq, q⟩ => ?_) hs rfl))
  subst ev
  obtain ⟨u, rfl, ru⟩ := vals1 r1
  cases ru
  obtain ⟨its, rv, pt, hz⟩ := I1.tuple hq
  have hal : a < s1.heap.objs.size := pt.lt
  refine call_enumT (begins_tuple a its.toArray) pt fun h' he hit hk => wpAny_pyIter_enum he ?_
  have I2 : Inv X pins σ H1 { s1 with heap := h' } := I1.kept (t' := s1.toks) hk
  refine ⟨s1.heap.objs.size + 1, [s1.heap.objs.size + 1, s1.heap.objs.size], _, _, H1, rfl, I2, turn_enumT a (s1.heap.objs.size + 1) s1.heap.objs.size (Nat.ne_of_lt hal) (Nat.ne_of_gt (Nat.lt_succ_of_lt hal)), ⟨⟨.none, he⟩, ⟨_, hit, rfl, rfl⟩, Nat.succ_ne_self _⟩, fun b hb => ?_, q⟩
  have hb' : b = s1.heap.objs.size + 1 ∨ b = s1.heap.objs.size := by simpa using hb
  have hle : s1.heap.objs.size ≤ b := by
    rcases hb' with z | z <;> rw [z]
    · exact Nat.le_succ _
    · exact Nat.le_refl _
  exact I1.fpOk hle (I1.hok.fresh hle)
theorem walk_enumT {K : PySem.W.Frag} {a : Addr} {xs : List V} : Walk (IteT K a) xs.length (fun H => SqT K H a xs) (YPair (fun i => some (.int (i : Nat))) (fun i => xs[i]?)) := by
  refine ⟨fun i _ hi q => ⟨xs, xs[i], q, by simp [hi]⟩, fun _ q => ⟨xs, q, rfl⟩, fun i H v H' _ q y => ?_⟩
  obtain ⟨T, x, h1, h2, h3, h4⟩ := y
  exact ⟨T, .int (i : Nat), x, h1, h2, h3, rfl, h4 xs q⟩
end FS
set_option maxHeartbeats 2000000
namespace FS
open PySem PySem.Spec PyProof.Rows L2
section
variable {X : Cx}
def rInT (K : PySem.W.Frag) (f : Bool → Bool) : R2 := fun x y H Q => ∃ d ds, Dp K H x d ∧ Dp K H y (.tuple ds) ∧ SeqAt.shaped d = true ∧ SeqAt.shaped (.tuple ds) = true ∧ Q (.bl (f (ds.any fun z => PyData.eqv z d))) H
theorem op_inT (hu : X.A.units + 65 < cLine) : OpR X (compareOp .In) (rInT X.K id) := by
  intro pins s σ H x y v u Q I rx ry ⟨d, ds, hd, he, sd, se, q⟩
  obtain ⟨as, r1⟩ := Dp.reads I d x v hd rx
  obtain ⟨bs, r2⟩ := Dp.reads I (.tuple ds) y u he ry
  exact SeqAt.in_tuple_reads r2 r1 (SeqAt.canLay_of_shaped se) (SeqAt.canLay_of_shaped sd) (room_in_shaped sd hu) ⟨.bl _, H, I, rfl, q⟩
theorem op_notInT (hu : X.A.units + 65 < cLine) : OpR X (compareOp .NotIn) (rInT X.K not) := by
  intro pins s σ H x y v u Q I rx ry ⟨d, ds, hd, he, sd, se, q⟩
  obtain ⟨as, r1⟩ := Dp.reads I d x v hd rx
  obtain ⟨bs, r2⟩ := Dp.reads I (.tuple ds) y u he ry
  exact SeqAt.notIn_tuple_reads r2 r1 (SeqAt.canLay_of_shaped se) (SeqAt.canLay_of_shaped sd) (room_in_shaped sd hu) ⟨.bl _, H, I, rfl, q⟩
/-- l.count(b), a list of truth values -/
def rCntB (K : PySem.W.Frag) : V → List V → Hp → VK → Prop := fun x xs H Q => ∃ (p : Addr) (bs : List Bool) (k : Bool), x = .ref p ∧ xs = [.bl k] ∧ SqL K H p (bs.map V.bl) ∧ Q (.int (bs.count k : Nat)) H
theorem cnt_bools {k : Bool} : ∀ {bs : List Bool} {us : List Value}, Vals (bs.map V.bl) us → us.countP (eqU (.bl k)) = bs.count k
  | [], _, .nil => rfl
  | b :: bs, _, .cons r t => by
    have ih := cnt_bools (k := k) t
    have e : eqU (.bl k) _ = eqV (.bl b) (.bl k) := eqU_of r rfl
    rw [List.countP_cons, ih, List.count_cons, e]
    cases b <;> cases k <;> rfl
theorem mt_lcountB : MtR X "list.count" (rCntB X.K) := by
  intro pins s σ H x xs v us Q I rx rxs ⟨p, bs, k, e1, e2, hs, q⟩
  subst e1 e2
  cases rx
  obtain ⟨u, eu, ru⟩ := vals1 rxs
  subst eu
  obtain ⟨its, rv, ⟨⟨cls, dd, data, sl⟩, n, ho, hc, hdn, hd⟩, hlen⟩ := I.list hs
  simp only at hc hd
  subst hc hd
  have fl : (bs.map V.bl).all flatV = true := by
    rw [List.all_eq_true]
    intro z hz
    obtain ⟨b, _, e⟩ := List.mem_map.mp hz
    rw [← e]
    rfl
  refine call_meets PySem.F.slot_list_count ⟨_, ho, rfl⟩ PySem.F.entry_list_count (PySem.F.args_list_count_2 _ _)
    (SeqAt.list_countAt p its.toArray n dd sl u (eqU (.bl k))) ⟨ho, fun y hy => mem_eqAt ru rfl rv fl y (by simpa using hy), ?_⟩
  refine ⟨.int (bs.count k : Nat), H, I.tok _, ⟨s.toks, ?_⟩, q⟩
  show Value.int ((its.toArray.toList.countP (eqU (.bl k)) : Nat) : Int) s.toks = Value.int ((bs.count k : Nat) : Int) s.toks
  rw [show its.toArray.toList = its from rfl, cnt_bools rv]
end
end FS
set_option maxHeartbeats 2000000
namespace FS
open PySem PySem.Spec PyProof.Rows L2
section
variable {σ : L2.St} {H : Hp} {Q : VK} {D : Ends} {K : PySem.W.Frag}
theorem r_var {i : Nat} {v : V} (h : σ[i]? = some (some v)) (q : Q v H) : tVar i σ H Q := ⟨v, h, q⟩
theorem r_c {v : V} (q : Q v H) : tC v σ H Q := q
theorem r_op {r : R2} {ta tb : TE} (h : ta σ H fun x H1 => tb σ H1 fun y H2 => r x y H2 Q) : tOp r ta tb σ H Q := h
theorem r_nil {Q : List V → Hp → Prop} (q : Q [] H) : tNil σ H Q := q
theorem r_cons {ta : TE} {tr : TA} {Q : List V → Hp → Prop} (h : ta σ H fun x H1 => tr σ H1 fun xs H2 => Q (x :: xs) H2) : tCons ta tr σ H Q := h
theorem r_I0 {g : Int → Int → V} {i j : Int} (q : Q (g i j) H) : rI0 g (.int i) (.int j) H Q := ⟨i, j, rfl, rfl, q⟩
theorem r_I {C : Int → Int → Prop} {g : Int → Int → V} {i j : Int} (c : C i j) (q : Q (g i j) H) : rI C g (.int i) (.int j) H Q := ⟨i, j, rfl, rfl, c, q⟩
theorem r_eq {x y : V} (c : scal x y = true) (q : Q (.bl (decide (x = y))) H) : rEq x y H Q := ⟨c, q⟩
theorem r_ne {x y : V} (c : scal x y = true) (q : Q (.bl (!decide (x = y))) H) : rNe x y H Q := ⟨c, q⟩
theorem r_test {te : TE} {Q : Bool → Hp → Prop} (h : te σ H fun x H' => ∃ k, x = .bl k ∧ Q k H') : tTest te σ H Q := h
theorem r_tB {te : TE} {Q : Bool → Hp → Prop} (h : te σ H fun x H' => ∃ k, x = .bl k ∧ Q k H') : tB te σ H Q := h
theorem r_bl {b : Bool} {P : Bool → Prop} (q : P b) : ∃ k, V.bl b = .bl k ∧ P k := ⟨b, rfl, q⟩
theorem r_not {t : TT} {Q : Bool → Hp → Prop} (h : t σ H fun c H1 => Q (!c) H1) : tNot t σ H Q := h
theorem r_and {t u : TT} {Q : Bool → Hp → Prop} (h : t σ H fun c H1 => if c = true then u σ H1 Q else Q false H1) : tAnd t u σ H Q := h
theorem r_or {t u : TT} {Q : Bool → Hp → Prop} (h : t σ H fun c H1 => if c = true then Q true H1 else u σ H1 Q) : tOr t u σ H Q := h
theorem r_notV {te : TE} (h : te σ H fun x H1 => ∃ c, x = .bl c ∧ Q (.bl (!c)) H1) : tNotV te σ H Q := h
theorem r_andV {ta tb : TE} (h : ta σ H fun x H1 => ∃ c, x = .bl c ∧ if c = true then tb σ H1 Q else Q (.bl false) H1) : tAndV ta tb σ H Q := h
theorem r_orV {ta tb : TE} (h : ta σ H fun x H1 => ∃ c, x = .bl c ∧ if c = true then Q (.bl true) H1 else tb σ H1 Q) : tOrV ta tb σ H Q := h
theorem r_ifE {t : TT} {ta tb : TE} (h : t σ H fun c H1 => if c = true then ta σ H1 Q else tb σ H1 Q) : tIf t ta tb σ H Q := h
theorem r_seq {t u : TS} (h : t { D with nx := u D } σ H) : tSeq t u D σ H := h
theorem r_asg {te : TE} {g : TG} (h : te σ H fun x H1 => g x σ H1 D.nx) : tAsg te g D σ H := h
theorem r_gN {i : Nat} {v : V} {Q : L2.St → Hp → Prop} (h : Q (σ.set i (some v)) H) : gName i v σ H Q := h
theorem r_ifS {c : TT} {t u : TS} (h : c σ H fun b H1 => if b = true then t D σ H1 else u D σ H1) : tIfS c t u D σ H := h
theorem r_ret {te : TE} (h : te σ H D.rt) : tRet te D σ H := h
theorem r_drop {te : TE} (h : te σ H fun _ H1 => D.nx σ H1) : tDrop te D σ H := h
theorem r_next (h : D.nx σ H) : tNext D σ H := h
theorem r_retN (h : D.rt .non H) : tRetN D σ H := h
theorem r_cb {r : List V → Hp → VK → Prop} {t : TA} (h : t σ H fun vs H1 => r vs H1 Q) : tCB r t σ H Q := h
theorem r_call {sp : Sp} {dvs : List V} {E : XK} {t : TA} (h : t σ H fun vs H1 => sp (vs ++ dvs) H1 Q E) : tCall sp dvs E t σ H Q := h
theorem r_lst {t : TA} (h : t σ H fun xs H1 => xs.length ≤ sizeLine ∧ ∀ p, H1 p = none → Q (.ref p) (upd H1 p (.lst xs))) : tLst t σ H Q := h
theorem r_tup {t : TA} (h : t σ H fun xs H1 => xs.length ≤ sizeLine ∧ ∀ p, H1 p = none → Q (.ref p) (upd H1 p (.tup xs))) : tTup t σ H Q := h
theorem r_if {c : Bool} {A B : Prop} (ht : c = true → A) (hf : c = false → B) : if c = true then A else B := by
  cases c
  · exact hf rfl
  · exact ht rfl
def rFld (K : PySem.W.Frag) (f : Str) (x : V) (H1 : Hp) (Q : VK) : Prop := ∃ a C dx fs v, x = .ref a ∧ H1 a = some (.ins C dx fs) ∧ Cls K C ∧ NoAttr K C f ∧ fs.lookup f = some v ∧ Q v H1
theorem r_fld {ta : TE} {f : Str} (h : ta σ H fun x H1 => rFld K f x H1 Q) : tFld K ta f σ H Q := h
end
section
variable {P : Program} {w : World} {K : PySem.W.Frag} {mg : Str → Option Value} {base : Heap}
theorem pe_fd {X : Cx} {CX : CXT} {x : Str} {k j : Nat} {sp : Sp} {E : XK} {p pos : Pos} {e : Expr} {es : List Expr} {t : TA} (c : Fd CX X.prog X.w X.K X.mg X.base x k sp) (hr : Room j X.A) (hx : Passes CX X E) (ha : PA X (e :: es) t) (hk : k ≤ j := by decide) (hg : Gl X x := by rfl)
    (hdb : (x == ("__debug__" : Str)) = false := by decide) (he : starEach (e :: es) X.env = (false, eval e X.env) :: starEach es X.env := by rfl) (hpl : (backTo pos (starEach es X.env)).any (·.1) = false := by rfl) :
    PE X (.Call (.Name x p) (e :: es) [] pos) (tCall sp [] E t) := by
  obtain ⟨f, fd, ps, h1, h2, F, b⟩ := c.ex
  exact pe_call F (hr.mono hk) hg h1 h2 b .nil hx ha hdb he hpl
end
section
variable {σ : L2.St} {H : Hp} {Q : VK} {D : Ends} {K : PySem.W.Frag}
theorem r_ixL {p : Addr} {xs : List V} {i : Int} {v : V} (h : SqL K H p xs) (e : atI xs i = some v) (q : Q v H) : rIxL K (.ref p) (.int i) H Q := ⟨p, xs, i, v, rfl, rfl, h, e, q⟩
theorem r_ixT {p : Addr} {xs : List V} {i : Int} {v : V} (h : SqT K H p xs) (e : atI xs i = some v) (q : Q v H) : rIxT K (.ref p) (.int i) H Q := ⟨p, xs, i, v, rfl, rfl, h, e, q⟩
theorem r_setL {p : Addr} {xs : List V} {k : Int} {j : Nat} {v : V} {Q : Hp → Prop} (h : H p = some (.lst xs)) (e : ixN xs.length k = some j) (q : Q (upd H p (.lst (xs.set j v)))) : rSetL (.ref p) (.int k) v H Q := ⟨p, xs, k, j, rfl, rfl, h, e, q⟩
theorem r_set2 {p : Addr} {xs ys : List V} {k : Int} {j : Nat} {v : V} {Q : Hp → Prop} (h : H p = some (.lst xs)) (e : ixN xs.length k = some j) (es : xs.set j v = ys) (q : ∀ H1, (∀ G L, GoR G L p H H1) → H1 p = some (.lst ys) → Q H1) : rSetL (.ref p) (.int k) v H Q := by
  subst es
  exact r_setL h e (q _ (fun _ _ => GoR.upd h) upd_same)
theorem r_chain {r r' : R2} {ta tb tc : TE} (h : ta σ H fun x H1 => tb σ H1 fun y H2 => r x y H2 fun z H3 => ∃ k, z = .bl k ∧ (if k = true then tc σ H3 fun u H4 => r' y u H4 Q else Q (.bl false) H3)) : tChain r r' ta tb tc σ H Q := h
theorem r_nf {A B : Prop} (h : A) : if (!false) = true then A else B := h
theorem r_nt {A B : Prop} (h : B) : if (!true) = true then A else B := h
theorem r_sl {r : V → Option Int → Option Int → Hp → VK → Prop} {te : TE} {tl th : TO} (h : te σ H fun x H1 => tl σ H1 fun l H2 => th σ H2 fun u H3 => r x l u H3 Q) : tSl r te tl th σ H Q := h
theorem r_part {te : TE} {Q : Option Int → Hp → Prop} (h : te σ H fun x H1 => ∃ i, x = .int i ∧ Q (some i) H1) : tPart te σ H Q := h
theorem r_nopart {Q : Option Int → Hp → Prop} (h : Q none H) : tNoPart σ H Q := h
theorem r_isInt {i : Int} {P : Int → Prop} (h : P i) : ∃ j, V.int i = .int j ∧ P j := ⟨i, rfl, h⟩
theorem r_tm {r : V → List V → Hp → VK → Prop} {to : TE} {t : TA} (h : to σ H fun x H1 => (∃ a xs, x = .ref a ∧ NT H1 a xs) ∧ t σ H1 fun xs H2 => r x xs H2 Q) : tTM r to t σ H Q := h
theorem r_bm {T : String} {r : V → List V → Hp → VK → Prop} {to : TE} {t : TA} (h : to σ H fun x H1 => tyV K T x H1 ∧ t σ H1 fun xs H2 => r x xs H2 Q) : tBM K T r to t σ H Q := h
theorem r_make {C : Addr} {sp : Sp} {dvs : List V} {t : TA} {E : XK} (h : t σ H fun vs H1 => ∀ x dx, H1 x = none → H1 dx = none → dx ≠ x → sp (.ref x :: (vs ++ dvs)) (upd (upd H1 dx (.own x)) x (.ins C dx [])) (fun v H2 => v = .non ∧ Q (.ref x) H2) E) : tMake C sp dvs E t σ H Q := h
theorem r_gsub {to ti : TE} {t : TSet} {v : V} {Q : L2.St → Hp → Prop} (h : to σ H fun o H1 => ti σ H1 fun i H2 => t o i v H2 fun H3 => Q σ H3) : gSub to ti t v σ H Q := h
def cInt : List V → Hp → VK → Prop := fun xs H Q => (∃ i, xs = [.int i] ∧ Q (.int i) H) ∨ ∃ k, xs = [.bl k] ∧ Q (.int (if k then 1 else 0)) H
theorem c_int {X : Cx} : CallR X (.type "int") cInt := call_int1
theorem r_int1 {i : Int} (q : Q (.int i) H) : cInt [.int i] H Q := .inl ⟨i, rfl, q⟩
theorem r_intB {b : Bool} (q : Q (.int (if b then 1 else 0)) H) : cInt [.bl b] H Q := .inr ⟨b, rfl, q⟩
def cLen (K : PySem.W.Frag) : List V → Hp → VK → Prop := fun xs H Q => ∃ p ys, xs = [.ref p] ∧ (SqL K H p ys ∨ SqT K H p ys) ∧ Q (.int ys.length) H
theorem c_len {X : Cx} : CallR X (.builtin "len") (cLen X.K) := call_len_seq
theorem r_lenL {p : Addr} {ys : List V} (h : SqL K H p ys) (q : Q (.int ys.length) H) : cLen K [.ref p] H Q := ⟨p, ys, rfl, .inl h, q⟩
theorem r_lenT {p : Addr} {ys : List V} (h : SqT K H p ys) (q : Q (.int ys.length) H) : cLen K [.ref p] H Q := ⟨p, ys, rfl, .inr h, q⟩
def cLenS : List V → Hp → VK → Prop := fun xs H Q => ∃ z, xs = [.str z] ∧ z.length ≤ sizeLine ∧ Q (.int z.length) H
def cList (K : PySem.W.Frag) : List V → Hp → VK → Prop := fun xs H Q => ∃ p ys, xs = [.ref p] ∧ (SqL K H p ys ∨ SqT K H p ys) ∧ ∀ l, H l = none → Q (.ref l) (upd H l (.lst ys))
theorem c_list {X : Cx} : CallR X (.type "list") (cList X.K) := call_list_of
def cTup (K : PySem.W.Frag) : List V → Hp → VK → Prop := fun xs H Q => ∃ p ys, xs = [.ref p] ∧ SqL K H p ys ∧ ∀ l o, H l = none → o.cls = .type "tuple" → o.dict = none → Q (.ref l) (upd H l (.frz o (.tup ys)))
theorem c_tup {X : Cx} : CallR X (.type "tuple") (cTup X.K) := call_tupleD
theorem r_tupL {p : Addr} {ys : List V} (h : SqL K H p ys) (q : ∀ l o, H l = none → o.cls = .type "tuple" → o.dict = none → Q (.ref l) (upd H l (.frz o (.tup ys)))) : cTup K [.ref p] H Q := ⟨p, ys, rfl, h, q⟩
end
/-- one step of a reading -/
local macro_rules | `(tactic| walk_at "rd") => `(tactic| first
  | ((with_reducible refine r_var (v := ?v) ?h ?_); (case h => rfl))
  | (with_reducible refine r_c ?_)
  | (with_reducible refine r_op ?_)
  | (with_reducible refine r_cons ?_)
  | (with_reducible refine r_nil ?_)
  | (with_reducible refine r_I0 ?_)
  | (with_reducible refine r_test ?_)
  | (with_reducible refine r_bl ?_)
  | (with_reducible refine r_tB ?_)
  | (with_reducible refine r_chain ?_)
  | (with_reducible refine iteT ?_)
  | (with_reducible refine iteF ?_)
  | (with_reducible refine r_nf ?_)
  | (with_reducible refine r_nt ?_)
  | (with_reducible refine r_not ?_)
  | (with_reducible refine r_and ?_)
  | (with_reducible refine r_or ?_)
  | (with_reducible refine r_notV ?_)
  | (with_reducible refine r_andV ?_)
  | (with_reducible refine r_orV ?_)
  | (with_reducible refine r_ifE ?_)
  | (with_reducible refine r_seq ?_)
  | (with_reducible refine r_asg ?_)
  | (with_reducible refine r_gN ?_)
  | (with_reducible refine r_ifS ?_)
  | (with_reducible refine r_ret ?_)
  | (with_reducible refine r_drop ?_)
  | (with_reducible refine r_retN ?_)
  | (with_reducible refine r_next ?_)
  | (with_reducible refine r_cb ?_)
  | (with_reducible refine r_call ?_)
  | (with_reducible refine r_lst ?_)
  | (with_reducible refine r_tup ?_)
  | (with_reducible refine r_fld ?_)
  | (with_reducible refine r_gsub ?_)
  | (with_reducible refine r_make ?_)
  | (with_reducible refine r_sl ?_)
  | (with_reducible refine r_part ?_)
  | (with_reducible refine r_nopart ?_)
  | (with_reducible refine r_isInt ?_)
  | (with_reducible refine r_tm ?_)
  | (with_reducible refine r_bm ?_)
  | (with_reducible refine r_int1 ?_)
  | (with_reducible refine r_intB ?_)
  | (dsimp only))
end FS
set_option maxHeartbeats 2000000
namespace FS
open PySem PySem.Spec PyProof.Rows L2
section
variable {prog : Program} {w : World} {A : Around} {E : Value → Shared → Prop} {s : Shared}
end
end FS
set_option maxHeartbeats 2000000
namespace FS
open PySem PySem.Spec PyProof.Rows L2 GxR
/-- the element: a test of the sign, the module's names known -/
def EltG (P : Program) (w : World) (mg : Str → Option Value) (sc : Scope) (x : Str) (elt : Expr) (pb : Nat → Bool) : Prop :=
  ∀ (ce : Env) (A : Around) (E : Value → Shared → Prop) (c : Nat) (t : Tok) (s : Shared) (m : Str → Option Value), ce.scope = sc → ce.globals = mainGlobals → s.heap.Ns mainGlobals mg → s.heap.Ns ce.locals m → m x = some (.str ⟨#[c]⟩ t) →
    wpAny (model P w) A (eval elt ce) (fun y s' => y = .bool (pb c) ∧ Keeps s s') E s
/-- x in NAME, NAME a text of the module -/
theorem eltG_in {P : Program} {w : World} {mg : Str → Option Value} {sc : Scope} {x n : Str} {z : Str} {tz : Tok} {p1 p2 p3 : Pos} (hk : sc.kind = .function) (hl : sc.names.lookup x = some .local) (hn : sc.names.lookup n = some .globalImplicit) (hm : mg n = some (.str z tz))
    (hd : (x == ("__debug__" : Str)) = false := by decide) (hd2 : (n == ("__debug__" : Str)) = false := by decide) :
    EltG P w mg sc x (.Compare (.Name x p1) [.In] [.Name n p2] p3) (fun c => decide (c ∈ z.cps.toList)) := by
  intro ce A E c t s m hs hg hM hL hx
  refine wpAny_Compare1 ?_ rfl
  refine wpAny_Name (wpAny_loadName_local (by rw [hs]; exact hk) (show ce.scope.names.lookup x = some .local by rw [hs]; exact hl) hL hx ?_) hd
  refine Calls.Name_function_global (by rw [hs]; exact hk) (show ce.scope.names.lookup n = some .globalImplicit by rw [hs]; exact hn) (Calls.loadGlobal_global (by rw [hg]; exact hM) hm ?_) hd2
  refine PyProof.Rows.in_str ?_
  refine ⟨?_, keeps_refl _⟩
  rw [StrLaws.found_one z c]
section
variable {X : Cx} {pins : List (Addr × Obj)} {σ : L2.St} {H : Hp} {s : Shared}
theorem gen_strG {c P : Addr} {elt iter : Expr} {x : Str} {px gpos : Pos} {sc : Scope} {pb : Nat → Bool} {te : TE} {k : Nat} {Q' : Value → Shared → Prop} {R : Str → Hp → Prop}
    (hr : Room k X.A) (TB : TabB X.base X.mg c P) (hcode : X.env.code = .ref c) (S : GenS X.env sc x) (hi : PE X iter te) (hel : EltG X.prog X.w X.mg sc x elt pb)
    (hs : ∀ v, genFold iter X.env v = pure v) (I : Inv X pins σ H s) (h : te σ H fun v H1 => ∃ a : Str, v = .str a ∧ TabG H1 P ∧ R a H1)
    (hQ : ∀ a H1 g s5, R a H1 → Ready X pins σ H1 P a pb g s5 → Q' (.ref g) s5) :
    wpAny (model X.prog X.w) X.A (eval (.GeneratorExp elt [⟨.Name x px, iter, [], 0⟩] sc gpos) X.env) Q' X.xe s := by
  refine wpAny_GeneratorExp_walksQ hr.hd S.co (closure_ok S.free) S.cell S.dot S.loc S.kind (by have z := hr.dp; omega) ?_ hs
  refine thn (hi.run pins s σ H _ I h) fun xv s1 ⟨v, H1, I1, r1, a, ev, ⟨ps, hP, ht⟩, q1⟩ => ?_
  subst ev
  obtain ⟨t, et⟩ := r1
  subst et
  refine wpAny_pyIter_str fun o St W hst => ?_
  have hPs : s1.heap.get? P = some { cls := .none, data := .fields ps } := I1.hok P _ hP
  have hPlt := Heap.lt_size hPs
  have hP2 : (s1.heap.push o).get? P = some { cls := .none, data := .fields ps } := Heap.get?_push_of_some _ hPs
  have cd : PySem.W.CodeHd (s1.heap.push o) c P := TB.code.keeps fun b u e => Heap.get?_push_of_some _ (I1.bk b u e)
  have lim2 := I1.nolimit.push o
  have glob : s1.heap.Ns mainGlobals X.mg := I1.mod.glob.keeps I1.bk
  have go : ∀ (code : Value) (h3 : Heap) (tk : Nat) (ps' : Array Value), Heap.ExtBut P (s1.heap.push o) h3 → (s1.heap.push o).objs.size ≤ h3.objs.size → h3.get? P = some { cls := .none, data := .fields ps' } → (∃ more, ps' = ps ++ more) → TriplesOk ps'.toList →
      wpAny (model X.prog X.w) X.A (builtinsFor X.env.globals X.env.builtins) (fun bi s₄ =>
        ∃ Ia fp wr n₀ Pf St₀ pz F, Value.ref s1.heap.objs.size = .ref Ia ∧ (∀ A' : Around, A'.handled = none → Walks X.prog X.w A' Ia fp wr n₀ Pf St₀) ∧ St₀ 0 s₄.heap ∧ (∀ b ∈ fp, b < s₄.heap.objs.size) ∧ s₄.heap.NoLimit ∧ cStatics ∉ wr ∧
          (∀ href : Heap, (∀ b o, s₄.heap.get? b = some o → href.get? b = some o) →
            QuietGen X.prog X.w (genEnv sc (cloFrom X.env.cells sc.names []) s₄.heap.objs.size code bi X.env) x [] elt (List.range s₄.heap.objs.size) wr Pf pz F href) ∧
          (∀ a h₅ tk gs, gs.bare = true → s₄.heap.objs.size < a → h₅.objs.size = a + 1 → (∀ b o, s₄.heap.get? b = some o → h₅.get? b = some o) →
            WalksS X.prog X.w X.A.in4 a (a :: s₄.heap.objs.size :: List.range s₄.heap.objs.size) (s₄.heap.objs.size :: wr) (GenOnlyQ s₄.gens.size) (passing pz n₀ 0).length
              (fun j y => ∃ i, (passing pz n₀ 0)[j]? = some i ∧ F i y) (GenAt X.prog X.w X.A.in4 a s₄.gens.size s₄.heap.objs.size (List.range s₄.heap.objs.size) wr pz n₀ F) →
            GenAt X.prog X.w X.A.in4 a s₄.gens.size s₄.heap.objs.size (List.range s₄.heap.objs.size) wr pz n₀ F 0 { s₄ with gens := s₄.gens.push gs, toks := tk, heap := h₅ } →
            Q' (.ref a) { s₄ with gens := s₄.gens.push gs, toks := tk, heap := h₅ })) X.xe { s1 with heap := h3, toks := tk } := by
    intro code h3 tk ps' hx hsz hP3 hmore ht3
    obtain ⟨bm, ob, e1, e2, e3, e4, e5, e6, e7, e8⟩ := TB.bm
    have hcP : cStatics ≠ P := fun e => by
      obtain ⟨_, ⟨o', es, ep, ho, hd, _⟩, _⟩ := I1.nolimit
      rw [e, hPs] at ho
      cases ho
      cases hd
    have hcl : cStatics < s1.heap.objs.size := by
      obtain ⟨_, hns, _⟩ := I1.nolimit
      exact hns.lt
    have sz2 : (s1.heap.push o).objs.size = s1.heap.objs.size + 1 := Heap.size_push ..
    have kp3 : ∀ b u, b ≠ P → s1.heap.get? b = some u → h3.get? b = some u := fun b u hb e => hx b u hb (Heap.get?_push_of_some _ e)
    have gl3 : h3.Ns mainGlobals X.mg := (glob.push o).extBut hx TB.gP
    have glt : mainGlobals < s1.heap.objs.size := glob.lt
    refine wpAny_builtinsFor (m := X.mg) (by rw [I1.ok.glob]; exact gl3) e1 e2 (kp3 _ _ e4 (I1.bk _ _ e5)) e6 e7 e8 ?_
    refine ⟨s1.heap.objs.size, [s1.heap.objs.size], [s1.heap.objs.size], a.cps.size, SignAt a, St, (fun _ => true), (fun i y => ∃ cc, a.cps[i]? = some cc ∧ y = .bool (pb cc)), rfl, W, ?_, ?_, lim2.extBut hx hcP, ?_, ?_, ?_⟩
    · refine (W X.A hr.hd).frame _ _ _ hst fun b hb u e => hx b u (fun z => ?_) e
      have hb' : b = s1.heap.objs.size := by simpa using hb
      exact Nat.ne_of_lt hPlt (z.symm.trans hb')
    · intro b hb
      have hb' : b = s1.heap.objs.size := by simpa using hb
      rw [hb']
      show s1.heap.objs.size < h3.objs.size
      omega
    · intro z
      have z' : cStatics = s1.heap.objs.size := by simpa using z
      exact Nat.ne_of_lt hcl z'
    · intro href hhref
      refine ⟨fun A' E' i v s₂ m₂ hA hPv hn hm hk => ?_, fun A' E' i v s₂ m₂ hA hPv hp hn hm hk => ?_⟩
      · simp only [List.forIn_nil]
        exact wpAny_pure ⟨rfl, keeps_refl _⟩
      · obtain ⟨cc, u, hcc, ev⟩ := hPv
        subst ev
        have gl2 : s₂.heap.Ns mainGlobals X.mg := by
          obtain ⟨oG, es, ep, hoG, r⟩ := gl3
          refine ⟨oG, es, ep, hk mainGlobals (List.mem_range.mpr (Nat.lt_of_lt_of_le glt (by show s1.heap.objs.size ≤ h3.objs.size; rw [sz2] at hsz; omega))) (fun z => ?_) oG (hhref _ _ hoG), r⟩
          have z' : mainGlobals = s1.heap.objs.size := by simpa using z
          exact Nat.ne_of_lt glt z'
        exact wpAny_mono (hel _ A' E' cc u s₂ m₂ rfl I1.ok.glob gl2 hn hm) (fun y s3 r => ⟨⟨cc, hcc, r.1⟩, r.2⟩) fun _ _ e => e
    · intro g h5 tk5 gs hgb hag hsz5 hk5 W5 hat
      simp only [GxR.passing_true, List.length_range] at W5
      refine hQ a H1 g _ q1 ⟨_, _, _, _, _, W5.in4_1, hat, ?_, fun s' hm => ?_⟩
      · intro j y sj Qj Ej hy hQj
        obtain ⟨i, hij, cc, hcc, ey⟩ := hy
        subst ey
        obtain ⟨hj, ej⟩ := List.getElem?_eq_some_iff.mp hij
        rw [List.getElem_range] at ej
        subst ej
        have e9 : a.cps.toList[j]? = some cc := by rw [Array.getElem?_toList]; exact hcc
        have hQ2 : Qj (trF pb a.cps.toList j) sj := hQj
        rw [trF_some e9] at hQ2
        exact wpAny_truthy_bool hQ2
      · obtain ⟨more, em⟩ := hmore
        have nwr : ∀ b u, s1.heap.get? b = some u → b ∉ h3.objs.size :: [s1.heap.objs.size] := fun b u e hb => by
          have hl := Heap.lt_size e
          have hb' : b = h3.objs.size ∨ b = s1.heap.objs.size := by simpa using hb
          rcases hb' with z | z
          · rw [z] at hl
            have h9 : (h3.objs.size : Nat) < s1.heap.objs.size := hl
            omega
          · rw [z] at hl
            exact Nat.lt_irrefl _ hl
        have J := inv_tab (more := more) (h' := s'.heap) (g' := s'.gens) (d' := s'.drawn) (t' := s'.toks) I1 hP (fun b u hb e => hm.heap b u (nwr b u e) (hk5 b u (kp3 b u hb e)))
          (by rw [← em]; exact hm.heap P _ (nwr P _ hPs) (hk5 P _ hP3)) (AllBare.movedS (I1.bare.push hgb) hm)
        rw [sh_eta s1 s' hm.os] at J
        exact ⟨upd H1 P (.tbl (ps ++ more)), ⟨⟨ps ++ more, upd_same, by rw [← em]; exact ht3⟩, fun b hb => upd_ne hb⟩, J⟩
  refine ⟨lim2, ?_⟩
  cases hf : codeAmong gpos ps.toList with
  | none =>
    refine wpAny_genexprCodeX hcode (cd.code hP2 ht) (cd.tab hP2) hf fun c' h' tk hx hge hlt hco' _ htab' _ => ?_
    obtain ⟨o1, vs, f1, tf, fl, tg, inF, tx, tt, op, _, _, _, _, _, _, _, _, _, htr, _⟩ := hco'
    exact go _ h' tk _ hx (Nat.le_trans hge (Nat.le_of_lt hlt)) htab'.2 ⟨_, rfl⟩ htr
  | some cv =>
    refine wpAny_genexprCode_hit hcode (cd.code hP2 ht) hf ?_
    exact go cv (s1.heap.push o) s1.toks ps (Heap.ExtBut.refl _ _) (Nat.le_refl _) hP2 ⟨#[], by simp⟩ ht

/-- all(test for x in e) -/
theorem pe_allG {c P : Addr} {elt iter : Expr} {x : Str} {px p pos gpos : Pos} {sc : Scope} {pb : Nat → Bool} {te : TE} {k : Nat}
    (hr : Room k X.A) (hg : Gl X "all") (hm : X.mg "all" = none) (hb : bootBuiltins "all" = some (.builtin "all")) (TB : TabB X.base X.mg c P) (hcode : X.env.code = .ref c) (S : GenS X.env sc x) (hi : PE X iter te) (hel : EltG X.prog X.w X.mg sc x elt pb)
    (hs : ∀ v, genFold iter X.env v = pure v)
    (he : starEach [.GeneratorExp elt [⟨.Name x px, iter, [], 0⟩] sc gpos] X.env = (false, eval (.GeneratorExp elt [⟨.Name x px, iter, [], 0⟩] sc gpos) X.env) :: starEach [] X.env := by rfl) :
    PE X (.Call (.Name "all" p) [.GeneratorExp elt [⟨.Name x px, iter, [], 0⟩] sc gpos] [] pos) (tAllS P pb te) := by
  refine ⟨fun pins s σ H Q I h => ?_⟩
  refine wpAny_Call_Name_kw (ld_blt I hg hm hb ?_)
  refine PyProof.Rows.callWith_builtin1 ?_ he (by rfl)
  rw [he]
  show wpAny _ _ (spliced ((false, eval (.GeneratorExp elt [⟨.Name x px, iter, [], 0⟩] sc gpos) X.env) :: backTo pos (starEach [] X.env))) _ _ s
  refine Calls.spliced_cons (gen_strG (R := fun a H1 => ∀ H2, Tabbed P H1 H2 → Q (.bl (a.cps.toList.all pb)) H2) hr TB hcode S hi hel hs I h fun a H1 g s5 hR hG => ?_)
  obtain ⟨fp, wr, G, F, St, W, hst, htr, hI⟩ := hG
  refine Calls.spliced_nil (call_all_walkS (W.self 0 _ _ _ hst ⟨g, fp, wr, G, _, F, St, _, rfl, W, hst, htr, fun s' hmv => ?_⟩))
  obtain ⟨H2, hT, J⟩ := hI s' hmv
  refine ⟨.bl _, H2, J, rfl, ?_⟩
  rw [all_signs a pb]
  exact hR H2 hT
end
end FS
set_option maxHeartbeats 2000000
namespace FS
open PySem PySem.Spec PyProof.Rows L2 LamX
/-- all that was tracked is kept, but what stands at P -/
def But (P : Addr) (H H' : Hp) : Prop := ∀ b o, b ≠ P → H b = some o → H' b = some o
section
variable {X : Cx} {pins : List (Addr × Obj)} {σ : L2.St} {H : Hp} {s : Shared}
theorem lam_makeS {c P : Addr} {params : Arguments} {body : Expr} {sc : Scope} {pos : Pos} {E : Value → Shared → Prop} {Q : Value → Shared → Prop} (I : Inv X pins σ H s) (TB : TabB X.base X.mg c P) (hcode : X.env.code = .ref c)
    (hT : TabS H P (X.env.qual ++ "<lambda>")) (hdef : defaultsOf params X.env = ([], [])) (hfree : ∀ y ∈ sc.names, y.2 = .free → ∃ c, X.env.cells.lookup y.1 = some c)
    (h : ∀ (f c' : Addr) (pm ctv : Value) (H1 : Hp) (s' : Shared), Inv X pins σ H1 s' → But P H H1 → TabS H1 P (X.env.qual ++ "<lambda>") →
      s'.heap.get? f = some (PySem.W.kla_obj "<lambda>" (X.env.qual ++ "<lambda>") params body sc (cloFrom X.env.cells sc.names []) pm c' ctv) → H1 f = none → f ∉ frs X.stack → H1 c' = some (CodeO c' (X.env.qual ++ "<lambda>")) → Q (.ref f) s') :
    wpAny (model X.prog X.w) X.A (eval (.Lambda params body sc pos) X.env) Q E s := by
  obtain ⟨ps, hP, ht, ha⟩ := hT
  refine PySem.W.kla_eval hdef ?_
  have bP := TB.bm.keeps I.bk
  have hP' : s.heap.get? P = some { cls := .none, data := .fields ps } := I.hok P _ hP
  have nofr : ∀ f, s.heap.objs.size ≤ f → f ∉ frs X.stack := fun f hf z => by
    rcases List.mem_cons.mp (I.stkSub _ z) with e | e
    · have l := I.lt
      rw [← e] at l
      exact Nat.lt_irrefl _ (Nat.lt_of_lt_of_le l hf)
    · exact I.nofs hf e
  cases hc : codeAmong pos ps.toList with
  | none =>
    refine PySem.W.kla_makeFunction (mg := X.mg) (c := c) (P := P) (ps := ps) (closure_ok hfree) I.ok.glob (I.mod.glob.keeps I.bk) hcode (TB.code.keeps I.bk) hP' ht hc TB.gP bP fun c' ctv h' tk hx hge hlt hrec htb => ?_
    obtain ⟨c2, oc, vs, t, e2, hoc, hd, hv⟩ := hrec
    cases e2
    have hsz := Nat.le_trans hge (Nat.le_of_lt hlt)
    have nC : H c' = none := I.hok.fresh hge
    have I1 := inv_table (t' := tk) (more := #[rawInt pos.line, rawInt pos.col, .ref c']) (h' := h'.push (PySem.W.kla_obj "<lambda>" (X.env.qual ++ "<lambda>") params body sc (cloFrom X.env.cells sc.names []) ((X.mg "__name__").getD .none) c' ctv)) I hP
      (fun b o hb e => Heap.get?_push_of_some _ (hx b o hb e)) (Heap.get?_push_of_some _ htb) hge ⟨oc, vs, t, Heap.get?_push_of_some _ hoc, hd, hv⟩
    have kb : But P H (upd (upd H P (.tbl (ps ++ #[rawInt pos.line, rawInt pos.col, .ref c']))) c' (CodeO c' (X.env.qual ++ "<lambda>"))) := fun b o n e => by
      rw [upd_ne (ne_of_none e nC), upd_ne n]
      exact e
    have eL : (ps ++ #[rawInt pos.line, rawInt pos.col, .ref c']).toList = ps.toList ++ [rawInt pos.line, rawInt pos.col, .ref c'] := by simp
    have nPc : P ≠ c' := ne_of_none hP nC
    refine h h'.objs.size c' ((X.mg "__name__").getD .none) ctv _ _ I1 kb ⟨_, by rw [upd_ne nPc, upd_same], by rw [eL]; exact PySem.TriplesOk_snoc _ _ _ _ ht, fun p' cv hcv => ?_⟩ (Heap.get?_push_size _ rfl) ?_ (nofr _ hsz) upd_same
    · rw [eL] at hcv
      rcases among_app _ ht hcv with z | z
      · obtain ⟨c0, e1, e2⟩ := ha p' cv z
        refine ⟨c0, e1, kb _ _ (fun q => ?_) e2⟩
        rw [q, hP] at e2
        exact codeO_ne _ (Option.some.inj e2).symm
      · exact ⟨c', z, upd_same⟩
    · have n1 : h'.objs.size ≠ c' := Nat.ne_of_gt hlt
      have n2 : h'.objs.size ≠ P := Nat.ne_of_gt (Nat.lt_of_lt_of_le (Heap.lt_size hP') hsz)
      rw [upd_ne n1, upd_ne n2]
      exact I.hok.fresh hsz
  | some cv =>
    obtain ⟨c', e, hco⟩ := ha pos cv hc
    subst e
    refine PySem.W.kla_makeFunctionHit (mg := X.mg) (c := c) (P := P) (ps := ps) (closure_ok hfree) I.ok.glob (I.mod.glob.keeps I.bk) hcode (TB.code.keeps I.bk) hP' ht hc bP fun ctv h' tk hx hsz => ?_
    have I1 : Inv X pins σ H { s with heap := h'.push (PySem.W.kla_obj "<lambda>" (X.env.qual ++ "<lambda>") params body sc (cloFrom X.env.cells sc.names []) ((X.mg "__name__").getD .none) c' ctv), toks := tk } := I.kept fun b o e => Heap.get?_push_of_some _ (hx b o e)
    exact h h'.objs.size c' ((X.mg "__name__").getD .none) ctv H _ I1 (fun _ _ _ e => e) ⟨ps, hP, ht, ha⟩ (Heap.get?_push_size _ rfl) (I.hok.fresh hsz) (nofr _ hsz) hco
end
def tLamS (P : Addr) (q : Str) (TT : (XK → Hp → VK → Prop) → Hp → VK → Prop) (t : XK → TE) : TE := fun σ H Q => TabS H P q ∧ ∀ H1, But P H H1 → TabS H1 P q → TT (fun E H' Q' => t E σ H' Q') H1 Q
section
variable {X : Cx}
theorem pe_lamS {TT : (XK → Hp → VK → Prop) → Hp → VK → Prop} {x a : Str} {g c P : Addr} {k : Nat} {pg : Arguments} {bg : List Stmt} {sg : Scope} {dV kV doc pm cdv ct oc : Value} {an od : Option Addr} {osl : Array (Option Value)} {Ng : List Str}
    {params : Arguments} {body : Expr} {sc : Scope} {t : XK → TE} {p lpos pos : Pos} (hg : Gl X x) (hm : X.mg x = some (.ref g)) (hk : PySem.W.keepIn X.K (.ref g) = true)
    (lk : X.K.lookup g = some ⟨oc, od, .func (PySem.W.fnOf x x pg bg sg dV kV doc pm an cdv ct), osl⟩) (hcg : PySem.W.codeIn X.K cdv x = true) (hb : L2.Binds X.K (PySem.W.fnOf x x pg bg sg dV kV doc pm an cdv ct) [a] []) (Sg : FnScope Ng [a] sg) (hNg : Ng[0]? = some a) (hva : Vis sg a)
    (hG : GivesTo X Ng x sg g cdv bg a (X.env.qual ++ "<lambda>") TT)
    (TB : TabB X.base X.mg c P) (hcode : X.env.code = .ref c) (hr : Room (k + 2) X.A) (L : LamS X.env.scope sc) (hdef : defaultsOf params X.env = ([], []))
    (hbind : ∀ (q : Str) (cl : List (Str × Addr)) (pm cv ctv : Value), bindArgs (PySem.W.kla_fn "<lambda>" q params body sc cl pm cv ctv) ⟨[], []⟩ = pure [])
    (hbody : ∀ (A : Around) (outer : List Env) (s : Shared) (H : Hp) (E : XK) (f c' : Addr), Room k (A.deeper (lamEnv X sc s.heap.objs.size f c')) → PE (lamCx X A outer s H E sc f c') body (t E))
    (hdb : (x == ("__debug__" : Str)) = false := by decide) (hd : (a == ("__debug__" : Str)) = false := by decide) (hcd : (a == ("__classdict__" : Str)) = false := by decide) :
    PE X (.Call (.Name x p) [.Lambda params body sc lpos] [] pos) (tLamS P (X.env.qual ++ "<lambda>") TT t) := by
  refine ⟨fun pins s σ H Q I ⟨hT, h⟩ => ?_⟩
  refine wpAny_Call_Name_kw (ld_glob I hg hm (PySem.W.callWith_K (h₀ := X.base) I.ok.mod.kin hk ?_ (by rfl) (by rfl)) hdb)
  show wpAny _ _ (spliced ((false, eval (.Lambda params body sc lpos) X.env) :: backTo pos (starEach [] X.env))) _ _ s
  refine Calls.spliced_cons (lam_makeS I TB hcode hT hdef (L.has I.ok) fun f c' pm' ctv H1 s' I1 eN T1 hf hfn hfr hco => Calls.spliced_nil ⟨I1.kIn, ?_⟩)
  have rc : codeAny (model X.prog X.w) X.A (.call (.ref g) ⟨[.ref f], []⟩) (CR C8.CX0 X.stack X.prog X.w H1 s' Q C8.E0) s' := by
    refine run_ofS (N := Ng) (ps := [a]) (us := [.ref f]) (vs := [.ref f]) lk hcg Sg hr I1.env0 (hb s' [.ref f] I1.kIn rfl) (.cons rfl .nil) rfl fun hr' => ?_
    obtain ⟨t', ht', hq'⟩ := hG f c' s' H1 Q (fun E H' Q' => t E σ H' Q') (fun W pn xe E p1 p2 tk hW => pe_act (i := 0) I1 L hf hfn hfr (hbind _ _ _ _ _) tk hW hr' (fun A outer s H hr2 => hbody A outer s H E f c' hr2) hNg hva hd hcd) hco (h H1 eN T1)
    exact ⟨t', ht'.nox, hq'⟩
  refine wpAny_call (codeAny_mono rc fun r s2 hq => ?_)
  cases r with
  | error e => exact (show False from hq).elim
  | ok fl => cases fl with
    | ret u => exact I1.after hq
    | next => exact False.elim hq
    | brk => exact False.elim hq
    | cont => exact False.elim hq
end
end FS
set_option maxHeartbeats 2000000
namespace FS
open PySem PySem.Spec PyProof.Rows L2 LamX
section
variable {X : Cx} {pins : List (Addr × Obj)} {σ : L2.St} {H : Hp} {s : Shared}
theorem lam_tail {c P : Addr} {ps : Arguments} {b : Expr} {sc : Scope} {dV : Value} {pos : Pos} {fl : Nat} {E Q : Value → Shared → Prop} (I : Inv X pins σ H s) (TB : TabB X.base X.mg c P) (hcode : X.env.code = .ref c) (hT : TabS H P (X.env.qual ++ "<lambda>"))
    (hfree : ∀ y ∈ sc.names, y.2 = .free → ∃ c, X.env.cells.lookup y.1 = some c)
    (h : ∀ (f c' : Addr) (doc pm ct : Value) (H1 : Hp) (s1 : Shared), Inv X pins σ H1 s1 → But P H H1 → TabS H1 P (X.env.qual ++ "<lambda>") → H1 c' = some (CodeO c' (X.env.qual ++ "<lambda>")) → H1 f = some (LamO (lamObj X ps b sc dV doc pm ct c') f) → H f = none → Q (.ref f) s1) :
    wpAny (model X.prog X.w) X.A (makeTail "<lambda>" (X.env.qual ++ "<lambda>") ps (.expr b) sc X.env dV .none none pos fl) Q E s := by
  obtain ⟨tb, hP, ht, ha⟩ := hT
  have bP := TB.bm.keeps I.bk
  have hPs := I.hok P _ hP
  cases hc : codeAmong pos tb.toList with
  | none =>
    refine PySem.W.kdv_makeTail (mg := X.mg) (ps := tb) (closure_ok hfree) I.ok.glob (I.mod.glob.keeps I.bk) hcode (TB.code.keeps I.bk) hPs ht hc TB.gP bP fun c' ct doc h' tk hx hge hlt hrec htb => ?_
    obtain ⟨c2, oc, vs, t, e2, hoc, hd, hv⟩ := hrec
    cases e2
    have nC := I.hok.fresh hge
    have nPc := ne_of_none hP nC
    have J := inv_table (t' := tk) (more := #[rawInt pos.line, rawInt pos.col, .ref c']) I hP (fun d o n e => hx d o n e) htb hge ⟨oc, vs, t, hoc, hd, hv⟩
    generalize hH1 : upd (upd H P (.tbl (tb ++ #[rawInt pos.line, rawInt pos.col, .ref c']))) c' (CodeO c' (X.env.qual ++ "<lambda>")) = H1 at J
    have kb : But P H H1 := fun d o n e => by
      rw [← hH1, upd_ne (ne_of_none e nC), upd_ne n]
      exact e
    have hsz : s.heap.objs.size ≤ h'.objs.size := Nat.le_trans hge (Nat.le_of_lt hlt)
    have K := Inv.laid (o := LamO (lamObj X ps b sc dV doc ((X.mg "__name__").getD .none) ct c') h'.objs.size) (t' := tk) J (h' := h'.push (lamObj X ps b sc dV doc ((X.mg "__name__").getD .none) ct c')) (fun d u e => Heap.get?_push_of_some _ e) (Nat.le_refl _)
      ⟨Heap.get?_push_size _ rfl, ⟨_, Heap.get?_push_size _ rfl⟩, fun h1 h2 e st => st _ e⟩
    have hfn : H1 h'.objs.size = none := J.hok.fresh (Nat.le_refl _)
    have ec' : H1 c' = some (CodeO c' (X.env.qual ++ "<lambda>")) := by rw [← hH1, upd_same]
    have eP : H1 P = some (.tbl (tb ++ #[rawInt pos.line, rawInt pos.col, .ref c'])) := by rw [← hH1, upd_ne nPc, upd_same]
    have up : ∀ d o, H1 d = some o → upd H1 h'.objs.size (LamO (lamObj X ps b sc dV doc ((X.mg "__name__").getD .none) ct c') h'.objs.size) d = some o := fun d o e => by
      rw [upd_ne (ne_of_none e hfn)]
      exact e
    have eL : (tb ++ #[rawInt pos.line, rawInt pos.col, .ref c']).toList = tb.toList ++ [rawInt pos.line, rawInt pos.col, .ref c'] := by simp
    refine h h'.objs.size c' doc _ ct _ _ K (fun d o n e => up d o (kb d o n e)) ⟨_, up _ _ eP, ?_, fun p' cv z => ?_⟩ (up _ _ ec') upd_same (I.hok.fresh hsz)
    · rw [eL]
      exact PySem.TriplesOk_snoc _ _ _ _ ht
    · rw [eL] at z
      rcases among_app _ ht z with z | z
      · obtain ⟨d, e1, e2⟩ := ha p' cv z
        refine ⟨d, e1, up _ _ (kb _ _ (fun q => ?_) e2)⟩
        rw [q, hP] at e2
        exact codeO_ne _ (Option.some.inj e2).symm
      · exact ⟨c', z, up _ _ ec'⟩
  | some cv =>
    obtain ⟨c', e, hco⟩ := ha pos cv hc
    subst e
    refine PySem.W.kdv_makeTailHit (mg := X.mg) (ps := tb) (closure_ok hfree) I.ok.glob (I.mod.glob.keeps I.bk) hcode (TB.code.keeps I.bk) hPs ht hc bP fun ct doc h' tk hx hsz => ?_
    have K := Inv.laid (a := h'.objs.size) (o := LamO (lamObj X ps b sc dV doc ((X.mg "__name__").getD .none) ct c') h'.objs.size) (t' := tk) I (h' := h'.push (lamObj X ps b sc dV doc ((X.mg "__name__").getD .none) ct c')) (fun d u e => Heap.get?_push_of_some _ (hx d u e)) hsz
      ⟨Heap.get?_push_size _ rfl, ⟨_, Heap.get?_push_size _ rfl⟩, fun h1 h2 e st => st _ e⟩
    have hfn : H h'.objs.size = none := I.hok.fresh hsz
    have up : ∀ d o, H d = some o → upd H h'.objs.size (LamO (lamObj X ps b sc dV doc ((X.mg "__name__").getD .none) ct c') h'.objs.size) d = some o := fun d o e => by
      rw [upd_ne (ne_of_none e hfn)]
      exact e
    refine h h'.objs.size c' doc _ ct _ _ K (fun d o _ e => up d o e) ⟨tb, up _ _ hP, ht, fun p' cv z => ?_⟩ (up _ _ hco) upd_same hfn
    obtain ⟨d, e1, e2⟩ := ha p' cv z
    exact ⟨d, e1, up _ _ e2⟩
def tLamV (X : Cx) (ps : Arguments) (b : Expr) (sc : Scope) (df : Option Int) (P : Addr) : TE := fun σ H Q => TabS H P (X.env.qual ++ "<lambda>") ∧
  ∀ f c' H1, But P H H1 → TabS H1 P (X.env.qual ++ "<lambda>") → LamAt X ps b sc df H1 f c' → H f = none → Q (.ref f) H1
theorem pe_lamV0 {c P : Addr} {ps : Arguments} {b : Expr} {sc : Scope} {pos : Pos} (TB : TabB X.base X.mg c P) (hcode : X.env.code = .ref c) (hfree : ∀ y ∈ sc.names, y.2 = .free → ∃ c, X.env.cells.lookup y.1 = some c) (hdef : defaultsOf ps X.env = ([], [])) :
    PE X (.Lambda ps b sc pos) (tLamV X ps b sc none P) := by
  refine ⟨fun pins s σ H Q I ⟨hT, h⟩ => PySem.W.kla_eval hdef ?_⟩
  rw [makeFunction_eq]
  simp only [List.zip_nil_right, List.filterMap_nil, List.isEmpty_nil, if_true, pure_bind]
  exact lam_tail I TB hcode hT hfree fun f c' doc pm ct H1 s1 I1 kb T1 hc hf hn => ⟨.ref f, H1, I1, rfl, h f c' H1 kb T1 ⟨hc, doc, pm, ct, hf⟩ hn⟩
theorem pe_lamV1 {c P : Addr} {ps : Arguments} {b e : Expr} {sc : Scope} {pos : Pos} {i : Int} (TB : TabB X.base X.mg c P) (hcode : X.env.code = .ref c) (hfree : ∀ y ∈ sc.names, y.2 = .free → ∃ c, X.env.cells.lookup y.1 = some c)
    (hd : ps.defaults = [e]) (hk : ps.kw_defaults = []) (he : PE X e (tC (.int i))) : PE X (.Lambda ps b sc pos) (tLamV X ps b sc (some i) P) := by
  refine ⟨fun pins s σ H Q I ⟨hT, h⟩ => PySem.W.kdv_lam (by rw [hd]; rfl) hk ?_⟩
  rw [hd]
  refine PySem.W.kdv_all1 (thn (he.run pins s σ H (fun v H1 => v = .int i ∧ H1 = H) I ⟨rfl, rfl⟩) fun u s1 ⟨v, H1, I1, r1, ev, eH⟩ => PySem.W.kdv_all0 ?_)
  subst ev eH
  rw [makeFunction_eq]
  simp only [List.zip_nil_right, List.filterMap_nil, List.isEmpty_nil, if_true, pure_bind, List.isEmpty_cons, Bool.false_eq_true, if_false]
  refine wpAny_bind (wpAny_newTextTuple ?_)
  have J := Inv.laid (a := s1.heap.objs.size) (o := .tup [.int i]) (t' := s1.toks) I1 (h' := s1.heap.push { cls := .type "tuple", data := .seq [u].toArray }) (fun d w e => Heap.get?_push_of_some _ e) (Nat.le_refl _) ⟨by show 1 ≤ sizeLine; decide, [u], .cons r1 .nil, IsTup.new s1.heap _⟩
  have hn := I1.hok.fresh (Nat.le_refl _)
  have kT : ∀ d o, H1 d = some o → upd H1 s1.heap.objs.size (.tup [.int i]) d = some o := fun d o e => by
    rw [upd_ne (ne_of_none e hn)]
    exact e
  refine lam_tail J TB hcode (hT.ext kT) hfree fun f c' doc pm ct H2 s2 I2 kb T2 hc hf hn2 => ⟨.ref f, H2, I2, rfl, h f c' H2 (fun d o n e => kb d o n (kT d o e)) T2 ⟨hc, doc, pm, ct, s1.heap.objs.size, kb _ _ (fun z => ?_) upd_same, hf⟩ ?_⟩
  · obtain ⟨tb, hP, _⟩ := hT
    rw [← z, hn] at hP
    cases hP
  · cases hz : H1 f with
    | none => rfl
    | some o =>
      rw [kT _ _ hz] at hn2
      cases hn2
def lamS1B (N : List Str) (sc0 sc : Scope) : Bool :=
  decide (sc.kind = .function) && (!sc.isCoroutine && (!sc.isGenerator && sc.names.all fun y => !decide (y.2 = .cell) && ((!decide (y.2 = .local) || !decide (y.1 ∈ N)) && (!decide (y.2 = .free) || (decide (sc0.names.lookup y.1 = some .cell) || decide (sc0.names.lookup y.1 = some .free))))))
theorem lamS1_by {N : List Str} {sc0 sc : Scope} (h : lamS1B N sc0 sc = true) : LamS1 N sc0 sc := by
  unfold lamS1B at h
  simp only [Bool.and_eq_true, Bool.or_eq_true, Bool.not_eq_true', decide_eq_true_eq, decide_eq_false_iff_not, List.all_eq_true] at h
  obtain ⟨a1, a2, a3, a4⟩ := h
  refine ⟨a1, a2, a3, fun y hy => ⟨(a4 y hy).1, fun e => ?_⟩, fun y hy e => ?_⟩
  · rcases (a4 y hy).2.1 with z | z
    · exact absurd e z
    · exact z
  · rcases (a4 y hy).2.2 with z | z
    · exact absurd e z
    · exact z
variable {HZ : Hp} {s1 : Shared}
theorem lam_startD {A : Around} {outer : List Env} {E : XK} {sc : Scope} {f c' : Addr} {h1 : Heap} {tk : Nat} {mm : Str → Option Value} (I : Inv X pins σ H s) (L : LamS1 X.N X.env.scope sc) (e0 : Env0 X.prog X.w X.K X.mg X.base A outer s1 HZ) (hd : A.handled = none)
    (un : Un (frs X.stack) [] H HZ s.heap s1.heap) (hns : h1.Ns s1.heap.objs.size mm) (kp : ∀ d o, s1.heap.get? d = some o → h1.get? d = some o) : Inv (lamCx X A outer s1 HZ E sc f c') [] σ HZ { s1 with heap := h1, toks := tk } := by
  have hfree := L.has I.ok
  have cm : ∀ {y d}, (cloFrom X.env.cells sc.names []).lookup y = some d → X.env.cells.lookup y = some d := fun {y d} e => by
    rcases cloFrom_mem (PySem.mem_of_lookup e) with hm | ⟨g1, g2⟩
    · cases hm
    · obtain ⟨d1, hd1⟩ := hfree _ g1 rfl
      have hd2 : X.env.cells.lookup y = some d1 := hd1
      rw [show d = d1 by rw [g2, hd2] <;> rfl]
      exact hd2
  have look : ∀ {y}, sc.names.lookup y = some .free → ∃ d, (cloFrom X.env.cells sc.names []).lookup y = some d := fun {y} hl => mem_lookup (cloFrom_has (cells := X.env.cells) (acc := []) (show (y, NameKind.free) ∈ sc.names from PySem.mem_of_lookup hl))
  have cellK : ∀ {d : Addr} {v : Option Value}, H d = none → s.heap.IsCell d v → h1.IsCell d v := fun {d v} n z => by
    obtain ⟨o, ho, hv⟩ := z
    obtain ⟨sl, q⟩ := un.any ho n (by simp)
    exact ⟨_, kp _ _ q, hv⟩
  have noA : ∀ d : Addr, d ∉ (lamCx X A outer s1 HZ E sc f c').ex := fun d z => by cases (show d ∈ ([] : List Addr) from z)
  have ok : (lamCx X A outer s1 HZ E sc f c').Ok := {
    mod := e0.mod, kind := L.kind, glob := rfl, blt := rfl, above := Nat.le_refl _
    inj := fun y z d e1 e2 => I.ok.inj y z d (cm e1) (cm e2)
    has := fun y hy => by
      rcases (show sc.names.lookup y = some .cell ∨ sc.names.lookup y = some .free from hy) with hy | hy
      · exact absurd rfl (L.own _ (PySem.mem_of_lookup hy)).1
      · exact look hy
    cab := fun y d z _ => by cases (show false = true from z)
    hd := fun _ => hd, frames := Around.frames_deeper e0.frames, stk := .inr ⟨rfl, rfl⟩
    exf := fun d z => absurd z (noA d), bs := e0.bs, bsz := e0.bsz, noex := fun d _ _ => noA d, exfs := fun d z => absurd z (noA d), funs := e0.funs, frf := e0.frf }
  refine { ok := ok, os := rfl, bare := e0.bare, base := Un.kept kp, loc := ⟨_, hns, fun i y v e1 e2 e3 => ?_⟩, cell := fun y d e => ?_, free := e0.hok.fresh (Nat.le_refl _), freeC := fun y d e => ?_, pin := fun q hq => absurd (show q ∈ ([] : List (Addr × Obj)) ++ [] from hq) (by simp), hok := e0.hok.kept kp, len := I.len }
  · rcases (show Vis sc y from e3) with k | k | k
    · exact absurd (List.mem_of_getElem? (show X.N[i]? = some y from e1)) ((L.own _ (PySem.mem_of_lookup k)).2 rfl)
    · exact absurd rfl (L.own _ (PySem.mem_of_lookup k)).1
    · obtain ⟨m0, hn0, hl0⟩ := I.loc
      have fr := L.free _ (PySem.mem_of_lookup k) rfl
      have hvis : Vis X.env.scope y := fr.elim (fun z => .inr (.inl z)) fun z => .inr (.inr z)
      obtain ⟨u, r, q⟩ := hl0 i y v e1 e2 hvis
      obtain ⟨d2, g2⟩ := look k
      refine ⟨u, r, .inr ⟨.inr k, d2, g2, ?_⟩⟩
      have d1 := cm g2
      rcases q with ⟨k', _⟩ | ⟨_, d3, e', z⟩
      · have k2 : X.env.scope.names.lookup y = some .local := k'
        rcases fr with z | z
        · cases (show some NameKind.local = some .cell from k2.symm.trans z)
        · cases (show some NameKind.local = some .free from k2.symm.trans z)
      · rw [d1] at e'
        cases e'
        exact cellK (I.freeC y _ d1) z
  · obtain ⟨u, z⟩ := I.cell y d (cm e)
    exact ⟨u, cellK (I.freeC y d (cm e)) z⟩
  · obtain ⟨v, o, ho, hv⟩ := I.cell y d (cm e)
    exact un.free d o ho (I.freeC y d (cm e)) (by simp)
/-- what the lambda's parameters become when nothing is given -/
def LamBind (ps : Arguments) (b : Expr) (sc : Scope) : Option Int → Prop
  | none => ∀ (q : Str) (cl : List (Str × Addr)) (doc pm cv ct : Value), bindArgs (PySem.W.kdv_fn "<lambda>" q ps (.expr b) sc cl .none doc pm cv ct) ⟨[], []⟩ = pure []
  | some _ => ∃ x0, sc.names.lookup x0 = some .local ∧ ∀ (q : Str) (cl : List (Str × Addr)) (T : Addr) (doc pm cv ct u : Value), ∃ r, bindArgs (PySem.W.kdv_fn "<lambda>" q ps (.expr b) sc cl (.ref T) doc pm cv ct) ⟨[], []⟩ = (seqItems? (.ref T) >>= r) ∧ r (some #[u]) = pure [(x0, u)]
theorem pe_actV {CXg : CXT} {Eg : XK} {Ng : List Str} {qg : Str} {sg : Scope} {g f c' : Addr} {cdg : Value} {ps : Arguments} {b : Expr} {sc : Scope} {df : Option Int} {k i : Nat} {a : Str} {pn : List (Addr × Obj)} {xe : Value → Shared → Prop} {W : WX} {E : XK} {tb : TE} {p1 p2 : Pos}
    (I : Inv X pins σ H s) (L : LamS1 X.N X.env.scope sc) (hbind : LamBind ps b sc df) (tk : Takes ((cxOf CXg X.prog X.w X.K X.mg X.base Ng qg sg g cdg X.A X.stack s H Eg).tr pn xe) W) (hW : ∀ cls d σ' H', E cls d H' → W cls d σ' H') (hr : Room (k + 1) (X.A.deeper (envOfC qg sg s.heap.objs.size g cdg)))
    (hbody : ∀ (A : Around) (outer : List Env) (s : Shared) (H : Hp), Room k (A.deeper (lamEnv X sc s.heap.objs.size f c')) → PE (lamCx X A outer s H E sc f c') b tb) (hN : Ng[i]? = some a) (hv : Vis sg a) (hd : (a == ("__debug__" : Str)) = false := by decide) (hcd : (a == ("__classdict__" : Str)) = false := by decide) :
    PE ((cxOf CXg X.prog X.w X.K X.mg X.base Ng qg sg g cdg X.A X.stack s H Eg).tr pn xe) (.Call (.Name a p1) [] [] p2) (fun σ0 H0 R => σ0[i]? = some (some (.ref f)) ∧ LamAt X ps b sc df H0 f c' ∧ tb σ H0 R) := by
  refine ⟨fun pz sZ σ0 H0 R IZ ⟨hs, hat, ht⟩ => ?_⟩
  refine wpAny_Call_Name_kw (thn ((pe_var (pos := p1) (i := i) hN hv hd hcd).run pz sZ σ0 H0 (fun v H1 => v = .ref f ∧ H1 = H0) IZ ⟨.ref f, hs, rfl, rfl⟩) fun u s1 ⟨v, H1, I1, r1, ev, eH⟩ => ?_)
  subst ev
  subst eH
  obtain rfl : u = Value.ref f := r1
  obtain ⟨hc, doc, pm, ct, hdf⟩ := hat
  obtain ⟨⟨oc, vs, t, hoc, hdc, hvc⟩, _, _⟩ := I1.hok c' _ hc
  have un : Un (frs X.stack) [] H H1 s.heap s1.heap := I1.base
  have go : ∀ (dV : Value), s1.heap.get? f = some (lamObj X ps b sc dV doc pm ct c') → (∀ (M : Model) (A : Around) (E' : Value → Shared → Prop) (Q' : List (Str × Value) → Shared → Prop), (∀ bs, (∀ y ∈ bs, sc.names.lookup y.1 = some .local) → Q' bs s1) → wpAny M A (bindArgs (PySem.W.kdv_fn "<lambda>" (X.env.qual ++ "<lambda>") ps (.expr b) sc (cloFrom X.env.cells sc.names []) dV doc pm (.ref c') ct) ⟨[], []⟩) Q' E' s1) →
      codeAny (model X.prog X.w) (X.A.deeper (envOfC qg sg s.heap.objs.size g cdg)) (.call (.ref f) ⟨[], []⟩) (CR (L2.CX X.prog X.w) (envOfC qg sg s.heap.objs.size g cdg :: X.stack) X.prog X.w H1 s1 R E) s1 := fun dV hf hb => by
    refine PySem.W.kla_callFunE hr.depth hf rfl L.co L.gen rfl ⟨c', oc, vs, t, rfl, hoc, hdc, hvc⟩ (hb _ _ _ _ fun bs hbs => ?_)
    refine wpAny_newFunctionEnv (fun y hy => (L.own y hy).1) hbs (fun h1 hns hsb => ⟨I1.nolimit.fresh _ hsb, ?_⟩) L.kind
    have kp : ∀ d o, s1.heap.get? d = some o → h1.get? d = some o := fun d o e => hsb.extBut d o (Nat.ne_of_lt (Heap.lt_size e)) (Heap.get?_push_of_some _ e)
    have J := lam_startD (tk := s1.toks + bs.length) (E := E) (f := f) (c' := c') I L I1.env0 hr.hd un hns kp
    refine PySem.W.kla_codeExpr (wpAny_mono ((hbody _ _ s1 H1 (hr.deeper _)).run [] _ _ H1 R J ht) (fun v s' ⟨v', H', J', rv, q⟩ => ?_) fun e s' hq => hq)
    exact ⟨v', H', J'.os, J'.bare, J'.base, J'.hok, rv, q⟩
  have rc : PySem.W.FnAt f s1.heap ∧ codeAny (model X.prog X.w) (X.A.deeper (envOfC qg sg s.heap.objs.size g cdg)) (.call (.ref f) ⟨[], []⟩) (CR (L2.CX X.prog X.w) (envOfC qg sg s.heap.objs.size g cdg :: X.stack) X.prog X.w H1 s1 R E) s1 := by
    cases df with
    | none =>
      obtain ⟨hf, _, _⟩ := I1.hok f _ hdf
      refine ⟨⟨_, _, _, _, hf⟩, go _ hf fun M A E' Q' q => ?_⟩
      rw [hbind]
      exact wpAny_pure (q [] fun y hy => by cases hy)
    | some n =>
      obtain ⟨T, hT, hdf⟩ := hdf
      obtain ⟨hf, _, _⟩ := I1.hok f _ hdf
      obtain ⟨_, its, hv', hIT⟩ := I1.hok T _ hT
      refine ⟨⟨_, _, _, _, hf⟩, go _ hf fun M A E' Q' q => ?_⟩
      obtain ⟨x0, hx0, hb⟩ := hbind
      cases hv' with
      | @cons _ w0 _ _ r0 rs =>
      cases rs
      obtain ⟨r, b1, b2⟩ := hb (X.env.qual ++ "<lambda>") (cloFrom X.env.cells sc.names []) T doc pm (.ref c') ct w0
      obtain ⟨o, ho, _, nn, hdat⟩ := hIT
      refine (BindsTo.of_defaults (T := T) (items := #[w0]) (n := nn) rfl ho hdat b1 b2) M A E' Q' (q _ fun y hy => ?_)
      rw [List.mem_singleton.mp hy]
      exact hx0
  refine PySem.W.callWith_F0 rc.1 (wpAny_call (codeAny_mono rc.2 fun r s' hq => ?_))
  have hx : Passes (L2.CX X.prog X.w) ((cxOf CXg X.prog X.w X.K X.mg X.base Ng qg sg g cdg X.A X.stack s H Eg).tr pn xe) E := passes_call tk hW
  cases r with
  | error e => exact hx pz σ0 H1 s1 e s' I1 hq
  | ok fl => cases fl with
    | ret u => exact I1.after hq
    | next => exact False.elim hq
    | brk => exact False.elim hq
    | cont => exact False.elim hq
end
/-- one lambda of X, read -/
structure LamK (X : Cx) (k : Nat) where
  ps : Arguments
  b : Expr
  sc : Scope
  df : Option Int
  t : XK → TE
  L : LamS1 X.N X.env.scope sc
  bind : LamBind ps b sc df
  body : ∀ (A : Around) (outer : List Env) (s : Shared) (H : Hp) (E : XK) (f c' : Addr), Room k (A.deeper (lamEnv X sc s.heap.objs.size f c')) → PE (lamCx X A outer s H E sc f c') b (t E)
def tGive (X : Cx) (k : Nat) (te : TE) (TT : (XK → Hp → VK → Prop) → Hp → VK → Prop) : TE := fun σ H Q => te σ H fun v H1 => ∃ (l : LamK X k) (f c' : Addr), v = .ref f ∧ LamAt X l.ps l.b l.sc l.df H1 f c' ∧ TT (fun E H' Q' => l.t E σ H' Q') H1 Q
/-- a def that calls what it gets: the context's parts that GivesP speaks of -/
def GivesQ (X : Cx) (Ng : List Str) (x : Str) (sg : Scope) (g : Addr) (cdg : Value) (bg : List Stmt) (a : Str) (TT : (XK → Hp → VK → Prop) → Hp → VK → Prop) : Prop :=
  ∀ (f : Addr) (pre : Hp → Prop) (s : Shared) (H : Hp) (Q : VK) (tl : XK → Hp → VK → Prop),
    (∀ (W : WX) (pn : List (Addr × Obj)) (xe : Value → Shared → Prop) (E : XK) (p1 p2 : Pos), Takes ((cxOf C8.CX0 X.prog X.w X.K X.mg X.base Ng x sg g cdg X.A X.stack s H C8.E0).tr pn xe) W → (∀ cls d σ' H', E cls d H' → W cls d σ' H') →
      PE ((cxOf C8.CX0 X.prog X.w X.K X.mg X.base Ng x sg g cdg X.A X.stack s H C8.E0).tr pn xe) (.Call (.Name a p1) [] [] p2) (fun σ0 H0 R => σ0[0]? = some (some (.ref f)) ∧ pre H0 ∧ tl E H0 R)) →
    pre H → TT tl H Q → ∃ t, PSs (cxOf C8.CX0 X.prog X.w X.K X.mg X.base Ng x sg g cdg X.A X.stack s H C8.E0).nox bg t ∧ t { nx := fun _ H' => Q .non H', rt := Q } (L2.start Ng [.ref f]) H
theorem pe_give {X : Cx} {TT : (XK → Hp → VK → Prop) → Hp → VK → Prop} {x a : Str} {g : Addr} {k : Nat} {pg : Arguments} {bg : List Stmt} {sg : Scope} {dV kV doc pm cdv ct oc : Value} {an od : Option Addr} {osl : Array (Option Value)} {Ng : List Str} {e : Expr} {te : TE} {p pos : Pos}
    (hg : Gl X x) (hm : X.mg x = some (.ref g)) (hk : PySem.W.keepIn X.K (.ref g) = true) (lk : X.K.lookup g = some ⟨oc, od, .func (PySem.W.fnOf x x pg bg sg dV kV doc pm an cdv ct), osl⟩) (hcg : PySem.W.codeIn X.K cdv x = true) (hb : L2.Binds X.K (PySem.W.fnOf x x pg bg sg dV kV doc pm an cdv ct) [a] []) (Sg : FnScope Ng [a] sg) (hNg : Ng[0]? = some a) (hva : Vis sg a)
    (hG : GivesQ X Ng x sg g cdv bg a TT) (hr : Room (k + 2) X.A) (he : PE X e te) (hst : starEach [e] X.env = (false, eval e X.env) :: starEach [] X.env := by rfl) (hpl : (backTo pos (starEach [] X.env)).any (·.1) = false := by rfl)
    (hdb : (x == ("__debug__" : Str)) = false := by decide) (hd : (a == ("__debug__" : Str)) = false := by decide) (hcd : (a == ("__classdict__" : Str)) = false := by decide) : PE X (.Call (.Name x p) [e] [] pos) (tGive X k te TT) := by
  refine ⟨fun pins s σ H Q I h => ?_⟩
  refine wpAny_Call_Name_kw (ld_glob I hg hm (PySem.W.callWith_K (h₀ := X.base) I.ok.mod.kin hk ?_ hst hpl) hdb)
  rw [hst]
  show wpAny _ _ (spliced ((false, eval e X.env) :: backTo pos (starEach [] X.env))) _ _ s
  refine Calls.spliced_cons (thn (he.run pins s σ H _ I h) fun u s1 ⟨v, H1, I1, r1, l, f, c', ev, hat, hq⟩ => Calls.spliced_nil ⟨I1.kIn, ?_⟩)
  subst ev
  obtain rfl : u = Value.ref f := r1
  have rc : codeAny (model X.prog X.w) X.A (.call (.ref g) ⟨[.ref f], []⟩) (CR C8.CX0 X.stack X.prog X.w H1 s1 Q C8.E0) s1 := by
    refine run_ofS (N := Ng) (ps := [a]) (us := [.ref f]) (vs := [.ref f]) lk hcg Sg hr I1.env0 (hb s1 [.ref f] I1.kIn rfl) (.cons rfl .nil) rfl fun hr' => ?_
    obtain ⟨t', ht', hq'⟩ := hG f (fun H0 => LamAt X l.ps l.b l.sc l.df H0 f c') s1 H1 Q (fun E H' Q' => l.t E σ H' Q') (fun W pn xe E p1 p2 tk hW => pe_actV (i := 0) I1 l.L l.bind tk hW hr' (fun A outer s H hr2 => l.body A outer s H E f c' hr2) hNg hva hd hcd) hat hq
    exact ⟨t', ht'.nox, hq'⟩
  refine wpAny_call (codeAny_mono rc fun r s2 hq => ?_)
  cases r with
  | error e => exact (show False from hq).elim
  | ok fl => cases fl with
    | ret u => exact I1.after hq
    | next => exact False.elim hq
    | brk => exact False.elim hq
    | cont => exact False.elim hq
end FS
set_option maxHeartbeats 2000000
namespace FS
open PySem PySem.Spec PyProof.Rows L2
section
variable {X : Cx} {e : Expr} {es : List Expr} {ta : TA} {p1 p2 pos : Pos} {S : Addr} {x : Str}
theorem pe_baseinit {pl : Sem Bool} (hg : Gl X x) (hm : X.mg x = some (.ref S)) (rd : ClX.CRead X.K S (.type "type")) (fv : PySem.W.findCls X.K (.ref S) (.type "type") "__init__" = some (.val (.builtin "ValueError.__init__"))) (ha : PA X (e :: es) ta)
    (hc : eval (.Call (.Attribute (.Name x p1) "__init__" p2) (e :: es) [] pos) X.env = (do
      let ov ← eval (.Name x p1) X.env
      standAt p2.atName
      let (f, first) ← holding [ov] (getMethod ov "__init__" pl)
      callWith pos f first (backTo pos (starEach (e :: es) X.env)) (backToKw pos (keywordEach [] X.env))) := by rfl)
    (hdb : (x == ("__debug__" : Str)) = false := by decide)
    (he : starEach (e :: es) X.env = (false, eval e X.env) :: starEach es X.env := by rfl) (hpl : (backTo pos (starEach es X.env)).any (·.1) = false := by rfl) :
    PE X (.Call (.Attribute (.Name x p1) "__init__" p2) (e :: es) [] pos) (tVeI X.K ta) := by
  refine ⟨fun pins s σ H Q I h => PySem.W.methodCall_KW (ld_glob I hg hm ?_ hdb) hc⟩
  refine PySem.W.method_cls I.kIn rd.ga (PySem.W.cls_value I.kIn rd.rd fv (by decide +kernel) ?_)
  show wpAny _ _ (callWith pos (Value.builtin "ValueError.__init__") [] (backTo pos (starEach (e :: es) X.env)) []) _ _ _
  refine PyProof.Rows.callWith_method1 (thn (ha.run pos pins _ σ H _ (I.tok _) h) fun us s1 ⟨vs, H1, I1, r1, a, C, ws, ev, hl, T, ea, q⟩ => ?_) he hpl
  subst ev
  cases r1 with
  | @cons _ u0 _ ur ra rw' =>
    obtain rfl : u0 = Value.ref a := ra
    have hlen : ur.length ≤ sizeLine := by
      have z := Paired.length rw'
      rw [sizeLine_eq]
      omega
    exact oinit_ok T I1 ea hlen fun s' J => ⟨.non, H1, J, rfl, q⟩
end
end FS
namespace PySem.W
open PySem PySem.Spec PySem.Calls PyProof.Rows
section
variable {prog : Program} {w : World} {A : Around} {E : Value → Shared → Prop} {s : Shared} {K : Frag} {x D : Addr} {ox od : Obj}
/-- x.__class__, x an error with a dict of its own -/
theorem fs_classD {Q : Option Value → Shared → Prop} (hga : findIn K (.ref D) "__getattribute__" = some (some (.builtin "BaseException.__getattribute__"))) (hgt : findIn K (.ref D) "__getattr__" = some none) (hsub : subIn K (.ref D) (.type "BaseException") = some true)
    (hdct : hasDictIn K D = true) (ha : findIn K (.ref D) "__class__" = some (some (.builtin "object.__class__")))
    (hn : specialIn K (.builtin "object.__class__") "__get__" = some (some (.builtin "getset_descriptor.__get__"))) (htk : takesIn K (.builtin "object.__class__") = some true) (hm : mroIn K D (.type "object") = some true)
    (X : K.In s.heap) (I : InstAt s.heap x ox D (some od)) (h : Q (some (.ref D)) { s with toks := s.toks + 1 }) : wpAny (model prog w) A (getAttr? (.ref x) "__class__") Q E s := by
  have hcl : (clsIn K D).isSome = true := by
    obtain ⟨cd, hcd, _⟩ := any_some hdct
    rw [hcd]
    rfl
  have hf := findObj_data (od := od) hcl ha hn htk
  obtain ⟨hp, gs, dr, tk, os⟩ := s
  have T0 := I.type (M := model prog w)
  have T1 := looks_findIn (M := model prog w) X hga
  have T2 := looks_findIn (M := model prog w) X hgt
  have T3 := looks_find (M := model prog w) X I hf
  have sub : Looks (model prog w) hp (isInstance (.ref x) (.type "BaseException")) true := T0.andThen (looks_subIn X hsub)
  have n2 : (Value.builtin "BaseException.__getattribute__" == Value.builtin "object.__getattribute__") = false := by decide +kernel
  have n1 : (onTheHeap (Value.ref D) && Value.builtin "BaseException.__getattribute__" == Value.builtin "object.__getattribute__") = false := by rw [n2]; rfl
  have n0 : (false && onTheHeap (Value.builtin "BaseException.__getattribute__")) = false := rfl
  unfold getAttr? getAttrBy? getAttrBy
  refine wpAny_bind (wpAny_mkText (wpAny_bind (wpAny_attempt (wpAny_holding (wpAny_bind (T0.at (wpAny_bind (T1.at ?_))))))))
  show wpAny _ _ (if (onTheHeap (Value.ref D) && Value.builtin "BaseException.__getattribute__" == Value.builtin "object.__getattribute__") = true then _ else _) _ _ _
  rw [n1, if_neg Bool.false_ne_true]
  unfold getAttrByItsOwn hookBefore
  refine wpAny_bind ?_
  rw [if_pos (show onTheHeap (Value.ref D) = true from rfl)]
  refine T2.at (wpAny_bind (wpAny_attempt (wpAny_holding ?_)))
  unfold callGetattribute
  rw [n0, if_neg Bool.false_ne_true]
  unfold boundAndCalled
  rw [PySem.F.excAttr_ValueError.ga.bind (.ref x)]
  refine wpAny_bind (wpAny_pure ?_)
  show wpAny _ _ (call (.builtin "BaseException.__getattribute__") [.ref x, .str "__class__" tk]) _ _ _
  refine wpAny_call (codeAny_call_builtin PySem.F.excAttr_ValueError.ga.plain PySem.F.entry_bexc_ga ?_)
  refine @check_slot (model prog w) _ _ ⟨hp, gs, dr, tk + 1, os⟩ "BaseException.__getattribute__" "BaseException" "__getattribute__" (.ref x) [.str "__class__" tk] [] _ (by decide +kernel) (by decide +kernel) sub (PySem.F.args_bexc_ga (.ref x) (.str "__class__" tk)) ?_
  unfold Builtin.«object.__getattribute__»
  refine wpAny_bind (wpAny_of_eq (a := ((Value.ref x : Value), [Value.str "__class__" tk])) (by first | rfl | (simp only [slotArgs]; rfl)) ?_)
  refine wpAny_bind (wpAny_pure (wpAny_bind (T0.at (wpAny_bind (T3.at ?_)))))
  show wpAny _ _ (holding [Value.builtin "object.__class__"] (call (.builtin "getset_descriptor.__get__") [.builtin "object.__class__", .ref x, .ref D]) >>= ret) _ _ _
  refine wpAny_bind (wpAny_holding (wpAny_call (class_get (s := ⟨hp, gs, dr, tk + 1, os⟩) (ox := ox) (od := some od) X I hm ?_)))
  refine wpAny_pure ?_
  show wpAny _ _ (handedOut (.ref D)) _ _ _
  rw [handedOut_of (v := .ref D) rfl]
  first
    | exact wpAny_pure (wpAny_pure h)
    | exact wpAny_pure h
    | exact wpAny_pure (wpAny_bind (wpAny_pure (wpAny_pure h)))
theorem fs_kitD (hga : findIn K (.ref D) "__getattribute__" = some (some (.builtin "BaseException.__getattribute__"))) (hgt : findIn K (.ref D) "__getattr__" = some none) (hsub : subIn K (.ref D) (.type "BaseException") = some true) (hdct : hasDictIn K D = true) (ha : findIn K (.ref D) "__class__" = some (some (.builtin "object.__class__")))
    (hn : specialIn K (.builtin "object.__class__") "__get__" = some (some (.builtin "getset_descriptor.__get__"))) (htk : takesIn K (.builtin "object.__class__") = some true) (hm : mroIn K D (.type "object") = some true) :
    KitX K (.ref x) (.ref D) (fun h => ∃ ox od, InstAt h x ox D (some od)) where
  ty := fun _ _ _ ⟨_, _, I⟩ => I.type
  it := fun _ _ X _ => by
    obtain ⟨cd, hcd, _⟩ := any_some hdct
    unfold clsIn at hcd
    split at hcd
    · rename_i _ _ _ _ hk
      intro A' Q' E' s' kp q
      unfold isType loadHead
      exact wpAny_bind (wpAny_loadPart (kp _ _ (X _ _ hk)) (wpAny_pure q))
    · cases hcd
  ne := (handS_kitx_exc (ox := default) (x := x) hga hgt hsub hdct ha hn htk hm).ne
  ca := fun X ⟨_, _, I⟩ k => fs_classD hga hgt hsub hdct ha hn htk hm X I k
end
end PySem.W
namespace FS
open PySem PySem.Spec PyProof.Rows L2
/-- isinstance(e, c), e the error that the suite holds, with a dict of its own -/
theorem call_isD {X : Cx} {a D d : Addr} {oe : Obj} {pn : List (Addr × Obj)} (C : ExcC X.K D) (hz : Zc (.ref D) (some d) oe) (hf : ∃ vs, oe.data = .fields vs) :
    CallR (X.suite a ((a, oe) :: pn)) (.builtin "isinstance") (fun xs H Q => rIsE X.K D a xs H Q ∧ ∃ fs, H d = some (.xd fs)) := by
  intro pins s σ H xs us Q I r h
  obtain ⟨⟨c, cv, b, ev, hcv, e, q⟩, fs, hd⟩ := h
  subst ev
  obtain ⟨u1, u2, eu, rx, rt⟩ := vals2 r
  subst eu
  cases rx
  have ec := hcv _ rt
  subst ec
  obtain ⟨hget, _⟩ := I.pin (a, oe) (List.mem_append.mpr (.inl List.mem_cons_self))
  obtain ⟨vs, hv⟩ := hf
  obtain ⟨mA, hns, _⟩ := (show ObjOk X.prog X.w H s.heap d (.xd fs) from I.hok d _ hd)
  obtain ⟨od, ho, _⟩ := lookIn_ns hns
  have J : PySem.W.InstAt s.heap a oe D (some od) := ⟨hget, hz.1, by unfold PySem.W.notCls; rw [hv] <;> rfl, by rw [hz.2]; exact ho⟩
  exact PySem.W.kia_one (PySem.W.fs_kitD C.hg C.hk C.hs C.hd C.ha C.hn C.ht C.hm) I.kIn ⟨oe, od, J⟩ e (fun z => nomatch z) fun tk => ⟨.bl b, H, I.kept (t' := tk) fun _ _ z => z, rfl, q⟩
end FS
set_option maxHeartbeats 2000000
namespace FS
open PySem PySem.Spec PyProof.Rows L2
abbrev top5 (i : Nat) : Stmt := top i
abbrev sIsName : Stmt := top 33
abbrev sIsClause : Stmt := top 34
abbrev sChkNames : Stmt := top 35
abbrev sChkClauses : Stmt := top 36
abbrev sChkState : Stmt := top 37
abbrev sFulfils : Stmt := top 51
abbrev sAmong : Stmt := top 52
abbrev sLaw : Stmt := top 68
abbrev sChkLegal : Stmt := top 24
abbrev iIR : Nat := 3
abbrev iIS : Nat := 7
abbrev iIlS : Nat := 8
abbrev sDice : Stmt := top 55
abbrev sNext : Stmt := top 56
abbrev sLike : Stmt := top 57
abbrev sPick : Stmt := top 58
abbrev sTold : Stmt := top 59
abbrev sNames5 : Stmt := top 60
abbrev sClause5 : Stmt := top 61
abbrev sKeeps : Stmt := top 62
abbrev sAll5 : Stmt := top 63
abbrev sLegal5 : Stmt := top 64
abbrev sRules5 : Stmt := top 65
abbrev sBroken5 : Stmt := top 66
abbrev iUS : Nat := 6
abbrev iST : Nat := 9
abbrev sDiffering : Stmt := top 25
abbrev sSwitched : Stmt := top 26
abbrev sChkSwitch : Stmt := top 38
abbrev sOnWay : Stmt := top 47
abbrev iNW : Nat := 10
abbrev sInOrder : Stmt := top 40
abbrev sPairs : Stmt := top 41
abbrev sWaiting : Stmt := top 42
abbrev sPossible : Stmt := top 43
abbrev sLongest : Stmt := top 44
abbrev sCircle : Stmt := top 45
abbrev sFindWay : Stmt := top 46
abbrev sErrs52 : Stmt := top 67
end FS
set_option maxHeartbeats 2000000
namespace FS
open PySem PySem.Spec PyProof.Rows L2
section
variable {prog : Program} {w : World} {A : Around} {E : Value → Shared → Prop} {s : Shared}
end
end FS
set_option maxHeartbeats 1000000
namespace FS
open PySem PySem.Spec PyProof.Rows L2
section
variable {prog : Program} {w : World} {A : Around} {E : Value → Shared → Prop} {s : Shared}
end
end FS
set_option maxHeartbeats 1000000
namespace FS
open PySem PySem.Spec PyProof.Rows L2
end FS
set_option maxHeartbeats 2000000
namespace FS
open PySem PySem.Spec PyProof.Rows L2
open PySem.W (EachIs AllAlike Sortable dataLe)
def rSortedD (K : PySem.W.Frag) : List V → Hp → VK → Prop := fun vs H Q => ∃ (a : Addr) (ps : List (V × PyData)), vs = [V.ref a] ∧ SqL K H a (ps.map Prod.fst) ∧ (∀ p ∈ ps, Dp K H p.1 p.2) ∧ AllAlike (ps.map Prod.snd) ∧ Sortable (ps.map Prod.snd) ∧ (∀ p ∈ ps, p.2.depth ≤ 8) ∧
  ∀ l, H l = none → Q (.ref l) (upd H l (.lst ((ps.mergeSort (dataLe false Prod.snd)).map Prod.fst)))
section
variable {X : Cx}
theorem each_vals {ps : List (V × PyData)} : ∀ {us : List Value}, Vals (ps.map Prod.fst) us → EachIs (fun v (p : V × PyData) => RelV p.1 v) us ps := by
  induction ps with
  | nil => intro us r; cases r; exact .nil
  | cons p ps ih =>
    intro us r
    cases r with
    | cons r1 r2 => exact .cons r1 (ih r2)
theorem vals_each {ps : List (V × PyData)} : ∀ {us : List Value}, EachIs (fun v (p : V × PyData) => RelV p.1 v) us ps → Vals (ps.map Prod.fst) us := by
  induction ps with
  | nil => intro us r; cases r; exact .nil
  | cons p ps ih =>
    intro us r
    cases r with
    | cons r1 r2 => exact .cons r1 (ih r2)
theorem each_reads {pins : List (Addr × Obj)} {σ : L2.St} {H : Hp} {s : Shared} (I : Inv X pins σ H s) : ∀ {ps : List (V × PyData)} {us : List Value}, (∀ p ∈ ps, Dp X.K H p.1 p.2) → EachIs (fun v (p : V × PyData) => RelV p.1 v) us ps → EachIs (fun v (p : V × PyData) => ∃ as, Reads s.heap v p.2 as) us ps
  | [], _, _, .nil => .nil
  | p :: ps, _, h, .cons r1 r2 => .cons (Dp.reads I p.2 p.1 _ (h p List.mem_cons_self) r1) (each_reads I (fun q hq => h q (List.mem_cons_of_mem _ hq)) r2)
theorem cr_sortedD (hu : X.A.units + 12 < cLine) : CallR X (.builtin "sorted") (rSortedD X.K) := by
  intro pins s σ H vs us Q I r h
  obtain ⟨a, ps, rfl, hs, hd, hal, hk, hdp, q⟩ := h
  obtain ⟨its, rv, hl, hz⟩ := I.list hs
  obtain ⟨u, rfl, ru⟩ := vals1 r
  obtain rfl : u = Value.ref a := ru
  have e := each_vals rv
  have hlen : ps.length = its.length := by
    have z := rv.length
    rw [List.length_map] at z
    exact z
  refine PySem.W.sorted_data (enc := Prod.snd) (bs := ps) (R := fun v p => RelV p.1 v) hl.isList e (each_reads I hd e) hal hk (by rw [List.length_map] at hz; exact hz) (fun b hb => by have z := hdp b hb; omega) fun out h1 h2 => ?_
  obtain ⟨n, hn⟩ := sortedAll_at s.heap its (List.toArray out)
  have hfr : H (s.heap.objs.size + 1) = none := I.hok.fresh (Nat.le_succ _)
  refine ⟨.ref (s.heap.objs.size + 1), upd H (s.heap.objs.size + 1) (.lst ((ps.mergeSort (dataLe false Prod.snd)).map Prod.fst)), I.laid (t' := s.toks) (fun b o => sortedAll_old) (Nat.le_succ _) ⟨?_, out, n, vals_each h2, ?_⟩, rfl, q _ hfr⟩
  · rw [List.length_map, List.length_mergeSort]
    rw [List.length_map] at hz
    exact hz
  · exact hn
end
end FS
set_option maxHeartbeats 2000000
namespace FS
open PySem PySem.Spec PyProof.Rows L2
open PySem.W (EachIs AllAlike Sortable dataLe dataLt rowLt alike alikeAll)
/-- the rows as they are doubled -/
def genI : Nat → List (List Nat)
  | 0 => [[]]
  | k + 1 => genI k ++ (genI k).map (· ++ [k])
def endsC : Nat → Nat → List Nat → Bool
  | 0, n, l => (nextC n l).isNone
  | f + 1, n, l => match nextC n l with | some l' => endsC f n l' | none => true
def okSeq (n r : Nat) : Bool := endsC 300 n (List.range r) && (seqC n r).all fun ix => decide (ix.length ≤ 1000) && (ix.all (decide <| · < n) && ix.isSublist (List.range n))
theorem okSeq_all : ∀ n < 11, ∀ r < 11, r ≤ n → okSeq n r = true := by decide +kernel
theorem seqC_sub {n r : Nat} (hn : n ≤ 10) (hr : r ≤ n) {ix : List Nat} (hx : ix ∈ seqC n r) : ix.Sublist (List.range n) := by
  have h := okSeq_all n (by omega) r (by omega) hr
  unfold okSeq at h
  rw [Bool.and_eq_true, List.all_eq_true] at h
  have z := h.2 ix hx
  rw [Bool.and_eq_true, Bool.and_eq_true] at z
  exact List.isSublist_iff_sublist.mp z.2.2
theorem ordI_sub {n : Nat} (hn : n ≤ 10) {ix : List Nat} (hx : ix ∈ ordI n) : ix.Sublist (List.range n) := by
  obtain ⟨r, hr, h⟩ := List.mem_flatMap.mp hx
  exact seqC_sub hn (by have z := List.mem_range.mp hr; omega) h
def keyI (l : List Nat) : List Int := (l.length : Int) :: l.map fun (i : Nat) => (i : Int)
def rowD (nm : Nat → Str) (l : List Nat) : PyData := .tuple [.int l.length, .tuple (l.map fun i => .int (i : Nat)), .tuple (l.map fun i => .str (nm i))]
theorem keyI_inj {l m : List Nat} (h : keyI l = keyI m) : l = m := by
  unfold keyI at h
  have h2 := (List.cons.inj h).2
  have h3 := congrArg (List.map Int.toNat) h2
  simpa [Function.comp_def] using h3
theorem alike_strs : ∀ xs ys : List Str, alikeAll (xs.map .str) (ys.map .str) = true
  | [], ys => by simp [alikeAll]
  | x :: xs, [] => by simp [alikeAll]
  | x :: xs, y :: ys => by simp [alikeAll, alike, alike_strs xs ys]
theorem ints_eq (l : List Nat) : (l.map fun i => PyData.int (i : Nat)) = (l.map fun (i : Nat) => (i : Int)).map .int := by rw [List.map_map]; rfl
theorem strs_eq (nm : Nat → Str) (l : List Nat) : (l.map fun i => PyData.str (nm i)) = (l.map nm).map .str := by rw [List.map_map]; rfl
theorem rowD_alike (nm : Nat → Str) (l m : List Nat) : alike (rowD nm l) (rowD nm m) = true := by
  unfold rowD
  rw [ints_eq, ints_eq, strs_eq, strs_eq]
  simp only [alike, alikeAll, PySem.W.alike_ints, alike_strs, Bool.and_self, Bool.and_true]
theorem eqv_ints (xs ys : List Int) : PyData.eqv (.tuple (xs.map .int)) (.tuple (ys.map .int)) = decide (xs = ys) := by
  have key : ∀ xs ys : List Int, PyData.eqvAll (xs.map .int) (ys.map .int) = decide (xs = ys) := by
    intro xs
    induction xs with
    | nil => intro ys; cases ys <;> simp [PyData.eqvAll]
    | cons x xs ih =>
      intro ys
      cases ys with
      | nil => simp [PyData.eqvAll]
      | cons y ys =>
        simp only [List.map_cons, PyData.eqvAll, ih]
        by_cases h : x = y <;> by_cases h2 : xs = ys <;> simp [PyData.eqv, h, h2]
  simpa [PyData.eqv] using key xs ys
theorem rowD_lt (nm : Nat → Str) (l m : List Nat) : dataLt (rowD nm l) (rowD nm m) = decide (keyI l < keyI m) := by
  by_cases hlm : l = m
  · subst hlm
    have e : dataLt (rowD nm l) (rowD nm l) = false := by
      unfold PySem.W.dataLt
      exact lex_irrefl _
    rw [e]
    symm
    exact decide_eq_false (List.lt_irrefl _)
  · have hk : keyI l ≠ keyI m := fun e => hlm (keyI_inj e)
    unfold rowD
    rw [PySem.W.dataLt_tuple, PySem.W.dataLt_cons (by simp [alike]), PySem.W.dataLt_cons (by rw [ints_eq, ints_eq]; simp only [alike, PySem.W.alike_ints]), PySem.W.dataLt_int, ints_eq, ints_eq, eqv_ints, PySem.W.dataLt_tuple]
    have e2 : PyProof.Rows.lexLt itemOrd (PySem.W.keyToksAll ((l.map fun (i : Nat) => (i : Int)).map .int)) (PySem.W.keyToksAll ((m.map fun (i : Nat) => (i : Int)).map .int)) = decide ((l.map fun (i : Nat) => (i : Int)) < (m.map fun (i : Nat) => (i : Int))) := PySem.W.dataLt_ints _ _
    rw [e2]
    unfold keyI at hk ⊢
    by_cases h1 : (l.length : Int) = (m.length : Int)
    · have h3 : ¬ (l.map fun (i : Nat) => (i : Int)) = (m.map fun (i : Nat) => (i : Int)) := fun e => hk (by rw [h1, e])
      have e1 : PyData.eqv (.int (l.length : Int)) (.int (m.length : Int)) = true := by simp [PyData.eqv, h1]
      rw [e1, if_pos rfl, decide_eq_false h3, if_neg Bool.false_ne_true]
      refine decide_eq_decide.mpr ?_
      rw [List.cons_lt_cons_iff]
      constructor
      · intro h
        exact .inr ⟨h1, h⟩
      · rintro (h | h)
        · omega
        · exact h.2
    · have e1 : PyData.eqv (.int (l.length : Int)) (.int (m.length : Int)) = false := by simp only [PyData.eqv, beq_eq_false_iff_ne]; exact h1
      rw [e1, if_neg Bool.false_ne_true]
      refine decide_eq_decide.mpr ?_
      rw [List.cons_lt_cons_iff]
      constructor
      · intro h
        exact .inl h
      · rintro (h | h)
        · exact h
        · exact absurd h.1 h1
def leI (l m : List Nat) : Bool := !decide (keyI m < keyI l)
theorem leI_iff {l m : List Nat} : leI l m = true ↔ keyI l ≤ keyI m := by
  unfold leI
  rw [Bool.not_eq_true', decide_eq_false_iff_not]
  exact List.not_lt
theorem leI_total : PySem.W.TotalLe leI where
  total := fun a b => by
    rw [leI_iff, leI_iff]
    exact List.le_total _ _
  trans := fun a b c h1 h2 => by
    rw [leI_iff] at h1 h2 ⊢
    exact List.le_trans h1 h2
theorem rowD_le (nm : Nat → Str) (l m : List Nat) : dataLe false (rowD nm) l m = leI l m := by
  show (!dataLt (rowD nm m) (rowD nm l)) = leI l m
  rw [rowD_lt]
  rfl
def chainI : List (List Nat) → Bool
  | a :: b :: l => leI a b && chainI (b :: l)
  | _ => true
theorem chain_pair : ∀ l : List (List Nat), chainI l = true → l.Pairwise (fun a b => leI a b = true)
  | [], _ => List.Pairwise.nil
  | [a], _ => List.pairwise_singleton _ _
  | a :: b :: l, h => by
    have h' : leI a b = true ∧ chainI (b :: l) = true := by simpa [chainI] using h
    have ih := chain_pair (b :: l) h'.2
    refine List.pairwise_cons.mpr ⟨fun c hc => ?_, ih⟩
    rcases List.mem_cons.mp hc with e | hc
    · rw [e]; exact h'.1
    · exact leI_total.trans _ _ _ h'.1 ((List.pairwise_cons.mp ih).1 c hc)
theorem ord_ok : ∀ n < 9, chainI (ordI n) = true ∧ (ordI n).isPerm (genI n) = true := by decide +kernel
theorem sort_gen {n : Nat} (hn : n ≤ 8) : (genI n).mergeSort leI = ordI n := by
  obtain ⟨h1, h2⟩ := ord_ok n (by omega)
  refine (PySem.W.sort_unique leI_total (chain_pair _ h1) fun c => ?_).symm
  have e : ∀ l : List (List Nat), l.filter (PySem.W.sameRank leI c) = List.replicate (l.count c) c := fun l => by
    have e2 : (PySem.W.sameRank leI c) = (· == c) := by
      funext a
      unfold PySem.W.sameRank
      by_cases h : a = c
      · subst h
        rw [PySem.W.TotalLe.refl leI_total]
        simp
      · have z : ¬ (leI c a = true ∧ leI a c = true) := fun ⟨x, y⟩ => h (keyI_inj (List.le_antisymm (leI_iff.mp y) (leI_iff.mp x)))
        have z2 : (leI c a && leI a c) = false := by
          rw [← Bool.not_eq_true, Bool.and_eq_true]
          exact z
        rw [z2]
        simp [h]
    rw [e2, List.filter_beq]
  rw [e, e, (List.isPerm_iff.mp h2).count_eq]
end FS
set_option maxHeartbeats 1000000
namespace FS
open PySem PySem.Spec PyProof.Rows L2 GenW
section
variable {X : Cx} {pos : Pos}
theorem seg_forLoop {prog : Program} {w : World} {A : Around} {R : GenEnd} {Y : Protocol} {n : Nat} {s₀ : Shared} {fs : List Frame} {s : Shared} {env : Env} {target : Expr} {it : Value} {body orelse : List Stmt}
    (h : wpAny (model prog w) (A.over (.forLoop target it body orelse env) fs) (pyNext it) (fun r s1 => match r with
        | none => Seg (model prog w) A R Y n s₀ (.forLoop target it body orelse env) (.pure (.again (.block orelse env))) fs s1
        | some v => wpAny (model prog w) (A.over (.forLoop target it body orelse env) fs) (letOwnedTupleGo target it v) (fun _ s2 =>
            wpAny (model prog w) (A.over (.forLoop target it body orelse env) fs) (assign target env v) (fun _ s3 =>
              Seg (model prog w) A R Y n s₀ (.forLoop target it body orelse env) ((execs body env).wrap (fun f => match f with
                | .next | .cont => .pure (.again (.forLoop target it body orelse env))
                | .brk => .pure (.done .next)
                | .ret v => .pure (.done (.ret v))) (fun e => (do noteFrame e env; theTreesLotGoes e : Sem Unit).wrap (fun _ => .raise e) .raise id id) id id) fs s3)
              (fun x s' => Seg (model prog w) A R Y n s₀ (.forLoop target it body orelse env) ((do noteFrame x env; theTreesLotGoes x : Sem Unit).wrap (fun _ => .raise x) .raise id id) fs s') s2)
            (fun x s' => Seg (model prog w) A R Y n s₀ (.forLoop target it body orelse env) ((do noteFrame x env; theTreesLotGoes x : Sem Unit).wrap (fun _ => .raise x) .raise id id) fs s') s1)
      (fun x s' => Seg (model prog w) A R Y n s₀ (.forLoop target it body orelse env) ((do noteFrame x env; theTreesLotGoes x : Sem Unit).wrap (fun _ => .raise x) .raise id id) fs s') s) :
    Seg (model prog w) A R Y n s₀ (.forLoop target it body orelse env) ((model prog w).den (.forLoop target it body orelse env)) fs s := by
  show Seg _ A R Y n s₀ _ ((forTurn target it body orelse env).onRaise (fun x => do noteFrame x env; theTreesLotGoes x)) fs s
  unfold forTurn
  rw [Sem.onRaise_eq_wrap]
  have note : ∀ (x : Value) (s' : Shared), Seg (model prog w) A R Y n s₀ (.forLoop target it body orelse env) ((do noteFrame x env; theTreesLotGoes x : Sem Unit).wrap (fun _ => .raise x) .raise id id) fs s' →
      Seg (model prog w) A R Y n s₀ (.forLoop target it body orelse env) ((do noteFrame x env; theTreesLotGoes x : Sem Unit).bind fun _ => .raise x) fs s' := fun x s' hx => by
    rw [Sem.bind_eq_wrap]
    exact hx
  refine seg_bind_wrap (wpAny_standAt ?_)
  refine seg_bind_wrap (wpAny_onRaise (wpAny_mono h (fun r s1 h1 => ?_) fun x s' hx => wpAny_standAt (note x s' hx)))
  cases r with
  | none => exact h1
  | some v =>
    refine seg_bind_wrap (wpAny_mono h1 (fun _ s2 h2 => ?_) fun x s' hx => note x s' hx)
    refine seg_bind_wrap (wpAny_mono h2 (fun _ s3 h3 => ?_) fun x s' hx => note x s' hx)
    rw [Sem.bind_eq_wrap', Sem.wrap_wrap]
    rw [Sem.wrap_congr (execs body env) _ _ (K' := fun f => match f with
          | .next | .cont => .pure (.again (.forLoop target it body orelse env))
          | .brk => .pure (.done .next)
          | .ret v => .pure (.done (.ret v))) (H' := (fun e => (do noteFrame e env; theTreesLotGoes e : Sem Unit).wrap (fun _ => .raise e) .raise id id))
      (fun f => by cases f <;> rfl)
      (fun e => by first | exact Sem.bind_eq_wrap _ _ | (show (do noteFrame e env; theTreesLotGoes e : Sem Unit).bind (fun _ => .raise e) = _; rw [Sem.bind_eq_wrap]))]
    exact h3
/-- for, with what is out so far -/
def tGFor (wi : TI) (g : TG) (tb : TGn) : TGn := fun D ys σ H => wi σ H fun J H1 => ∃ W : Nat → Nat → List V → L2.St → Hp → Prop, (∃ m, W 0 m ys σ H1) ∧ ∀ i m ys σ H, W i m ys σ H →
  (J.stop i H ∧ D.nx ys σ H) ∨ (J.go i H ∧ ∃ N : List V → L2.St → Hp → Prop, (∀ ys' σ' H', N ys' σ' H' → ∃ m', m' < m ∧ W (i + 1) m' ys' σ' H') ∧ ∀ x H', J.yld i H x H' → g x σ H' fun σ2 H2 => tb { D with nx := N, ct := N, bk := D.nx } ys σ2 H2)
theorem gs_for {tg iter : Expr} {body : List Stmt} {wi : TI} {g : TG} {tb : TGn} (hp : PassesOwn (model X.prog X.w) X.A X.env X.xe) (hc : X.calm = true) (hi : PI X tg iter wi) (hg : PG X tg g) (hb : GSs X body tb)
    (hs : ∀ x, foldedSetIterable iter X.env x = pure x := by intro _; rfl) : GS X (.For tg iter body [] pos) (tGFor wi g tb) := by
  refine ⟨fun A S ip R n ys s₀ cd fs K J gd lv s σ H D gc hn k hI ht => ?_⟩
  obtain ⟨acc, cc, r, I⟩ := hI
  rw [exec_For]
  refine seg_bind_wrap (wpAny_standAt ?_)
  refine seg_bind_wrap ?_
  rw [gc.over]
  refine wpAny_mono (hi.run _ s σ H _ I ht) (fun v s1 h1 => ?_) fun x s' hx => k.exc n s₀ x s' hx
  refine seg_bind_wrap (wpAny_of_eq (hs v) ?_)
  refine seg_bind_wrap (wpAny_standAt ?_)
  refine seg_bind_wrap ?_
  rw [gc.over]
  refine wpAny_holding (wpAny_mono h1 (fun itv s2 h2 => ?_) fun x s' hx => k.exc n s₀ x s' hx)
  obtain ⟨it, fp, tn, Ji, H2, e, I2, T, st2, f2, W, ⟨m0, w0⟩, turn⟩ := h2
  subst e
  have stat : ∀ {H' : Hp}, (∀ b ∈ fp, H' b = none) → ∀ b ∈ fp, FpOk X ((S, lstObj acc cc) :: ip) H' b := fun hn b hb => ⟨hn b hb, (f2 b hb).2⟩
  have fpS : ∀ b ∈ fp, b ≠ S := fun b hb e => (f2 b hb).2.2.2.2.2 (S, lstObj acc cc) (List.mem_append_right _ List.mem_cons_self) e.symm
  show Seg _ A R _ n s₀ cd (.call (.forLoop tg (.ref it) body [] X.env) _ _ _ _) fs s2
  refine seg_call fun p => ?_
  have gl := fun (kk : Result → Sem PySem.Fin) => gc_loop (k := kk) (c' := .forLoop tg (.ref it) body [] X.env) (l := lv []) (kp := []) (p := p) gc rfl rfl
  have stat : ∀ {acc' : Array Value} {cc' : Nat} {H' : Hp}, (∀ b ∈ fp, H' b = none) → ∀ b ∈ fp, FpOk X ((S, lstObj acc' cc') :: ip) H' b := fun {acc' cc' H'} hn b hb => by
    obtain ⟨_, f1, f2', f3, f4, f5⟩ := f2 b hb
    refine ⟨hn b hb, f1, f2', f3, f4, fun q hq => ?_⟩
    rcases List.mem_append.mp hq with hq | hq
    · exact f5 q (List.mem_append_left _ hq)
    · rcases List.mem_cons.mp hq with e | hq
      · rw [e]
        exact (fpS b hb).symm
      · exact f5 q (List.mem_append_right _ (List.mem_cons_of_mem _ hq))
  have loop : ∀ (m i n : Nat) (ys : List V) (s₀ s : Shared) (σ : L2.St) (H : Hp), n + ys.length = sizeLine → W i m ys σ H → GI X S ip ys σ H s → tn i s.heap → (∀ b ∈ fp, H b = none) →
      Seg (model X.prog X.w) A R (GY X S) n s₀ (.forLoop tg (.ref it) body [] X.env) ((model X.prog X.w).den (.forLoop tg (.ref it) body [] X.env))
        (.ret (fun r => ((match r with | .ok f => (.pure f : Sem Flow) | .error e => .raise e).onRaise (cameBack X.env)).wrap K J gd lv) none (gd false) (lv []) cd p [] :: fs) s := by
    intro m
    induction m using Nat.strongRecOn with
    | ind m ih =>
      intro i n ys s₀ s σ H hn w hI st fr
      have ee : ∀ (n : Nat) (s₀ : Shared) (x : Value) (s' : Shared), X.xe x s' → Seg (model X.prog X.w) A R (GY X S) n s₀ (.forLoop tg (.ref it) body [] X.env)
          ((do noteFrame x X.env; theTreesLotGoes x : Sem Unit).wrap (fun _ => .raise x) .raise id id)
          (.ret (fun r => ((match r with | .ok f => (.pure f : Sem Flow) | .error e => .raise e).onRaise (cameBack X.env)).wrap K J gd lv) none (gd false) (lv []) cd p [] :: fs) s' := fun n s₀ x s' hx => by
        refine seg_wrap ?_
        rw [(gl _).over]
        refine wpAny_bind (wpAny_mono (hp x s' hx) (fun _ s'' hcb => wpAny_theTreesLotGoes ?_) fun y s'' hcb => ?_)
        · exact seg_leaf (.error x) (seg_cameBack gc k hcb)
        · exact seg_leaf (.error y) (seg_cameBack gc k hcb)
      refine seg_forLoop ?_
      rw [(gl _).over]
      obtain ⟨acc, cc, r, I⟩ := hI
      rcases turn i m ys σ H w with ⟨stop, qn⟩ | ⟨go, N, hN, step⟩
      · refine wpAny_mono (T.done X rfl rfl rfl hc i _ s σ H X.xe I (stat fr) st stop) (fun r' s4 ⟨hr, I4⟩ => ?_) fun x s' hx => ee n s₀ x s' hx
        subst hr
        refine seg_again rfl ?_
        exact seg_leaf (.ok .next) (k.ok n ys s₀ s4 .next hn ⟨σ, H, ⟨acc, cc, r, I4⟩, qn⟩)
      · refine wpAny_mono (T.item X rfl rfl rfl hc i _ s σ H X.xe I (stat fr) st go) (fun r' s4 ⟨u, hr, h4⟩ => ?_) fun x s' hx => ee n s₀ x s' hx
        subst hr
        refine wpAny_mono h4 (fun _ s5 ⟨x, H5, I5, r5, y5, st5, fr5⟩ => ?_) fun x s' hx => ee n s₀ x s' hx
        have I5' := I5.pinned (stat fr5) (T.obj _ _ st5)
        refine wpAny_mono (hg.run _ s5 σ H5 x u _ I5' r5 (step x H5 y5)) (fun _ s6 ⟨σ6, H6, I6, q6⟩ => ?_) fun x s' hx => ee n s₀ x s' hx
        have gl2 := gl (fun r => ((match r with | .ok f => (.pure f : Sem Flow) | .error e => .raise e).onRaise (cameBack X.env)).wrap K J gd lv)
        have hip : ∀ q ∈ ip ++ pinsAt fp s5.heap, q.1 ≠ S := fun q hq => by
          rcases List.mem_append.mp hq with hq | hq
          · exact gc.ip q hq
          · exact fpS q.1 (of_pinsAt hq).1
        refine hb.run A S (ip ++ pinsAt fp s5.heap) R n ys s₀ _ _ _ _ id id s6 σ6 H6 { D with nx := N, ct := N, bk := D.nx } ⟨gl2.pn, hip, gl2.apart, gl2.over, gl2.split, gl2.guard, gl2.gd⟩ hn ⟨fun n' ys' s₀' s7 f hn' hs => ?_, fun n' s₀' x s7 hx => ee n' s₀' x s7 hx⟩ ⟨acc, cc, r, I6⟩ q6
        have again : ∀ {σ7 : L2.St} {H7 : Hp}, GI X S (ip ++ pinsAt fp s5.heap) ys' σ7 H7 s7 → N ys' σ7 H7 → Seg (model X.prog X.w) A R (GY X S) n' s₀' (.forLoop tg (.ref it) body [] X.env) (.pure (.again (.forLoop tg (.ref it) body [] X.env)))
            (.ret (fun r => ((match r with | .ok f => (.pure f : Sem Flow) | .error e => .raise e).onRaise (cameBack X.env)).wrap K J gd lv) none (gd false) (lv []) cd p [] :: fs) s7 := fun {σ7 H7} G7 n7 => by
          obtain ⟨m', hm, w7⟩ := hN ys' σ7 H7 n7
          obtain ⟨acc7, cc7, r7, I7⟩ := G7
          have I7' : Inv X (((S, lstObj acc7 cc7) :: ip) ++ pinsAt fp s5.heap) σ7 H7 s7 := I7
          refine seg_again rfl (ih m' hm (i + 1) n' ys' s₀' s7 σ7 H7 hn' w7 ⟨acc7, cc7, r7, I7'.pins_of fun q hq => I7'.pin q ?_⟩ (T.keep _ _ _ st5 fun b hb o e => (I7'.pin (b, o) (List.mem_append_right _ (List.mem_append_right _ (mem_pinsAt hb e)))).1) fun b hb => ?_)
          · exact List.mem_append_right _ (List.mem_append_left _ hq)
          · obtain ⟨o, e, d⟩ := T.obj _ _ st5 b hb
            exact (I7'.pin (b, o) (List.mem_append_right _ (List.mem_append_right _ (mem_pinsAt hb e)))).2.1
        cases f with
        | next => obtain ⟨σ7, H7, G7, n7⟩ := hs; exact again G7 n7
        | cont => obtain ⟨σ7, H7, G7, n7⟩ := hs; exact again G7 n7
        | brk =>
          obtain ⟨σ7, H7, ⟨acc7, cc7, r7, I7⟩, q7⟩ := hs
          exact seg_leaf (.ok .next) (k.ok n' ys' s₀' s7 .next hn' ⟨σ7, H7, ⟨acc7, cc7, r7, I7.pins_of fun q hq => I7.pin q (by
            rcases List.mem_cons.mp hq with e | hq
            · rw [e]; exact List.mem_append_right _ List.mem_cons_self
            · exact List.mem_append_right _ (List.mem_cons_of_mem _ (List.mem_append_left _ hq)))⟩, q7⟩)
        | ret v =>
          obtain ⟨x7, σ7, H7, ⟨acc7, cc7, r7, I7⟩, rv, q7⟩ := hs
          exact seg_leaf (.ok (.ret v)) (k.ok n' ys' s₀' s7 (.ret v) hn' ⟨x7, σ7, H7, ⟨acc7, cc7, r7, I7.pins_of fun q hq => I7.pin q (by
            rcases List.mem_cons.mp hq with e | hq
            · rw [e]; exact List.mem_append_right _ List.mem_cons_self
            · exact List.mem_append_right _ (List.mem_cons_of_mem _ (List.mem_append_left _ hq)))⟩, rv, q7⟩)
  exact loop m0 0 n ys s₀ s2 σ H2 hn w0 ⟨acc, cc, r, I2⟩ st2 fun b hb => (f2 b hb).1
end
end FS
set_option maxHeartbeats 2000000
namespace FS
open PySem PySem.Spec PyProof.Rows L2
section
variable {X : Cx} {x1 x2 : Str} {c1 c2 : Value} {body suite : List Stmt} {b₀ : Stmt} {np1 np2 tpos pos pos' : Pos} {kk : Nat} {tb : WX → TS} {ts : Addr → Value → Option Addr → TS} {Wout : WX}
end
end FS
set_option maxHeartbeats 2000000
namespace FS
open PySem PySem.Spec PyProof.Rows L2 HT
section
variable {prog : Program} {w : World} {A : Around} {E : Value → Shared → Prop} {s : Shared}
end
section
variable {X : Cx}
end
end FS
set_option maxHeartbeats 2000000
namespace FS
open PySem PySem.Spec PyProof.Rows L2
section
variable {X : Cx} {es : List Expr} {t : TA} {pos : Pos}
end
end FS
set_option maxHeartbeats 2000000
namespace FS
open PySem PySem.Spec PyProof.Rows L2
section
variable {X : Cx} {e : Expr} {es : List Expr} {ta : TA} {p pos : Pos}
end
end FS
set_option maxHeartbeats 2000000
namespace FS
open PySem PySem.Spec PyProof.Rows L2
section
variable {X : Cx} {pins : List (Addr × Obj)} {σ : L2.St} {H : Hp} {s : Shared} {Q : VK} {k : Nat} {f : Addr} {fd : FuncData} {ps : List Str} {sp : Sp} {us : List Value} {vs : List V}
end

section
variable {X : Cx} {pins : List (Addr × Obj)} {k : Nat} {fx : Addr} {fdx : FuncData} {psx : List Str} {spX : Sp} {Wout : WX} {D : Ends} {pos : Pos}
end
end FS
set_option maxHeartbeats 2000000
namespace FS
open PySem PySem.Spec PyProof.Rows L2
section
variable {X : Cx} {CX : CXT} {k n : Nat} {f C : Addr} {fd : FuncData} {ps ks : List Str} {sp : Sp} {E : XK} {x : Str} {p pos : Pos} {e : Expr} {es : List Expr} {kws : List Keyword} {te : TE} {t tk : TA} {g : List Value → List Value → List Value} {gV : List V → List V → List V}
def tMakeV (C : Addr) (n m : Nat) (sp : Sp) (gV : List V → List V → List V) (E : XK) (te : TE) (t tk : TA) : TE := fun σ H Q => te σ H fun y H1 => y = .ref C ∧ tMakeK C n m sp gV E t tk σ H1 Q
theorem pe_makeV (M : Mk X.K C f) (F : FnOk X.prog X.w X.K X.mg X.base CX k f fd ps sp) (hr : Room (k + 1) X.A) (hn : PE X (.Name x p) te) (hb : KBn X.K fd ps (n + 1) ks g gV) (hx : Passes CX X E) (ha : PA X (e :: es) t) (hkw : PK X kws tk)
    (hall : (backToKw pos (keywordEach kws X.env)).all (·.1.isSome) = true := by rfl) (hks : (backToKw pos (keywordEach kws X.env)).filterMap (·.1) = ks := by rfl)
    (he : starEach (e :: es) X.env = (false, eval e X.env) :: starEach es X.env := by rfl) (hpl : ((backTo pos (starEach (e :: es) X.env)).any (·.1) || (backToKw pos (keywordEach kws X.env)).any (·.1.isNone)) = false := by rfl) :
    PE X (.Call (.Name x p) (e :: es) kws pos) (tMakeV C n ks.length sp gV E te t tk) := by
  refine ⟨fun pins s σ H Q I h => ?_⟩
  refine wpAny_Call_Name_kw (thn (hn.run pins s σ H _ I h) fun u s0 ⟨y, H0, I0, r0, ey, q0⟩ => ?_)
  subst ey
  cases r0
  refine PySem.W.callWith_KW (h₀ := X.base) I.ok.mod.kin M.kp hall (thn (ha.run pos pins s0 σ H0 _ I0 q0) fun us s1 ⟨vs, H1, I1, r, q⟩ => ?_) hpl he
  refine thn (hkw.run pos pins s1 σ H1 _ I1 q) fun ws s2 ⟨zs, H2, I2, rz, l1, l2, q2⟩ => ⟨I2.kIn, ?_⟩
  rw [hks]
  exact run_makeK M F hr hb hx I2 r rz l1 l2 q2
end
section
variable {X : Cx} {CX : CXT} {k : Nat} {f C : Addr} {sp : Sp} {E : XK} {m : Str} {o : Expr} {ta : TE} {pos apos : Pos}
/-- o.m( *e), e a tuple or a list -/
def tMethSL (K : PySem.W.Frag) (C : Addr) (m : Str) (g : Addr) (sp : Sp) (E : XK) (ta te : TE) : TE := fun σ H Q => ta σ H fun x H1 => ∃ a dx fs, x = .ref a ∧ H1 a = some (.ins C dx fs) ∧ fs.lookup m = none ∧
  ∀ q, H1 q = none → te σ (upd H1 q (.met g a)) fun y H2 => ∃ b vs, y = .ref b ∧ (SqT K H2 b vs ∨ SqL K H2 b vs) ∧ H2 q = some (.met g a) ∧ sp (.ref a :: vs) H2 Q E
theorem pe_methSL {g : Addr} {e : Expr} {te : TE} {p : Pos} (he : PE X o ta) (c : Cls X.K C) (b : BMeth X.K C m g) (F : FnR X.prog X.w X.K X.mg X.base CX k g sp) (hr : Room k X.A)
    (hx : Passes CX X E) (ha : PE X e te) (hbase : attributeBase o m X.env (eval o X.env) = eval o X.env := by rfl) : PE X (.Call (.Attribute o m apos) [.Starred e p] [] pos) (tMethSL X.K C m g sp E ta te) := by
  refine ⟨fun pins s σ H Q I h => ?_⟩
  refine starcall_of hbase (thn (he.run pins s σ H _ I h) fun u s1 ⟨x, H1, I1, rx, a, dx, fs, ex, ea, l, q⟩ => ?_)
  subst ex
  obtain rfl : u = Value.ref a := rx
  refine getbound_ok I1 ea c b l fun q1 s2 hq1 I2 => ?_
  refine PySem.W.ks_call (P := PySem.W.MethP X.K q1 g (.ref a)) rfl (PySem.W.keeps_M b.fi) (PySem.W.ks_lone ?_)
  refine thn (ha.run pins s2 σ _ _ I2 (q q1 hq1)) fun v s3 ⟨y, H2, I3, ry, t, vs, ey, ht, hm, hsp⟩ => ?_
  subst ey
  obtain rfl : v = Value.ref t := ry
  refine StX.star_any I3 ht fun us s4 I4 rv => ⟨met_P I4 hm, ?_⟩
  exact wpAny_call (PySem.W.method_call (met_P I4 hm).1 (run_fnR (us := Value.ref a :: us) (vs := V.ref a :: vs) F hr hx I4 (.cons rfl rv) hsp))
end
end FS
set_option maxHeartbeats 2000000
namespace FS
open PySem PySem.Spec PyProof.Rows L2
/-- the cells stand apart from the iterator's objects -/
def CellsOff (X : Cx) (ch : List Addr) : Prop := ∀ b ∈ ch, ∀ x c, X.env.cells.lookup x = some c → c ≠ b
/-- the block's context -/
abbrev cX (X : Cx) (s0 : Shared) (H0 : Hp) (bs : Scope) (cl : List (Str × Addr)) (C0 : Addr) (fp : List Addr) : Cx := X.blk s0 H0 bs (compEnvC bs cl C0 X.env) fp
section
variable {X : Cx}
theorem pe_lcV {elt tg iter : Expr} {bs : Scope} {own : List (Str × Nat)} {pos : Pos} {wi : TI} {g : TG} {te : L2.St → TE} (calm : X.calm = true) (nd : X.N.Nodup) (hi : PI X tg iter wi) (ok : BlkOk X.N X.env.scope bs own)
    (hg : ∀ (s0 : Shared) (H0 : Hp) (C0 : Addr) (cl : List (Str × Addr)) (fp : List Addr), PG (cX X s0 H0 bs cl C0 fp) tg g)
    (he : ∀ (pz : List (Addr × Obj)) (σo : L2.St) (s0 : Shared) (H0 : Hp) (C0 : Addr) (cl : List (Str × Addr)) (fp : List Addr), Inv X pz σo H0 s0 → CellsOff X fp → PE (cX X s0 H0 bs cl C0 fp) elt (te σo)) (hs : ∀ x, foldedSetIterable iter X.env x = pure x := by intro _; rfl) :
    PE X (.ListComp elt [⟨tg, iter, [], 0⟩] bs pos) (fun σ H Q => tLc wi g tYes (te σ) (own.map (·.2)) σ H Q) := by
  refine ⟨fun pz s σ H Q I h => ?_⟩
  rw [eval_ListComp]
  have free : ∀ y ∈ bs.names, y.2 = .free → ∃ c, X.env.cells.lookup y.1 = some c := fun y hy e => (ok.free y hy e).elim (fun k => I.ok.has _ (.inl k)) fun k => I.ok.has _ (.inr k)
  refine wpAny_comprehension_free (use := none) rfl hs (closure_ok free) ok.kind (fun y hy e => by rw [ok.uniq y hy, e]) (thn (hi.run pz s σ H _ I h) fun xv sa ha => thn ha fun itv sb hb => ?_)
  obtain ⟨it, fp, tn, J, Hb, e, Ib, T, stb, fb, q⟩ := hb
  subst e
  refine wpAny_newObj_type (newEnv_comp ?_) (by show 0 ≤ sizeLine; decide)
  generalize hM : sb.heap.objs.size = M
  have newM : Hb M = none := Ib.hok.fresh (Nat.le_of_eq hM)
  obtain ⟨W, ⟨m0, w0⟩, turn⟩ := q M newM
  generalize hsc : ({ sb with heap := sb.heap.push { cls := .type "list", data := .seq ([] : List Value).toArray } } : Shared) = sc
  have heapC : sc.heap = sb.heap.push { cls := .type "list", data := .seq ([] : List Value).toArray } := by rw [← hsc]
  have Ic : Inv X pz σ (upd Hb M (.lst [])) sc := by
    rw [← hsc]
    exact Ib.laid (t' := sb.toks) (fun b o e => Heap.get?_push_of_some _ e) (Nat.le_of_eq hM) ⟨Nat.zero_le _, [], 0, .nil, by rw [← hM]; exact Heap.get?_push_size _ rfl⟩
  have small : ∀ b ∈ fp, b < sb.heap.objs.size := fun b hb => by
    obtain ⟨o, e, _⟩ := T.obj _ _ stb b hb
    exact Heap.lt_size e
  have fc : ∀ b ∈ fp, FpOk X pz (upd Hb M (.lst [])) b ∧ b < sc.heap.objs.size := fun b hb => by
    have lt := small b hb
    refine ⟨⟨by rw [upd_ne (by rw [← hM]; exact Nat.ne_of_lt lt)]; exact (fb b hb).1, (fb b hb).2⟩, ?_⟩
    rw [heapC, Heap.size_push]
    exact Nat.lt_succ_of_lt lt
  have off : CellsOff X fp := fun b hb => (fc b hb).1.2.2.2.2.1
  have stc : tn 0 sc.heap := T.keep _ _ _ stb fun b _ o e => by rw [heapC]; exact Heap.get?_push_of_some _ e
  have Id := block_start Ic ok nd fc
  have none0 : ∀ b ∈ fp, (upd Hb M (.lst [])) b = none := fun b hb => (fc b hb).1.1
  generalize hH : upd Hb M (.lst []) = Hc at Ic Id w0 none0 fc
  show codeAny _ _ (.compStart (.ListComp elt [⟨tg, iter, [], 0⟩] bs pos) 0 (.ref it) (.ref M) (compEnvC bs (cellsFrom (sc.heap.objs.size + 1) bs.names (cloFrom X.env.cells bs.names [])) sc.heap.objs.size X.env)) (compPost (model X.prog X.w) X.A X.xe none (EP X pz σ Q) (.ref M) sc.heap.objs.size) { sc with heap := pushCells (sc.heap.push { cls := .type "dict", data := .dict #[] }) bs.names }
  generalize hcl : cellsFrom (sc.heap.objs.size + 1) bs.names (cloFrom X.env.cells bs.names []) = cl at Id ⊢
  have pg : PG (X.blk sc Hc bs (compEnvC bs cl sc.heap.objs.size X.env) fp) tg g := hg sc Hc sc.heap.objs.size cl fp
  have pe : PE (X.blk sc Hc bs (compEnvC bs cl sc.heap.objs.size X.env) fp) elt (te σ) := he pz σ sc Hc sc.heap.objs.size cl fp Ic off
  have cL : (compEnvC bs cl sc.heap.objs.size X.env).locals = sc.heap.objs.size := rfl
  generalize hce : compEnvC bs cl sc.heap.objs.size X.env = ce at Id pg pe cL ⊢
  generalize hsd : ({ sc with heap := pushCells (sc.heap.push { cls := .type "dict", data := .dict #[] }) bs.names } : Shared) = sd at Id ⊢
  have std : tn 0 sd.heap := T.keep _ _ _ stc fun b _ o e => by rw [← hsd]; exact pushCells_keeps _ _ _ _ (Heap.get?_push_of_some _ e)
  have stat : ∀ {σ' : L2.St} {H' : Hp} {s' : Shared}, Inv (X.blk sc Hc bs ce fp) [] σ' H' s' → (∀ b ∈ fp, H' b = none) → ∀ b ∈ fp, FpOk (X.blk sc Hc bs ce fp) [] H' b := fun {σ' H' s'} I' hn b hb =>
    ⟨hn b hb, (I'.ok.exf b hb).1, I'.ok.exfs b hb, .inl hb, fun x c e => (I'.ok.exf b hb).2 x c e, fun p hp => absurd (show p ∈ ([] : List (Addr × Obj)) ++ [] from hp) (by simp)⟩
  have loop : codeAny (model X.prog X.w) X.A (.compLoop (.ListComp elt [⟨tg, iter, [], 0⟩] bs pos) 0 (.ref it) (.ref M) ce) (compPost (model X.prog X.w) X.A X.xe none (EP X pz σ Q) (.ref M) sc.heap.objs.size) sd := by
    refine compLoop_any (fun n s' => ∃ i H', Inv (X.blk sc Hc bs ce fp) [] (wipe σ (own.map (·.2))) H' s' ∧ tn i s'.heap ∧ (∀ b ∈ fp, H' b = none) ∧ W i n H') ?_ m0 ⟨0, Hc, Id, std, none0, w0⟩
    rintro n se ⟨i, He, Ie, ste, ne, we⟩
    rcases turn i n He we with ⟨stop, qq⟩ | ⟨go, Nx, hNx, step⟩
    · refine thnF (T.done (X.blk sc Hc bs ce fp) rfl rfl rfl calm i [] se _ He (fun _ _ => False) Ie (stat Ie ne) ste stop) fun r sf ⟨hr, If⟩ => ?_
      subst hr
      have Ig : Inv X pz σ He sf := Ic.call' (ch := fp) If.os If.base If.hok If.bare fun b hb => ⟨(fc b hb).1.2.2.2.1, (fc b hb).1.2.1, (fc b hb).1.2.2.2.2.1, (fc b hb).1.2.2.2.2.2⟩
      have nC : He sc.heap.objs.size = none := by
        have z : He ce.locals = none := If.free
        rwa [cL] at z
      obtain ⟨m, hn, _⟩ := If.loc
      have hn : sf.heap.Ns ce.locals m := hn
      rw [cL] at hn
      obtain ⟨f0, f1, f2, f3, f4, f5⟩ := Ic.fpOk (Nat.le_refl _) nC
      exact ⟨m, hn, fun h'' sub => ⟨.ref M, He, Ig.turned (t' := sf.toks) (fun b o hb e => (sub.2 b hb).trans e) f0 f1 f3 f4 f5, rfl, qq⟩⟩
    · refine thnF (T.item (X.blk sc Hc bs ce fp) rfl rfl rfl calm i [] se _ He (fun _ _ => False) Ie (stat Ie ne) ste go) fun r sf ⟨u, hr, hf⟩ => ?_
      subst hr
      refine thnF hf fun _ sg ⟨x, Hg, Ig, rg, yg, stg, ng⟩ => ?_
      refine thnF (pg.run _ sg _ Hg x u _ (Ig.pinned (stat Ig ng) (T.obj _ _ stg)) rg (step x Hg yg)) fun _ sh ⟨σh, Hh, Ih, hwh, qh⟩ => ?_
      refine thnF ((pts_nil (X := X.blk sc Hc bs ce fp)).run _ sh σh Hh _ Ih qh) fun b si ⟨Hi, Ii, qi⟩ => ?_
      have fin : ∀ {s' : Shared} {H' : Hp}, Inv (X.blk sc Hc bs ce fp) ([] ++ pinsAt fp sg.heap) σh H' s' → Nx H' → ∃ m, m < n ∧ ∃ i H', Inv (X.blk sc Hc bs ce fp) [] (wipe σ (own.map (·.2))) H' s' ∧ tn i s'.heap ∧ (∀ b ∈ fp, H' b = none) ∧ W i m H' := fun {s' H'} I' nx => by
        obtain ⟨m', hm, w'⟩ := hNx H' nx
        have pin' : ∀ b ∈ fp, ∀ o, sg.heap.get? b = some o → s'.heap.get? b = some o ∧ H' b = none := fun b hb o e =>
          let z := I'.pin (b, o) (List.mem_append_right _ (List.mem_append_right _ (mem_pinsAt hb e)))
          ⟨z.1, z.2.1⟩
        have hl : (wipe σ (own.map (·.2))).length = σh.length := by rw [← hwh, wipe_length]
        refine ⟨m', hm, i + 1, H', (I'.unpinned (pins := [])).weak hl (fun j v e => ?_), T.keep _ _ _ stg fun b hb o e => (pin' b hb o e).1, fun b hb => ?_, w'⟩
        · rw [← hwh] at e
          exact (wipe_some e).1
        · obtain ⟨o, e, _⟩ := T.obj _ _ stg b hb
          exact (pin' b hb o e).2
      cases b with
      | false =>
        simp only [Bool.false_eq_true, if_false] at qi ⊢
        exact fin Ii qi
      | true =>
        simp only [if_true] at qi ⊢
        refine thnF (pe.run _ si σh Hi _ Ii qi) fun z sj ⟨yv, Hj, Ij, rj, acc, hMj, hzj, nx⟩ => ?_
        exact app_ok (X := X.blk sc Hc bs ce fp) Ij hMj hzj rj fun sk Ik => fin Ik nx
  exact codeAny_compStart_list loop (T.self X.A 0 _ _ _ std loop)
end
end FS
set_option maxHeartbeats 2000000
namespace FS
open PySem PySem.Spec PyProof.Rows L2 LamX
section
variable {X : Cx} {pins : List (Addr × Obj)} {σ : L2.St} {H : Hp} {s : Shared}
variable {HZ : Hp} {s1 : Shared}
theorem lam_startB {A : Around} {outer : List Env} {E : XK} {sc : Scope} {f c' : Addr} {h1 : Heap} {tk : Nat} {ch : List Addr} {mm : Str → Option Value} (I : Inv X pins σ H s) (L : LamS1 X.N X.env.scope sc) (e0 : Env0 X.prog X.w X.K X.mg X.base A outer s1 HZ) (hd : A.handled = none)
    (un : Un (frs X.stack) ch H HZ s.heap s1.heap) (off : CellsOff X ch) (hns : h1.Ns s1.heap.objs.size mm) (kp : ∀ d o, s1.heap.get? d = some o → h1.get? d = some o) : Inv (lamCx X A outer s1 HZ E sc f c') [] σ HZ { s1 with heap := h1, toks := tk } := by
  have hfree := L.has I.ok
  have cm : ∀ {y d}, (cloFrom X.env.cells sc.names []).lookup y = some d → X.env.cells.lookup y = some d := fun {y d} e => by
    rcases cloFrom_mem (PySem.mem_of_lookup e) with hm | ⟨g1, g2⟩
    · cases hm
    · obtain ⟨d1, hd1⟩ := hfree _ g1 rfl
      have hd2 : X.env.cells.lookup y = some d1 := hd1
      rw [show d = d1 by rw [g2, hd2] <;> rfl]
      exact hd2
  have noch : ∀ {y d}, (cloFrom X.env.cells sc.names []).lookup y = some d → d ∉ ch := fun {y d} e z => off d z y d (cm e) rfl
  have look : ∀ {y}, sc.names.lookup y = some .free → ∃ d, (cloFrom X.env.cells sc.names []).lookup y = some d := fun {y} hl => mem_lookup (cloFrom_has (cells := X.env.cells) (acc := []) (show (y, NameKind.free) ∈ sc.names from PySem.mem_of_lookup hl))
  have cellK : ∀ {d : Addr} {v : Option Value}, d ∉ ch → H d = none → s.heap.IsCell d v → h1.IsCell d v := fun {d v} nc n z => by
    obtain ⟨o, ho, hv⟩ := z
    obtain ⟨sl, q⟩ := un.any ho n nc
    exact ⟨_, kp _ _ q, hv⟩
  have noA : ∀ d : Addr, d ∉ (lamCx X A outer s1 HZ E sc f c').ex := fun d z => by cases (show d ∈ ([] : List Addr) from z)
  have ok : (lamCx X A outer s1 HZ E sc f c').Ok := {
    mod := e0.mod, kind := L.kind, glob := rfl, blt := rfl, above := Nat.le_refl _
    inj := fun y z d e1 e2 => I.ok.inj y z d (cm e1) (cm e2)
    has := fun y hy => by
      rcases (show sc.names.lookup y = some .cell ∨ sc.names.lookup y = some .free from hy) with hy | hy
      · exact absurd rfl (L.own _ (PySem.mem_of_lookup hy)).1
      · exact look hy
    cab := fun y d z _ => by cases (show false = true from z)
    hd := fun _ => hd, frames := Around.frames_deeper e0.frames, stk := .inr ⟨rfl, rfl⟩
    exf := fun d z => absurd z (noA d), bs := e0.bs, bsz := e0.bsz, noex := fun d _ _ => noA d, exfs := fun d z => absurd z (noA d), funs := e0.funs, frf := e0.frf }
  refine { ok := ok, os := rfl, bare := e0.bare, base := Un.kept kp, loc := ⟨_, hns, fun i y v e1 e2 e3 => ?_⟩, cell := fun y d e => ?_, free := e0.hok.fresh (Nat.le_refl _), freeC := fun y d e => ?_, pin := fun q hq => absurd (show q ∈ ([] : List (Addr × Obj)) ++ [] from hq) (by simp), hok := e0.hok.kept kp, len := I.len }
  · rcases (show Vis sc y from e3) with k | k | k
    · exact absurd (List.mem_of_getElem? (show X.N[i]? = some y from e1)) ((L.own _ (PySem.mem_of_lookup k)).2 rfl)
    · exact absurd rfl (L.own _ (PySem.mem_of_lookup k)).1
    · obtain ⟨m0, hn0, hl0⟩ := I.loc
      have fr := L.free _ (PySem.mem_of_lookup k) rfl
      have hvis : Vis X.env.scope y := fr.elim (fun z => .inr (.inl z)) fun z => .inr (.inr z)
      obtain ⟨u, r, q⟩ := hl0 i y v e1 e2 hvis
      obtain ⟨d2, g2⟩ := look k
      refine ⟨u, r, .inr ⟨.inr k, d2, g2, ?_⟩⟩
      have d1 := cm g2
      rcases q with ⟨k', _⟩ | ⟨_, d3, e', z⟩
      · have k2 : X.env.scope.names.lookup y = some .local := k'
        rcases fr with z | z
        · cases (show some NameKind.local = some .cell from k2.symm.trans z)
        · cases (show some NameKind.local = some .free from k2.symm.trans z)
      · rw [d1] at e'
        cases e'
        exact cellK (noch g2) (I.freeC y _ d1) z
  · obtain ⟨u, z⟩ := I.cell y d (cm e)
    exact ⟨u, cellK (noch e) (I.freeC y d (cm e)) z⟩
  · obtain ⟨v, o, ho, hv⟩ := I.cell y d (cm e)
    exact un.free d o ho (I.freeC y d (cm e)) (noch e)
theorem pe_actB {CXg : CXT} {Eg : XK} {Ng : List Str} {qg : Str} {sg : Scope} {g f c' : Addr} {cdg : Value} {ps : Arguments} {b : Expr} {sc : Scope} {df : Option Int} {k i : Nat} {a : Str} {pn : List (Addr × Obj)} {xe : Value → Shared → Prop} {W : WX} {E : XK} {tb : TE} {p1 p2 : Pos} {sB : Shared} {HB : Hp} {ch : List Addr}
    (I : Inv X pins σ H s) (UB : Un (frs X.stack) ch H HB s.heap sB.heap) (off : CellsOff X ch) (L : LamS1 X.N X.env.scope sc) (hbind : LamBind ps b sc df) (tk : Takes ((cxOf CXg X.prog X.w X.K X.mg X.base Ng qg sg g cdg X.A X.stack sB HB Eg).tr pn xe) W) (hW : ∀ cls d σ' H', E cls d H' → W cls d σ' H') (hr : Room (k + 1) (X.A.deeper (envOfC qg sg sB.heap.objs.size g cdg)))
    (hbody : ∀ (A : Around) (outer : List Env) (s : Shared) (H : Hp), Room k (A.deeper (lamEnv X sc s.heap.objs.size f c')) → PE (lamCx X A outer s H E sc f c') b tb) (hN : Ng[i]? = some a) (hv : Vis sg a) (hd : (a == ("__debug__" : Str)) = false := by decide) (hcd : (a == ("__classdict__" : Str)) = false := by decide) :
    PE ((cxOf CXg X.prog X.w X.K X.mg X.base Ng qg sg g cdg X.A X.stack sB HB Eg).tr pn xe) (.Call (.Name a p1) [] [] p2) (fun σ0 H0 R => σ0[i]? = some (some (.ref f)) ∧ LamAt X ps b sc df H0 f c' ∧ tb σ H0 R) := by
  refine ⟨fun pz sZ σ0 H0 R IZ ⟨hs, hat, ht⟩ => ?_⟩
  refine wpAny_Call_Name_kw (thn ((pe_var (pos := p1) (i := i) hN hv hd hcd).run pz sZ σ0 H0 (fun v H1 => v = .ref f ∧ H1 = H0) IZ ⟨.ref f, hs, rfl, rfl⟩) fun u s1 ⟨v, H1, I1, r1, ev, eH⟩ => ?_)
  subst ev
  subst eH
  obtain rfl : u = Value.ref f := r1
  obtain ⟨hc, doc, pm, ct, hdf⟩ := hat
  obtain ⟨⟨oc, vs, t, hoc, hdc, hvc⟩, _, _⟩ := I1.hok c' _ hc
  have un1 : Un (frs X.stack) [] HB H1 sB.heap s1.heap := I1.base
  have un : Un (frs X.stack) ch H H1 s.heap s1.heap := UB.trans (un1.mono (by simp) (by simp))
  have go : ∀ (dV : Value), s1.heap.get? f = some (lamObj X ps b sc dV doc pm ct c') → (∀ (M : Model) (A : Around) (E' : Value → Shared → Prop) (Q' : List (Str × Value) → Shared → Prop), (∀ bs, (∀ y ∈ bs, sc.names.lookup y.1 = some .local) → Q' bs s1) → wpAny M A (bindArgs (PySem.W.kdv_fn "<lambda>" (X.env.qual ++ "<lambda>") ps (.expr b) sc (cloFrom X.env.cells sc.names []) dV doc pm (.ref c') ct) ⟨[], []⟩) Q' E' s1) →
      codeAny (model X.prog X.w) (X.A.deeper (envOfC qg sg sB.heap.objs.size g cdg)) (.call (.ref f) ⟨[], []⟩) (CR (L2.CX X.prog X.w) (envOfC qg sg sB.heap.objs.size g cdg :: X.stack) X.prog X.w H1 s1 R E) s1 := fun dV hf hb => by
    refine PySem.W.kla_callFunE hr.depth hf rfl L.co L.gen rfl ⟨c', oc, vs, t, rfl, hoc, hdc, hvc⟩ (hb _ _ _ _ fun bs hbs => ?_)
    refine wpAny_newFunctionEnv (fun y hy => (L.own y hy).1) hbs (fun h1 hns hsb => ⟨I1.nolimit.fresh _ hsb, ?_⟩) L.kind
    have kp : ∀ d o, s1.heap.get? d = some o → h1.get? d = some o := fun d o e => hsb.extBut d o (Nat.ne_of_lt (Heap.lt_size e)) (Heap.get?_push_of_some _ e)
    have J := lam_startB (tk := s1.toks + bs.length) (E := E) (f := f) (c' := c') I L I1.env0 hr.hd un off hns kp
    refine PySem.W.kla_codeExpr (wpAny_mono ((hbody _ _ s1 H1 (hr.deeper _)).run [] _ _ H1 R J ht) (fun v s' ⟨v', H', J', rv, q⟩ => ?_) fun e s' hq => hq)
    exact ⟨v', H', J'.os, J'.bare, J'.base, J'.hok, rv, q⟩
  have rc : PySem.W.FnAt f s1.heap ∧ codeAny (model X.prog X.w) (X.A.deeper (envOfC qg sg sB.heap.objs.size g cdg)) (.call (.ref f) ⟨[], []⟩) (CR (L2.CX X.prog X.w) (envOfC qg sg sB.heap.objs.size g cdg :: X.stack) X.prog X.w H1 s1 R E) s1 := by
    cases df with
    | none =>
      obtain ⟨hf, _, _⟩ := I1.hok f _ hdf
      refine ⟨⟨_, _, _, _, hf⟩, go _ hf fun M A E' Q' q => ?_⟩
      rw [hbind]
      exact wpAny_pure (q [] fun y hy => by cases hy)
    | some n =>
      obtain ⟨T, hT, hdf⟩ := hdf
      obtain ⟨hf, _, _⟩ := I1.hok f _ hdf
      obtain ⟨_, its, hv', hIT⟩ := I1.hok T _ hT
      refine ⟨⟨_, _, _, _, hf⟩, go _ hf fun M A E' Q' q => ?_⟩
      obtain ⟨x0, hx0, hb⟩ := hbind
      cases hv' with
      | @cons _ w0 _ _ r0 rs =>
      cases rs
      obtain ⟨r, b1, b2⟩ := hb (X.env.qual ++ "<lambda>") (cloFrom X.env.cells sc.names []) T doc pm (.ref c') ct w0
      obtain ⟨o, ho, _, nn, hdat⟩ := hIT
      refine (BindsTo.of_defaults (T := T) (items := #[w0]) (n := nn) rfl ho hdat b1 b2) M A E' Q' (q _ fun y hy => ?_)
      rw [List.mem_singleton.mp hy]
      exact hx0
  refine PySem.W.callWith_F0 rc.1 (wpAny_call (codeAny_mono rc.2 fun r s' hq => ?_))
  have hx : Passes (L2.CX X.prog X.w) ((cxOf CXg X.prog X.w X.K X.mg X.base Ng qg sg g cdg X.A X.stack sB HB Eg).tr pn xe) E := passes_call tk hW
  cases r with
  | error e => exact hx pz σ0 H1 s1 e s' I1 hq
  | ok fl => cases fl with
    | ret u => exact I1.after hq
    | next => exact False.elim hq
    | brk => exact False.elim hq
    | cont => exact False.elim hq
/-- .. the lambda's names read with the slots σo that the outer context had when the block began -/
def tGiveO (X : Cx) (σo : L2.St) (k : Nat) (te : TE) (TT : (XK → Hp → VK → Prop) → Hp → VK → Prop) : TE := fun σ H Q => te σ H fun v H1 => ∃ (l : LamK X k) (f c' : Addr), v = .ref f ∧ LamAt X l.ps l.b l.sc l.df H1 f c' ∧ TT (fun E H' Q' => l.t E σo H' Q') H1 Q
theorem pe_giveB {X : Cx} {TT : (XK → Hp → VK → Prop) → Hp → VK → Prop} {x a : Str} {g : Addr} {k : Nat} {pg : Arguments} {bg : List Stmt} {sg : Scope} {dV kV doc pm cdv ct oc : Value} {an od : Option Addr} {osl : Array (Option Value)} {Ng : List Str} {e : Expr} {te : TE} {p pos : Pos}
    {s0 : Shared} {H0 : Hp} {bs : Scope} {cl : List (Str × Addr)} {C0 : Addr} {fp : List Addr} {pins0 : List (Addr × Obj)} {σo : L2.St} (I0 : Inv X pins0 σo H0 s0) (off : CellsOff X fp)
    (hg : Gl (cX X s0 H0 bs cl C0 fp) x) (hm : X.mg x = some (.ref g)) (hk : PySem.W.keepIn X.K (.ref g) = true) (lk : X.K.lookup g = some ⟨oc, od, .func (PySem.W.fnOf x x pg bg sg dV kV doc pm an cdv ct), osl⟩) (hcg : PySem.W.codeIn X.K cdv x = true) (hb : L2.Binds X.K (PySem.W.fnOf x x pg bg sg dV kV doc pm an cdv ct) [a] []) (Sg : FnScope Ng [a] sg) (hNg : Ng[0]? = some a) (hva : Vis sg a)
    (hG : GivesQ X Ng x sg g cdv bg a TT) (hr : Room (k + 2) X.A) (he : PE (cX X s0 H0 bs cl C0 fp) e te) (hst : starEach [e] (cX X s0 H0 bs cl C0 fp).env = (false, eval e (cX X s0 H0 bs cl C0 fp).env) :: starEach [] (cX X s0 H0 bs cl C0 fp).env := by rfl) (hpl : (backTo pos (starEach [] (cX X s0 H0 bs cl C0 fp).env)).any (·.1) = false := by rfl)
    (hdb : (x == ("__debug__" : Str)) = false := by decide) (hd : (a == ("__debug__" : Str)) = false := by decide) (hcd : (a == ("__classdict__" : Str)) = false := by decide) : PE (cX X s0 H0 bs cl C0 fp) (.Call (.Name x p) [e] [] pos) (tGiveO X σo k te TT) := by
  refine ⟨fun pins s σ H Q I h => ?_⟩
  refine wpAny_Call_Name_kw (ld_glob I hg hm (PySem.W.callWith_K (h₀ := X.base) I.ok.mod.kin hk ?_ hst hpl) hdb)
  rw [hst]
  show wpAny _ _ (spliced ((false, eval e (cX X s0 H0 bs cl C0 fp).env) :: backTo pos (starEach [] (cX X s0 H0 bs cl C0 fp).env))) _ _ s
  refine Calls.spliced_cons (thn (he.run pins s σ H _ I h) fun u s1 ⟨v, H1, I1, r1, l, f, c', ev, hat, hq⟩ => Calls.spliced_nil ⟨I1.kIn, ?_⟩)
  subst ev
  obtain rfl : u = Value.ref f := r1
  have UB : Un (frs X.stack) fp H0 H1 s0.heap s1.heap := I1.base
  have rc : codeAny (model X.prog X.w) X.A (.call (.ref g) ⟨[.ref f], []⟩) (CR C8.CX0 X.stack X.prog X.w H1 s1 Q C8.E0) s1 := by
    refine run_ofS (N := Ng) (ps := [a]) (us := [.ref f]) (vs := [.ref f]) lk hcg Sg hr I1.env0 (hb s1 [.ref f] I1.kIn rfl) (.cons rfl .nil) rfl fun hr' => ?_
    obtain ⟨t', ht', hq'⟩ := hG f (fun H0 => LamAt X l.ps l.b l.sc l.df H0 f c') s1 H1 Q (fun E H' Q' => l.t E σo H' Q') (fun W pn xe E p1 p2 tk hW => pe_actB (i := 0) I0 UB off l.L l.bind tk hW hr' (fun A outer s H hr2 => l.body A outer s H E f c' hr2) hNg hva hd hcd) hat hq
    exact ⟨t', ht'.nox, hq'⟩
  refine wpAny_call (codeAny_mono rc fun r s2 hq => ?_)
  cases r with
  | error e => exact (show False from hq).elim
  | ok fl => cases fl with
    | ret u => exact I1.after hq
    | next => exact False.elim hq
    | brk => exact False.elim hq
    | cont => exact False.elim hq
end
end FS
set_option maxHeartbeats 2000000
namespace FS
open PySem PySem.Spec PyProof.Rows L2
section
variable {X : Cx} {CX : CXT} {k n : Nat} {C p g : Addr} {mc : Value} {fd : FuncData} {ps ks : List Str} {sp : Sp} {E : XK} {o e : Expr} {es : List Expr} {kws : List Keyword} {m : Str} {pos apos : Pos} {ta : TE} {t tk : TA} {pl : Sem Bool} {gB : List Value → List Value → List Value} {gV : List V → List V → List V}
def tCMethK (C : Addr) (n m : Nat) (sp : Sp) (gV : List V → List V → List V) (E : XK) (ta : TE) (t tk : TA) : TE := fun σ H Q => ta σ H fun x H1 => x = .ref C ∧ t σ H1 fun vs H2 => tk σ H2 fun zs H3 => vs.length = n ∧ zs.length = m ∧ sp (gV (.ref C :: vs) zs) H3 Q E
theorem pe_cmethK (he : PE X o ta) (r : ClX.CRead X.K C mc) (c : ClX.CMet X.K C mc m p g) (F : FnOk X.prog X.w X.K X.mg X.base CX k g fd ps sp) (hb : KBn X.K fd ps (n + 1) ks gB gV) (hr : Room k X.A) (hx : Passes CX X E) (ha : PA X (e :: es) t) (hkw : PK X kws tk)
    (hall : (backToKw pos (keywordEach kws X.env)).all (·.1.isSome) = true := by rfl) (hks : (backToKw pos (keywordEach kws X.env)).filterMap (·.1) = ks := by rfl)
    (hst : starEach (e :: es) X.env = (false, eval e X.env) :: starEach es X.env := by rfl) (hpl : ((backTo pos (starEach (e :: es) X.env)).any (·.1) || (backToKw pos (keywordEach kws X.env)).any (·.1.isNone)) = false := by rfl)
    (ht : eval (.Call (.Attribute o m apos) (e :: es) kws pos) X.env = (do
      let ov ← eval o X.env
      standAt apos.atName
      let (f, first) ← holding [ov] (getMethod ov m pl)
      callWith pos f first (backTo pos (starEach (e :: es) X.env)) (backToKw pos (keywordEach kws X.env))) := by rfl) :
    PE X (.Call (.Attribute o m apos) (e :: es) kws pos) (tCMethK C n ks.length sp gV E ta t tk) := by
  refine ⟨fun pins s σ H Q I h => ?_⟩
  refine PySem.W.methodCall_KW (pl := pl) (thn (he.run pins s σ H _ I h) fun u s1 ⟨x, H1, I1, rx, ex, q⟩ => ?_) ht
  subst ex
  obtain rfl : u = Value.ref C := rx
  refine ClX.getmethcm_ok I1 r c fun s2 I2 => ?_
  refine PySem.W.callWith_of (P := PySem.W.MethP X.K s1.heap.objs.size g (.ref C)) hpl (PySem.W.keeps_M c.fi) (evalArgs_kw2 hall (thn (ha.run pos _ s2 σ H1 _ I2 q) fun us s3 ⟨vs, H2, I3, rv, q2⟩ => ?_) hst)
  refine thn (hkw.run pos _ s3 σ H2 _ I3 q2) fun ws s4 ⟨zs, H3, I4, rz, l1, l2, q3⟩ => ⟨⟨ClX.pin_at I4, I4.kIn⟩, ?_⟩
  rw [hks]
  have r1 : Vals (V.ref C :: vs) (Value.ref C :: us) := .cons rfl rv
  have n1 : (Value.ref C :: us).length = n + 1 := by rw [List.length_cons, ← rv.length, l1]
  refine wpAny_call (PySem.W.method_call (ClX.pin_at I4) (codeAny_mono (F.run X.A X.stack s4 H3 ⟨Value.ref C :: us, ks.zip ws⟩ _ _ Q E hr I4.env0 (hb.to s4 (Value.ref C :: us) ws I4.kIn n1 (rz.length.symm.trans l2)) (hb.rel r1 rz) q3) fun r' s' hq => ?_))
  cases r' with
  | error e' => exact hx _ σ H3 s4 e' s' I4 hq
  | ok fl =>
    cases fl with
    | ret u => exact ClX.unpinE (I4.after hq)
    | next => exact False.elim hq
    | brk => exact False.elim hq
    | cont => exact False.elim hq
end
end FS
set_option maxHeartbeats 400000
namespace FS
open PySem PySem.Spec PyProof.Rows L2
/-- one step of a reading -/
local macro_rules | `(tactic| walk_at "rd") => `(tactic| first
  | ((with_reducible refine r_var (v := ?v) ?h ?_); (case h => rfl))
  | (with_reducible refine r_c ?_)
  | (with_reducible refine r_op ?_)
  | (with_reducible refine r_cons ?_)
  | (with_reducible refine r_nil ?_)
  | (with_reducible refine r_I0 ?_)
  | (with_reducible refine r_test ?_)
  | (with_reducible refine r_bl ?_)
  | (with_reducible refine r_tB ?_)
  | (with_reducible refine r_chain ?_)
  | (with_reducible refine iteT ?_)
  | (with_reducible refine iteF ?_)
  | (with_reducible refine r_nf ?_)
  | (with_reducible refine r_nt ?_)
  | (with_reducible refine r_not ?_)
  | (with_reducible refine r_and ?_)
  | (with_reducible refine r_or ?_)
  | (with_reducible refine r_notV ?_)
  | (with_reducible refine r_andV ?_)
  | (with_reducible refine r_orV ?_)
  | (with_reducible refine r_ifE ?_)
  | (with_reducible refine r_seq ?_)
  | (with_reducible refine r_asg ?_)
  | (with_reducible refine r_gN ?_)
  | (with_reducible refine r_ifS ?_)
  | (with_reducible refine r_ret ?_)
  | (with_reducible refine r_drop ?_)
  | (with_reducible refine r_retN ?_)
  | (with_reducible refine r_next ?_)
  | (with_reducible refine r_cb ?_)
  | (with_reducible refine r_call ?_)
  | (with_reducible refine r_lst ?_)
  | (with_reducible refine r_tup ?_)
  | (with_reducible refine r_fld ?_)
  | (with_reducible refine r_gsub ?_)
  | (with_reducible refine r_make ?_)
  | (with_reducible refine r_sl ?_)
  | (with_reducible refine r_part ?_)
  | (with_reducible refine r_nopart ?_)
  | (with_reducible refine r_isInt ?_)
  | (with_reducible refine r_tm ?_)
  | (with_reducible refine r_bm ?_)
  | (with_reducible refine r_int1 ?_)
  | (with_reducible refine r_intB ?_)
  | (dsimp only))
section
variable {P : Program} {w : World} {K : PySem.W.Frag} {mg : Str → Option Value} {base : Heap}
theorem kit_in {n m : String} (h : n ∈ ["NoneType", "bool", "int", "str", "tuple", "list"]) (hm : m ∈ ["bool", "int", "str", "tuple", "list"]) : kitB n m = some (n == m || (n == "bool" && m == "int")) := by
  have key : ∀ n ∈ ["NoneType", "bool", "int", "str", "tuple", "list"], ∀ m ∈ ["bool", "int", "str", "tuple", "list"], kitB n m = some (n == m || (n == "bool" && m == "int")) := by decide +kernel
  exact key n h m hm
theorem r_isi {K : PySem.W.Frag} {H : Hp} {Q : VK} {v : V} {n m : String} (h : Kd K H v n) (hm : m ∈ ["bool", "int", "str", "tuple", "list"]) (q : Q (.bl (n == m || (n == "bool" && m == "int"))) H) : rIsi K [v, .ty m] H Q :=
  ⟨v, .ty m, .type n, .type m, _, rfl, .ty m, h.2, kit_ty (kit_in h.1 hm), q⟩
def spTaken (K : PySem.W.Frag) (G : List Addr) (L : List (Addr × Str)) : Sp := fun vs H Q _ => ∃ (ρ : Rid) (m : Int), vs = [.ref ρ.r, .int m] ∧ Row K H ρ ∧ 0 < m ∧ m < 1000000 ∧
  ∀ (v : Int) (H' : Hp), 0 ≤ v → v < m → GoR G L ρ.r H H' → Row K H' ρ → Q (.int v) H'
theorem at_ints {ns : List Int} {i : Int} (h0 : 0 ≤ i) (h1 : i < ns.length) : ∃ z, atI (ns.map V.int) i = some (.int z) := by
  obtain ⟨j, rfl⟩ := Int.eq_ofNat_of_zero_le h0
  have hj : j < ns.length := by omega
  exact ⟨ns[j], atI_nat (by rw [List.getElem?_map, List.getElem?_eq_getElem hj]; rfl)⟩
end
theorem c_lenS {X : Cx} : CallR X (.builtin "len") cLenS := call_len_str
theorem r_lenS {H : Hp} {Q : VK} {z : Str} (h : z.length ≤ sizeLine) (q : Q (.int z.length) H) : cLenS [.str z] H Q := ⟨z, rfl, h, q⟩
section
variable {P : Program} {w : World} {K : PySem.W.Frag} {mg : Str → Option Value} {base : Heap} {G : List Addr} {L : List (Addr × Str)}
def spIsName (K : PySem.W.Frag) (G : List Addr) (L : List (Addr × Str)) : Sp := fun vs H Q _ => ∃ v d, vs = [v] ∧ Dp K H v d ∧ smallS d ∧ TBS G L H ∧ ∀ H', Go G L H H' → Q (.bl (nameOk d)) H'
theorem scIsName : FnScope ["value"] ["value"] (defScope sIsName) := C8.fnScope_by (by decide +kernel)
theorem ok_isName {f c Pn : Addr} {fd : FuncData} {tz t8 : Tok} (F : Fun K "is_name" "is_name" sIsName f fd) (hc : fd.code = .ref c) (TB : GxR.TabB base mg c Pn) (hP : Pn ∈ G) (AP : Apart G L) (zI : mg "isinstance" = none) (z1 : mg "str" = none) (zL : mg "len" = none) (zA : mg "all" = none)
    (gL : mg "LETTERS" = some (.str letters tz)) (g8 : mg "MOST_LETTERS" = some (.int 8 t8)) : FnOk P w K mg base CX0 1 f fd ["value"] (spIsName K G L) := by
  obtain ⟨oc, od, kV, doc, pm, an, cdv, ct, osl, efd, lk, hcd⟩ := F.ex
  subst efd
  have ec : cdv = .ref c := hc
  subst ec
  refine fn_of lk hcd scIsName (fun vs H Q E h => ?_) (fun A outer s H vs Q E hr h => ?_)
  · obtain ⟨v, d, e, _⟩ := h
    rw [e]
    rfl
  · obtain ⟨v, d, e, hd, hs, ht, q⟩ := h
    subst e
    refine ⟨_, PSs.nox (pss_cons (ps_if (PW.pt (pw_or (pt_not (pt_val (pe_callB call_isi rfl zI boot_isinstance (pa_cons (pv 0) (pa_cons (pe_bltn (v := .ty "str") rfl z1 boot_str rfl) pa_nil)))))
        (pw_or1 (pt_not (pt_chain op_le op_le pe_int (pe_callB c_lenS rfl zL boot_len (pa_cons (pv 0) pa_nil)) (pe_glob (v := .int 8) rfl g8 ⟨_, rfl⟩))))))
        (pss_one (ps_ret pe_bl)) pss_nil)
      (pss_one (ps_ret (pe_allG (c := c) (P := Pn) (pb := fun c => decide (c ∈ letters.cps.toList)) hr rfl zA (by decide +kernel) TB rfl ⟨rfl, rfl, by decide +kernel, rfl, rfl, fun y hy e => absurd e (by revert y; decide +kernel)⟩ (pv 0) (eltG_in rfl rfl rfl gL) (fun _ => rfl))))), ?_⟩
    repeat walk_at "rd"
    refine r_isi (m := "str") (Dp.kd hd) (by decide) ?_
    repeat walk_at "rd"
    by_cases hz : ∃ z, d = .str z
    · obtain ⟨z, rfl⟩ := hz
      cases hd
      refine r_if (fun cc => absurd cc (by simp [tyOf])) (fun _ => ?_)
      repeat walk_at "rd"
      refine r_lenS hs ?_
      repeat walk_at "rd"
      refine r_if (fun c1 => ?_) (fun c1 => ?_)
      · repeat walk_at "rd"
        refine r_if (fun c2 => ?_) (fun c2 => ?_)
        · repeat walk_at "rd"
          have e : nameOk (.str z) = false := by
            have c3 : decide ((z.length : Int) ≤ 8) = false := by simpa using c2
            show (decide (1 ≤ (z.length : Int)) && decide ((z.length : Int) ≤ 8) && _) = false
            rw [c3]
            simp
          have q0 := q H (Go.refl H)
          rw [e] at q0
          exact q0
        · repeat walk_at "rd"
          refine r_var (v := .str z) rfl ⟨z, rfl, ht.1 Pn hP, fun H2 hT => ?_⟩
          have e : nameOk (.str z) = z.cps.toList.all fun c => decide (c ∈ letters.cps.toList) := by
            have c3 : decide ((z.length : Int) ≤ 8) = true := by simpa using c2
            show (decide (1 ≤ (z.length : Int)) && decide ((z.length : Int) ≤ 8) && _) = _
            rw [c3, c1]
            rfl
          have q0 := q H2 (Go.tabbed AP hP ht hT)
          rw [e] at q0
          exact q0
      · repeat walk_at "rd"
        have e : nameOk (.str z) = false := by
          show (decide (1 ≤ (z.length : Int)) && decide ((z.length : Int) ≤ 8) && _) = false
          rw [c1]
          rfl
        have q0 := q H (Go.refl H)
        rw [e] at q0
        exact q0
    · have e1 : (!(tyOf d == "str" || tyOf d == "bool" && "str" == "int")) = true := by
        cases d <;> first | rfl | exact absurd ⟨_, rfl⟩ hz
      have e2 : nameOk d = false := by
        cases d <;> first | rfl | exact absurd ⟨_, rfl⟩ hz
      rw [if_pos e1]
      repeat walk_at "rd"
      have q0 := q H (Go.refl H)
      rw [e2] at q0
      exact q0
end
theorem r_inT {K : PySem.W.Frag} {H : Hp} {Q : VK} {x y : V} {d : PyData} {ds : List PyData} (h1 : Dp K H x d) (h2 : Dp K H y (.tuple ds)) (s1 : lv 8 d = true) (s2 : lv 8 (.tuple ds) = true) (q : Q (.bl (inD d ds)) H) : rInT K id x y H Q :=
  ⟨d, ds, h1, h2, shaped_of s1, shaped_of s2, q⟩
theorem r_ninT {K : PySem.W.Frag} {H : Hp} {Q : VK} {x y : V} {d : PyData} {ds : List PyData} (h1 : Dp K H x d) (h2 : Dp K H y (.tuple ds)) (s1 : lv 8 d = true) (s2 : lv 8 (.tuple ds) = true) (q : Q (.bl (!inD d ds)) H) : rInT K not x y H Q :=
  ⟨d, ds, h1, h2, shaped_of s1, shaped_of s2, q⟩
theorem lv_mem {n : Nat} {ds : List PyData} (h : lv (n + 1) (.tuple ds) = true) : ∀ d ∈ ds, lv n d = true := by
  have h' : ds.all (lv n) = true := by simpa only [lv] using h
  exact List.all_eq_true.mp h'
theorem lv_tup {n : Nat} {ds : List PyData} (h : ∀ d ∈ ds, lv n d = true) : lv (n + 1) (.tuple ds) = true := by
  have h' : ds.all (lv n) = true := List.all_eq_true.mpr h
  simpa only [lv] using h'
theorem lv_succ : ∀ {n : Nat} {d : PyData}, lv n d = true → lv (n + 1) d = true
  | _, .none, _ => by simp [lv]
  | _, .bool _, _ => by simp [lv]
  | _, .int _, _ => by simp [lv]
  | n, .str z, h => by cases n <;> simpa [lv] using h
  | n + 1, .tuple ds, h => lv_tup fun d hd => lv_succ (lv_mem h d hd)
  | n + 1, .list ds, h => by
    have h' : ds.all (lv n) = true := by simpa only [lv] using h
    have g : ds.all (lv (n + 1)) = true := List.all_eq_true.mpr fun d hd => lv_succ (List.all_eq_true.mp h' d hd)
    simpa only [lv] using g
  | 0, .tuple ds, h => by simp [lv] at h
  | 0, .list ds, h => by simp [lv] at h
  | 0, .dict ds, h => by simp [lv] at h
  | n + 1, .dict ds, h => by simp [lv] at h
section
variable {P : Program} {w : World} {K : PySem.W.Frag} {mg : Str → Option Value} {base : Heap} {G : List Addr} {L : List (Addr × Str)}
theorem three_of {K : PySem.W.Frag} {H : Hp} : ∀ {xs : List V} {ds : List PyData}, DpAll K H xs ds → xs.length = 3 → ∃ x y z dx dy dz, xs = [x, y, z] ∧ ds = [dx, dy, dz] ∧ Dp K H x dx ∧ Dp K H y dy ∧ Dp K H z dz
  | [x, y, z], _, .cons hx (.cons hy (.cons hz .nil)), _ => ⟨x, y, z, _, _, _, rfl, rfl, hx, hy, hz⟩
theorem u65 {k : Nat} {A : Around} (r : Room k A) : A.units + 65 < cLine := by
  have z := r.un
  omega
def spIsClause (K : PySem.W.Frag) : Sp := fun vs H Q _ => ∃ nv v nd d, vs = [nv, v] ∧ Dp K H nv (.tuple nd) ∧ Dp K H v d ∧ lv 8 (.tuple nd) = true ∧ lv 7 d = true ∧ Q (.bl (clauseOk nd d)) H
theorem scIsClause : FnScope ["names", "value"] ["names", "value"] (defScope sIsClause) := C8.fnScope_by (by decide +kernel)
theorem ok_isClause {f aW : Addr} {fd : FuncData} (F : Fun K "is_clause" "is_clause" sIsClause f fd) (zI : mg "isinstance" = none) (z1 : mg "tuple" = none) (zL : mg "len" = none)
    (gW : mg "WORDS" = some (.ref aW)) (hW : ∀ H, SqT K H aW [.str "needs", .str "excludes", .str "either"]) : FnOk P w K mg base CX0 1 f fd ["names", "value"] (spIsClause K) := by
  refine F.ok scIsClause (fun vs H Q E h => ?_) (fun cdv A outer s H vs Q E hr h => ?_)
  · obtain ⟨nv, v, nd, d, e, _⟩ := h
    rw [e]
    rfl
  · obtain ⟨nv, v, nd, d, e, hn, hd, l1, l2, q⟩ := h
    subst e
    have hu := u65 hr
    refine ⟨_, pss_cons (ps_if (PW.pt (pw_or (pt_not (pt_val (pe_callB call_isi rfl zI boot_isinstance (pa_cons (pv 1) (pa_cons (pe_bltn (v := .ty "tuple") rfl z1 boot_tuple rfl) pa_nil)))))
        (pw_or1 (pt_cmpR op_ne (pe_callB c_len rfl zL boot_len (pa_cons (pv 1) pa_nil)) pe_int (nomark _)))))
        (pss_one (ps_ret pe_bl)) pss_nil)
      (pss_one (ps_ret (pe_and (pe_cmpR (op_inT hu) (pe_ix ix_tup (pv 1) pe_int (fun _ _ => rfl)) (pe_glob (v := .ref aW) rfl gW rfl) rfl)
        (pe_and (pe_cmpR (op_inT hu) (pe_ix ix_tup (pv 1) pe_int (fun _ _ => rfl)) (pv 0) rfl)
        (pe_one (pe_cmpR (op_inT hu) (pe_ix ix_tup (pv 1) pe_int (fun _ _ => rfl)) (pv 0) rfl)))))), ?_⟩
    repeat walk_at "rd"
    refine r_isi (m := "tuple") (Dp.kd hd) (by decide) ?_
    repeat walk_at "rd"
    by_cases hz : ∃ ds, d = .tuple ds
    · obtain ⟨ds, rfl⟩ := hz
      cases hd with
      | @tup a xs _ ha hxs =>
        refine r_if (fun cc => absurd cc (by simp [tyOf])) (fun _ => ?_)
        repeat walk_at "rd"
        refine r_lenT ha ?_
        repeat walk_at "rd"
        refine r_ne rfl ?_
        repeat walk_at "rd"
        have hlen := Dps.length hxs
        refine r_if (fun c1 => ?_) (fun c1 => ?_)
        · repeat walk_at "rd"
          have e : clauseOk nd (.tuple ds) = false := by
            have n3 : ds.length ≠ 3 := fun z => by
              rw [← hlen] at z
              rw [z] at c1
              exact absurd c1 (by decide)
            match ds, n3 with
            | [], _ => rfl
            | [_], _ => rfl
            | [_, _], _ => rfl
            | [_, _, _], h => exact absurd rfl h
            | _ :: _ :: _ :: _ :: _, _ => rfl
          rw [e] at q
          exact q
        · have n3 : xs.length = 3 := by
            have z : decide (V.int (xs.length : Int) = V.int 3) = true := by simpa using c1
            have z2 := V.int.inj (of_decide_eq_true z)
            omega
          obtain ⟨x, y, z, dx, dy, dz, e1, e2, hx, hy, hzz⟩ := three_of hxs n3
          subst e1 e2
          · have m := lv_mem l2
            repeat walk_at "rd"
            refine r_ixT ha (v := x) rfl ?_
            repeat walk_at "rd"
            refine r_inT (ds := wordsD) hx (.tup (hW _) (.cons (.str _) (.cons (.str _) (.cons (.str _) .nil)))) (lv_succ (lv_succ (m dx (by simp)))) (by decide +kernel) ?_
            repeat walk_at "rd"
            have e : clauseOk nd (.tuple [dx, dy, dz]) = (inD dx wordsD && inD dy nd && inD dz nd) := rfl
            rw [e] at q
            refine r_if (fun c2 => ?_) (fun c2 => ?_)
            · repeat walk_at "rd"
              refine r_ixT ha (v := y) rfl ?_
              repeat walk_at "rd"
              refine r_inT hy hn (lv_succ (lv_succ (m dy (by simp)))) l1 ?_
              repeat walk_at "rd"
              refine r_if (fun c3 => ?_) (fun c3 => ?_)
              · repeat walk_at "rd"
                refine r_ixT ha (v := z) rfl ?_
                repeat walk_at "rd"
                refine r_inT hzz hn (lv_succ (lv_succ (m dz (by simp)))) l1 ?_
                rw [c2, c3] at q
                exact q
              · rw [c2, c3] at q
                exact q
            · rw [c2] at q
              exact q
    · have e1 : (!(tyOf d == "tuple" || tyOf d == "bool" && "tuple" == "int")) = true := by
        cases d <;> first | rfl | exact absurd ⟨_, rfl⟩ hz
      have e2 : clauseOk nd d = false := by
        cases d <;> first | rfl | exact absurd ⟨_, rfl⟩ hz
      rw [if_pos e1]
      repeat walk_at "rd"
      rw [e2] at q
      exact q
end
theorem num_small : ∀ i : Nat, i ≤ 99 → (Str.ofString (toString ((i : Nat) : Int))).length ≤ 20 ∧ ((i : Nat) : Int).natAbs.log2 < 1920 := by
  intro i hi
  have key : ∀ i : Fin 100, (Str.ofString (toString ((i.val : Nat) : Int))).length ≤ 20 ∧ ((i.val : Nat) : Int).natAbs.log2 < 1920 := by decide +kernel
  exact key ⟨i, by omega⟩
theorem len_app (a b : Str) : (a ++ b).length = a.length + b.length := by
  show (a.cps ++ b.cps).size = _
  exact Array.size_append
theorem j_nil {σ : L2.St} {H : Hp} {acc : Str} {Q : Str → Hp → Prop} (q : Q acc H) : tJs [] acc σ H Q := q
theorem j_str {σ : L2.St} {H : Hp} {acc x : Str} {ts : List TE} {Q : Str → Hp → Prop} (h : (acc ++ x).length ≤ sizeLine) (q : tJs ts (acc ++ x) σ H Q) : tJs (tC (.str x) :: ts) acc σ H Q := ⟨x, rfl, h, q⟩
theorem j_fmtS {σ : L2.St} {H : Hp} {i : Nat} {acc x : Str} {ts : List TE} {Q : Str → Hp → Prop} (hv : σ[i]? = some (some (.str x))) (h1 : x.length ≤ sizeLine) (h : (acc ++ x).length ≤ sizeLine) (q : tJs ts (acc ++ x) σ H Q) : tJs (tFmt (tVar i) :: ts) acc σ H Q :=
  ⟨.str x, hv, .inl ⟨x, rfl, h1, x, rfl, h, q⟩⟩
theorem j_fmtI {σ : L2.St} {H : Hp} {i k : Nat} {acc : Str} {ts : List TE} {Q : Str → Hp → Prop} (hv : σ[i]? = some (some (.int (k : Nat)))) (hk : k ≤ 99) (ha : acc.length ≤ 1000) (q : ∀ out : Str, out.length ≤ 2000 → tJs ts out σ H Q) : tJs (tFmt (tVar i) :: ts) acc σ H Q := by
  obtain ⟨h1, h2⟩ := num_small k hk
  have h3 : (acc ++ Str.ofString (toString ((k : Nat) : Int))).length ≤ 2000 := by rw [len_app]; omega
  exact ⟨.int (k : Nat), hv, .inr ⟨_, rfl, h2, _, rfl, Nat.le_trans h3 (by decide), q _ h3⟩⟩
theorem r_ostV {K : PySem.W.Frag} {f : Str} {D : Ends} {σ : L2.St} {H : Hp} {i j : Nat} {y : V} {a C : Addr} (hy : σ[j]? = some (some y)) (hx : σ[i]? = some (some (.ref a))) (T : OexC K C) (n : PySem.W.findIn K (.ref C) f = some none)
    (q : (H a = some (exo a C none) ∧ ∀ dx, H dx = none → dx ≠ a → D.nx σ (upd (upd H dx (exd dx [(f, y)])) a (exo a C (some dx)))) ∨
      ∃ (dx : Addr) (fs : List (Str × V)), H a = some (exo a C (some dx)) ∧ H dx = some (exd dx fs) ∧ fs.length ≤ 900 ∧ D.nx σ (upd H dx (exd dx ((f, y) :: fs)))) : tOst K f (tVar i) (tVar j) D σ H :=
  ⟨y, hy, .ref a, hx, a, C, rfl, T, n, q⟩
section
variable {P : Program} {w : World} {K : PySem.W.Frag} {mg : Str → Option Value} {base : Heap} {G : List Addr} {L : List (Addr × Str)}
theorem scIR : FnScope ["self", "part", "index"] ["self", "part", "index"] (defScope (sErr iIR)) := C8.fnScope_by (by decide +kernel)
theorem scIS : FnScope ["self", "index"] ["self", "index"] (defScope (sErr iIS)) := C8.fnScope_by (by decide +kernel)
/-- StepError: its __init__ is ValueError's -/
structure BaseC (K : PySem.W.Frag) (mg : Str → Option Value) (S : Addr) : Prop where
  g : mg "StepError" = some (.ref S)
  rd : ClX.CRead K S (.type "type")
  fv : PySem.W.findCls K (.ref S) (.type "type") "__init__" = some (.val (.builtin "ValueError.__init__"))
theorem scIlS : FnScope ["self", "index"] ["self", "index"] (defScope (sErr iIlS)) := C8.fnScope_by (by decide +kernel)
def spIR (K : PySem.W.Frag) (C : Addr) : Sp := fun vs H Q _ => ∃ a p, ∃ i : Nat, vs = [.ref a, .str p, .int (i : Nat)] ∧ H a = some (exo a C none) ∧ p.length ≤ 100 ∧ i ≤ 99 ∧
  ∀ d, H d = none → d ≠ a → Q .non (upd (upd (upd H d (exd d [("part", .str p)])) a (exo a C (some d))) d (exd d [("index", .int (i : Nat)), ("part", .str p)]))
theorem ok_IR {f C S : Addr} {fd : FuncData} (F : Fun K "__init__" "InvalidRules.__init__" (sErr iIR) f fd) (B : BaseC K mg S) (T : OexC K C) (n1 : PySem.W.findIn K (.ref C) "part" = some none) (n2 : PySem.W.findIn K (.ref C) "index" = some none) : FnOk P w K mg base CX0 1 f fd ["self", "part", "index"] (spIR K C) := by
  refine F.ok scIR (fun vs H Q E h => ?_) (fun cdv A outer s H vs Q E hr h => ?_)
  · obtain ⟨a, p, i, e, _⟩ := h
    rw [e]
    rfl
  · obtain ⟨a, p, i, e, ha, hp, hi, q⟩ := h
    subst e
    refine ⟨_, pss_cons (ps_expr (pe_baseinit rfl B.g B.rd B.fv (pa_cons (pv 0) (pa_cons (pe_joined (.cons pe_str (.cons (pe_fmt (pv 1)) (.cons pe_str (.cons (pe_fmt (pv 2)) .nil))))) pa_nil))))
      (pss_cons (ps_ost (pv 0) (pv 1)) (pss_one (ps_ost (pv 0) (pv 2)))), ?_⟩
    refine r_seq (r_drop (r_cons (r_var (v := .ref a) rfl (r_cons ?_))))
    refine j_str (by decide) (j_fmtS (x := p) rfl (Nat.le_trans hp (by decide)) ?_ (j_str ?_ (j_fmtI (k := i) rfl hi ?_ fun out ho => ?_)))
    · rw [len_app]
      exact Nat.le_trans (Nat.add_le_add (Nat.le_of_eq rfl) hp) (by decide)
    · rw [len_app, len_app]
      exact Nat.le_trans (Nat.add_le_add (Nat.add_le_add (Nat.le_of_eq rfl) hp) (Nat.le_of_eq rfl)) (by decide)
    · rw [len_app, len_app]
      exact Nat.le_trans (Nat.add_le_add (Nat.add_le_add (Nat.le_of_eq rfl) hp) (Nat.le_of_eq rfl)) (by decide)
    · refine j_nil (r_nil ?_)
      refine ⟨a, C, [.str out], rfl, (by show 1 ≤ 1000; decide), T, ha, ?_⟩
      repeat walk_at "rd"
      refine r_ostV (y := .str p) (a := a) rfl rfl T n1 (.inl ⟨ha, fun d hd hne => ?_⟩)
      exact r_ostV (y := .int (i : Nat)) (a := a) rfl rfl T n2 (.inr ⟨d, _, upd_same, by rw [upd_ne hne, upd_same], (by show 1 ≤ 900; decide), q d hd hne⟩)
def spIS (K : PySem.W.Frag) (C : Addr) : Sp := fun vs H Q _ => ∃ a, ∃ i : Nat, vs = [.ref a, .int (i : Nat)] ∧ H a = some (exo a C none) ∧ i ≤ 99 ∧
  ∀ d, H d = none → d ≠ a → Q .non (upd (upd H d (exd d [("index", .int (i : Nat))])) a (exo a C (some d)))
theorem ok_IS {f C S : Addr} {fd : FuncData} (F : Fun K "__init__" "InvalidState.__init__" (sErr iIS) f fd) (B : BaseC K mg S) (T : OexC K C) (n2 : PySem.W.findIn K (.ref C) "index" = some none) : FnOk P w K mg base CX0 1 f fd ["self", "index"] (spIS K C) := by
  refine F.ok scIS (fun vs H Q E h => ?_) (fun cdv A outer s H vs Q E hr h => ?_)
  · obtain ⟨a, i, e, _⟩ := h
    rw [e]
    rfl
  · obtain ⟨a, i, e, ha, hi, q⟩ := h
    subst e
    refine ⟨_, pss_cons (ps_expr (pe_baseinit rfl B.g B.rd B.fv (pa_cons (pv 0) (pa_cons (pe_joined (.cons pe_str (.cons (pe_fmt (pv 1)) .nil))) pa_nil))))
      (pss_one (ps_ost (pv 0) (pv 1))), ?_⟩
    refine r_seq (r_drop (r_cons (r_var (v := .ref a) rfl (r_cons ?_))))
    refine j_str (by decide) (j_fmtI (k := i) rfl hi (by decide) fun out ho => ?_)
    refine j_nil (r_nil ?_)
    refine ⟨a, C, [.str out], rfl, (by show 1 ≤ 1000; decide), T, ha, ?_⟩
    repeat walk_at "rd"
    exact r_ostV (y := .int (i : Nat)) (a := a) rfl rfl T n2 (.inl ⟨ha, fun d hd hne => q d hd hne⟩)
theorem ok_IlS {f C S : Addr} {fd : FuncData} (F : Fun K "__init__" "IllegalState.__init__" (sErr iIlS) f fd) (B : BaseC K mg S) (T : OexC K C) (n2 : PySem.W.findIn K (.ref C) "index" = some none) : FnOk P w K mg base CX0 1 f fd ["self", "index"] (spIS K C) := by
  refine F.ok scIlS (fun vs H Q E h => ?_) (fun cdv A outer s H vs Q E hr h => ?_)
  · obtain ⟨a, i, e, _⟩ := h
    rw [e]
    rfl
  · obtain ⟨a, i, e, ha, hi, q⟩ := h
    subst e
    refine ⟨_, pss_cons (ps_expr (pe_baseinit rfl B.g B.rd B.fv (pa_cons (pv 0) (pa_cons (pe_joined (.cons pe_str (.cons (pe_fmt (pv 1)) .nil))) pa_nil))))
      (pss_one (ps_ost (pv 0) (pv 1))), ?_⟩
    refine r_seq (r_drop (r_cons (r_var (v := .ref a) rfl (r_cons ?_))))
    refine j_str (by decide) (j_fmtI (k := i) rfl hi (by decide) fun out ho => ?_)
    refine j_nil (r_nil ?_)
    refine ⟨a, C, [.str out], rfl, (by show 1 ≤ 1000; decide), T, ha, ?_⟩
    repeat walk_at "rd"
    exact r_ostV (y := .int (i : Nat)) (a := a) rfl rfl T n2 (.inl ⟨ha, fun d hd hne => q d hd hne⟩)
end
section
variable {P : Program} {w : World} {K : PySem.W.Frag} {mg : Str → Option Value} {base : Heap} {G : List Addr} {L : List (Addr × Str)}
/-- an error class with its __init__, which keeps sp -/
structure Err (P : Program) (w : World) (K : PySem.W.Frag) (mg : Str → Option Value) (base : Heap) (x : Str) (sp : Sp) : Prop where
  oex : OexC K (He.ga K x)
  g : mg x = some (.ref (He.ga K x))
  ini : ∃ f fd ps, PySem.W.findIn K (.ref (He.ga K x)) "__init__" = some (some (.ref f)) ∧ PySem.W.typeIn K (.ref f) = some (.type "function") ∧ FnOk P w K mg base CX0 1 f fd ps sp ∧ Binds K fd ps []
theorem pmk_err {X : Cx} {x : Str} {k : Nat} {sp : Sp} {ta : TA} {p pos : Pos} {e : Expr} {es : List Expr} (T : Err X.prog X.w X.K X.mg X.base x sp) (hr : Room k X.A) (ha : PA X (e :: es) ta) (hk : 2 ≤ k := by decide) (hg : Gl X x := by rfl)
    (hdb : (x == ("__debug__" : Str)) = false := by decide) (he : starEach (e :: es) X.env = (false, eval e X.env) :: starEach es X.env := by rfl) (hpl : (backTo pos (starEach es X.env)).any (·.1) = false := by rfl) :
    PMk X (.Call (.Name x p) (e :: es) [] pos) (tMkO (He.ga X.K x) sp [] ta) := by
  obtain ⟨f, fd, ps, h1, h2, F, b⟩ := T.ini
  exact pmk_oex T.oex h1 h2 F (hr.mono hk) b .nil pass0 hg T.g ha hdb he hpl
theorem r_mkIR {σ : L2.St} {H : Hp} {ta : TA} {x : Str} {Q : XK} (h : ta σ H fun vs H1 => ∃ (p : Str) (i : Nat), vs = [.str p, .int (i : Nat)] ∧ p.length ≤ 100 ∧ i ≤ 99 ∧ ∀ d Hx, (∀ b o, H1 b = some o → Hx b = some o) → Hx d = some (.xd [("index", .int (i : Nat)), ("part", .str p)]) → Q (.ref (He.ga K x)) (some d) Hx)
    (hm : ∀ Q1 Q2 : List V → Hp → Prop, (∀ vs H1, Q1 vs H1 → Q2 vs H1) → ta σ H Q1 → ta σ H Q2) : tMkO (He.ga K x) (spIR K (He.ga K x)) [] ta σ H Q := by
  refine hm _ _ ?_ h
  rintro vs H1 ⟨p, i, ev, hp, hi, q⟩
  subst ev
  refine ⟨(by show 2 ≤ 1000; decide), fun a ha => ⟨a, p, i, rfl, upd_same, hp, hi, fun d hd hne => ⟨rfl, d, _, ?_, upd_same, ?_, q d _ ?_ upd_same⟩⟩⟩
  · rw [upd_ne hne.symm, upd_same]
  · rw [upd_ne hne] at hd
    exact hd
  · intro b o e
    have hd' : H1 d = none := by
      rw [upd_ne hne] at hd
      exact hd
    have nd := ne_of_none e hd'
    have na := ne_of_none e ha
    rw [upd_ne nd, del_ne na, upd_ne nd, upd_ne na, upd_ne nd, upd_ne na]
    exact e
theorem r_mkIS {σ : L2.St} {H : Hp} {ta : TA} {x : Str} {Q : XK} (h : ta σ H fun vs H1 => ∃ (i : Nat), vs = [.int (i : Nat)] ∧ i ≤ 99 ∧ ∀ d Hx, (∀ b o, H1 b = some o → Hx b = some o) → Hx d = some (.xd [("index", .int (i : Nat))]) → Q (.ref (He.ga K x)) (some d) Hx)
    (hm : ∀ Q1 Q2 : List V → Hp → Prop, (∀ vs H1, Q1 vs H1 → Q2 vs H1) → ta σ H Q1 → ta σ H Q2) : tMkO (He.ga K x) (spIS K (He.ga K x)) [] ta σ H Q := by
  refine hm _ _ ?_ h
  rintro vs H1 ⟨i, ev, hi, q⟩
  subst ev
  refine ⟨(by show 1 ≤ 1000; decide), fun a ha => ⟨a, i, rfl, upd_same, hi, fun d hd hne => ?_⟩⟩
  have hd' : H1 d = none := by
    rw [upd_ne hne] at hd
    exact hd
  refine ⟨rfl, d, _, upd_same, by rw [upd_ne hne, upd_same], hd', q d _ ?_ upd_same⟩
  intro b o e
  have nd := ne_of_none e hd'
  have na := ne_of_none e ha
  rw [upd_ne nd, del_ne na, upd_ne na, upd_ne nd, upd_ne na]
  exact e
theorem m_cons {te : TE} {ta : TA} {σ : L2.St} (h1 : ∀ (H : Hp) (Q1 Q2 : VK), (∀ v H1, Q1 v H1 → Q2 v H1) → te σ H Q1 → te σ H Q2) (h2 : ∀ (H : Hp) (Q1 Q2 : List V → Hp → Prop), (∀ v H1, Q1 v H1 → Q2 v H1) → ta σ H Q1 → ta σ H Q2) :
    ∀ (H : Hp) (Q1 Q2 : List V → Hp → Prop), (∀ v H1, Q1 v H1 → Q2 v H1) → tCons te ta σ H Q1 → tCons te ta σ H Q2 := fun H _ _ k q => h1 H _ _ (fun _ H1 z => h2 H1 _ _ (fun xs H2 y => k _ _ y) z) q
theorem m_nil {σ : L2.St} : ∀ (H : Hp) (Q1 Q2 : List V → Hp → Prop), (∀ v H1, Q1 v H1 → Q2 v H1) → tNil σ H Q1 → tNil σ H Q2 := fun _ _ _ k q => k _ _ q
theorem m_var {i : Nat} {σ : L2.St} : ∀ (H : Hp) (Q1 Q2 : VK), (∀ v H1, Q1 v H1 → Q2 v H1) → tVar i σ H Q1 → tVar i σ H Q2 := fun _ _ _ k ⟨v, h, q⟩ => ⟨v, h, k _ _ q⟩
theorem m_c {c : V} {σ : L2.St} : ∀ (H : Hp) (Q1 Q2 : VK), (∀ v H1, Q1 v H1 → Q2 v H1) → tC c σ H Q1 → tC c σ H Q2 := fun _ _ _ k q => k _ _ q
end
section
variable {σ : L2.St} {H : Hp} {D : Ends} {K : PySem.W.Frag}
theorem forET {te : TE} {g : TG} {tb : TS} {a : Addr} {xs : List V} (he : ∀ R : VK, R (.ref a) H → te σ H R) (hq : SqT K H a xs) (Pv : Nat → L2.St → Hp → Prop) (h0 : Pv 0 σ H) (hG : ∀ i σ H, i ≤ xs.length → Pv i σ H → SqT K H a xs)
    (hs : ∀ i x T σ H H', xs[i]? = some x → H T = none → H' = upd H T (.tup [.int (i : Nat), x]) → Pv i σ H → g (.ref T) σ H' fun σ2 H2 => tb { D with nx := Pv (i + 1), ct := Pv (i + 1), bk := D.nx } σ2 H2) (hd : ∀ σ H, Pv xs.length σ H → D.nx σ H) :
    tFor (iEnumT K (tCons te tNil)) g tb D σ H := by
  refine he _ ⟨a, xs, rfl, hq, for_it walk_enumT Pv h0 hG ?_ hd⟩
  rintro i x σ H1 H2 hi p ⟨T, x1, y, ev, hT, eH, e1, e2⟩
  cases e1
  rw [ev]
  exact hs i y T σ H1 H2 e2 hT eH p
theorem forL {te : TE} {g : TG} {tb : TS} {a : Addr} {xs : List V} (he : ∀ R : VK, R (.ref a) H → te σ H R) (hq : SqL K H a xs) (Pv : Nat → L2.St → Hp → Prop) (h0 : Pv 0 σ H) (hG : ∀ i σ H, i ≤ xs.length → Pv i σ H → SqL K H a xs)
    (hs : ∀ i x σ H, xs[i]? = some x → Pv i σ H → g x σ H fun σ2 H2 => tb { D with nx := Pv (i + 1), ct := Pv (i + 1), bk := D.nx } σ2 H2) (hd : ∀ σ H, Pv xs.length σ H → D.nx σ H) :
    tFor (iList K te) g tb D σ H := by
  refine he _ ⟨a, rfl, ⟨xs, hq⟩, for_it walk_list Pv h0 hG ?_ hd⟩
  rintro i x σ H1 H2 hi p ⟨eH, e2⟩
  rw [eH]
  exact hs i x σ H1 e2 p
theorem r_pair {T : Addr} {x y : V} {i j : Nat} {Q : L2.St → Hp → Prop} (h : SqT K H T [x, y]) (q : Q ((σ.set i (some x)).set j (some y)) H) : gTup K 2 (gCons (gName i) (gCons (gName j) gNil)) (.ref T) σ H Q :=
  ⟨T, _, rfl, h, rfl, _, _, rfl, _, _, rfl, rfl, q⟩
end
def scanS : List Str → Nat → List PyData → Option Nat
  | _, _, [] => none
  | later, i, .str z :: ds => if z ∈ later then scanS (later.drop (later.idxOf z + 1)) (i + 1) ds else some i
  | _, i, _ :: _ => some i
def stateBad (ns : List Str) : PyData → Option Nat
  | .tuple ds => scanS ns 0 ds
  | _ => some 0
section
variable {P : Program} {w : World} {K : PySem.W.Frag} {mg : Str → Option Value} {base : Heap} {G : List Addr} {L : List (Addr × Str)}
theorem sqT_go {K : PySem.W.Frag} {H H' : Hp} {a : Addr} {xs : List V} (h : SqT K H a xs) (e : LamX.ExtN H H') : SqT K H' a xs := by
  rcases h with (h | ⟨o, h⟩) | h
  · exact .inl (.inl (e _ _ h fun _ z => by cases z))
  · exact .inl (.inr ⟨o, e _ _ h fun _ z => by cases z⟩)
  · exact .inr h
theorem dps_strs {K : PySem.W.Frag} {H : Hp} (xs : List Str) : DpAll K H (xs.map V.str) (xs.map PyData.str) := Ims.dp (ims_strs xs)
theorem idxOf_get {z : Str} : ∀ {l : List Str}, z ∈ l → l[l.idxOf z]? = some z := fun {l} h => by
  have hl := List.idxOf_lt_length_of_mem h
  rw [List.getElem?_eq_getElem hl, List.getElem_idxOf hl]
theorem idxOf_least {z : Str} : ∀ {l : List Str} {m : Nat}, m < l.idxOf z → l[m]? = some z → False
  | [], m, h, e => by simp at e
  | y :: l, m, h, e => by
    by_cases hy : y = z
    · subst hy
      simp at h
    · have e1 : (y :: l).idxOf z = l.idxOf z + 1 := by
        rw [List.idxOf_cons]
        have hb : (y == z) = false := by simpa using hy
        rw [hb]
        rfl
      rw [e1] at h
      cases m with
      | zero => exact hy (by simpa using e)
      | succ m => exact idxOf_least (z := z) (l := l) (m := m) (by omega) (by simpa using e)
theorem cut_from {xs : List V} {k : Nat} (h : k ≤ xs.length) : cutV xs (some (k : Int)) none = xs.drop k := by
  unfold cutV
  rw [HT.sIx_nat, HT.sIx_none, Nat.min_eq_left h, List.take_of_length_le]
  rw [List.length_drop]
  exact Nat.le_refl _
theorem cut_to {xs : List V} {k : Nat} (h : k ≤ xs.length) : cutV xs none (some (k : Int)) = xs.take k := by
  unfold cutV
  rw [HT.sIx_nat, HT.sIx_none, Nat.min_eq_left h, List.drop_zero, Nat.sub_zero]
def spChkState (K : PySem.W.Frag) (G : List Addr) (L : List (Addr × Str)) : Sp := fun vs H Q E => ∃ (an : Addr) (v : V) (ns : List Str) (d : PyData), vs = [.ref an, v] ∧ NT H an (ns.map V.str) ∧ Dp K H v d ∧ goodS ns ∧ lv 7 d = true ∧ (∀ ds, d = .tuple ds → ds.length ≤ 60) ∧
  (∀ i, stateBad ns d = some i → ∀ cls dd H', Go G L H H' → Told K cls dd H' (.tuple [.str "invalid", .int (i : Nat)]) → E cls dd H') ∧ (stateBad ns d = none → ∀ H', Go G L H H' → Q .non H')
theorem scChkState : FnScope ["names", "state", "later", "index", "name"] ["names", "state"] (defScope sChkState) := C8.fnScope_by (by decide +kernel)
theorem ok_chkState {f : Addr} {fd : FuncData} (F : Fun K "check_state" "check_state" sChkState f fd) (zI : mg "isinstance" = none) (z1 : mg "tuple" = none) (zE : mg "enumerate" = none) (T : Err P w K mg base "InvalidState" (spIS K (He.ga K "InvalidState"))) :
    FnOk P w K mg base (L2.CX P w) 3 f fd ["names", "state"] (spChkState K G L) := by
  refine F.okX scChkState (fun vs H Q E h => ?_) (fun cdv A outer s H vs Q E hr h => ?_)
  · obtain ⟨an, v, ns, d, e, _⟩ := h
    rw [e]
    rfl
  · obtain ⟨an, v, ns, d, e, hn, hd, gs, l1, hl, qE, q⟩ := h
    subst e
    refine ⟨_, pss_cons (ps_if (pt_not (pt_val (pe_callB call_isi rfl zI boot_isinstance (pa_cons (pv 1) (pa_cons (pe_bltn (v := .ty "tuple") rfl z1 boot_tuple rfl) pa_nil)))))
        (pss_one (ps_raise rfl (takes_of rfl rfl rfl rfl) (pmk_err T hr (pa_cons pe_int pa_nil)))) pss_nil)
      (pss_cons (ps_set (i := 2) scChkState.nd rfl (Or.inl rfl) (pv 0))
      (pss_one (ps_for (passes_of rfl) rfl (pi_enumT rfl zE (pa_cons (pv 1) pa_nil)) (pg_tup rfl (pgs_cons (pg_name (i := 3) scChkState.nd rfl (.inl rfl)) (pgs_cons (pg_name (i := 4) scChkState.nd rfl (.inl rfl)) pgs_nil)))
        (pss_cons (ps_if (pt_cmpR (op_notInT (u65 hr)) (pv 4) (pv 2) rfl) (pss_one (ps_raise rfl (takes_of rfl rfl rfl rfl) (pmk_err T hr (pa_cons (pv 3) pa_nil)))) pss_nil)
        (pss_one (ps_set (i := 2) scChkState.nd rfl (Or.inl rfl) (pe_slice sl_tupD (pv 2) (po_some (pe_op op_add (pe_tm PySem.F.plainAttrs_tuple PySem.F.slot_tuple_index PySem.F.type_tuple_index mt_tup_index (pv 2) (pa_cons (pv 4) pa_nil)) pe_int)) po_none))))))), ?_⟩
    repeat walk_at "rd"
    refine r_isi (m := "tuple") (Dp.kd hd) (by decide) ?_
    repeat walk_at "rd"
    by_cases hz : ∃ ds, d = .tuple ds
    · obtain ⟨ds, rfl⟩ := hz
      cases hd with
      | @tup a xs _ ha hxs =>
        refine r_if (fun cc => absurd cc (by simp [tyOf])) (fun _ => ?_)
        repeat walk_at "rd"
        have hlen := Dps.length hxs
        have hs60 := hl ds rfl
        have m := lv_mem l1
        refine forET (a := a) (xs := xs) (fun R z => ⟨_, rfl, z⟩) ha (fun i σ H' => ∃ (lt : List Str) (al : Addr) (x3 x4 : Option V), σ = [some (.ref an), some (.ref a), some (.ref al), x3, x4] ∧ Go G L H H' ∧ NT H' al (lt.map V.str) ∧ goodS lt ∧ scanS ns 0 ds = scanS lt i (ds.drop i)) ?_ ?_ ?_ ?_
        · exact ⟨ns, an, none, none, rfl, Go.refl H, hn, gs, rfl⟩
        · rintro i σ H' _ ⟨_, _, _, _, _, g, _⟩
          exact sqT_go ha g.1
        · rintro i y T2 σ H1 H2 ey hT rfl ⟨lt, al, x3, x4, rfl, g, hal, gl, hsc⟩
          have g2 : Go G L H (upd H1 T2 (.tup [.int (i : Nat), y])) := g.trans (Go.new hT)
          refine r_pair (.of upd_same) ?_
          obtain ⟨dy, hdy, hy⟩ := Dps.get hxs ey
          have hy2 := Dp.go g2.1 hy
          have hal2 : NT (upd H1 T2 (.tup [.int (i : Nat), y])) al (lt.map V.str) := hal.kt (Go.kt (G := G) (L := L) (Go.new hT))
          generalize upd H1 T2 (.tup [.int (i : Nat), y]) = H3 at g2 hy2 hal2
          have hil := (List.getElem?_eq_some_iff.mp hdy).1
          have hdrop : ds.drop i = dy :: ds.drop (i + 1) := by
            obtain ⟨hl1, e1⟩ := List.getElem?_eq_some_iff.mp hdy
            rw [← e1]
            exact List.drop_eq_getElem_cons hl1
          rw [hdrop] at hsc
          repeat walk_at "rd"
          refine r_ninT (ds := lt.map PyData.str) hy2 (.tup hal2.seq (dps_strs lt)) (lv_succ (lv_succ (m dy (List.mem_of_getElem? hdy)))) (lv_tup fun d hd => ?_) ?_
          · obtain ⟨z, hz, e⟩ := List.mem_map.mp hd
            rw [← e]
            exact gl.1 z hz
          repeat walk_at "rd"
          refine r_if (fun c1 => ?_) (fun c1 => ?_)
          · repeat walk_at "rd"
            refine r_mkIS ?_ (m_cons (m_var) m_nil _)
            repeat walk_at "rd"
            have e3 : stateBad ns (.tuple ds) = some i := by
              show scanS ns 0 ds = some i
              rw [hsc]
              cases dy with
              | str z =>
                rw [inD_strs] at c1
                have nz : ¬ z ∈ lt := by simpa using c1
                exact if_neg nz
              | _ => rfl
            exact ⟨i, rfl, by omega, fun dd Hx k hx => qE i e3 _ _ Hx (g2.trans (Go.same k)) (.inr (.inl ⟨dd, _, rfl, rfl, hx, rfl⟩))⟩
          · have hin : ∃ z, dy = .str z ∧ z ∈ lt := by
              cases dy with
              | str z =>
                rw [inD_strs] at c1
                exact ⟨z, rfl, by simpa using c1⟩
              | _ =>
                rw [inD_no (fun z => by intro q; cases q)] at c1
                exact absurd c1 (by decide)
            obtain ⟨z, rfl, hzl⟩ := hin
            cases hy2
            have hj : lt[lt.idxOf z]? = some z := idxOf_get hzl
            have hlt : lt.idxOf z < lt.length := (List.getElem?_eq_some_iff.mp hj).1
            repeat walk_at "rd"
            refine ⟨⟨al, _, rfl, hal2⟩, ?_⟩
            repeat walk_at "rd"
            refine ⟨al, lt, z, lt.idxOf z, rfl, rfl, hal2.seq, hj, fun m hm e => idxOf_least hm e, ?_⟩
            repeat walk_at "rd"
            have ecut : cutV (lt.map V.str) (some ((lt.idxOf z : Nat) + 1 : Int)) none = (lt.drop (lt.idxOf z + 1)).map V.str := by
              have e0 : (((lt.idxOf z : Nat) : Int) + 1) = ((lt.idxOf z + 1 : Nat) : Int) := by omega
              rw [e0, cut_from, List.map_drop]
              rw [List.length_map]
              omega
            have gl' : goodS (lt.drop (lt.idxOf z + 1)) := ⟨fun y hy => gl.1 y (List.mem_of_mem_drop hy), Nat.le_trans (by rw [List.length_drop]; omega) gl.2⟩
            have hsc' : scanS ns 0 ds = scanS (lt.drop (lt.idxOf z + 1)) (i + 1) (ds.drop (i + 1)) := by
              rw [hsc]
              exact if_pos hzl
            refine ⟨al, _, rfl, hal2, fun e => ?_, fun p o hp h1 h2 => ?_⟩
            · rw [ecut] at e
              have e2 := congrArg List.length e
              rw [List.length_map, List.length_map, List.length_drop] at e2
              omega
            · repeat walk_at "rd"
              rw [ecut]
              exact ⟨_, p, _, _, rfl, g2.trans (Go.new hp), .of h1 h2, gl', hsc'⟩
        · rintro σ H' ⟨lt, al, x3, x4, rfl, g, hal, gl, hsc⟩
          refine q ?_ H' g
          show scanS ns 0 ds = none
          rw [hsc, hlen, List.drop_length]
          rfl
    · have e1 : (!(tyOf d == "tuple" || tyOf d == "bool" && "tuple" == "int")) = true := by
        cases d <;> first | rfl | exact absurd ⟨_, rfl⟩ hz
      have e2 : stateBad ns d = some 0 := by
        cases d <;> first | rfl | exact absurd ⟨_, rfl⟩ hz
      rw [if_pos e1]
      repeat walk_at "rd"
      refine r_mkIS ?_ (m_cons (m_c) m_nil _)
      repeat walk_at "rd"
      exact ⟨0, rfl, by decide, fun dd Hx k hx => qE 0 e2 _ _ Hx (Go.same k) (.inr (.inl ⟨dd, _, rfl, rfl, hx, rfl⟩))⟩
end
section
variable {P : Program} {w : World} {K : PySem.W.Frag} {mg : Str → Option Value} {base : Heap} {G : List Addr} {L : List (Addr × Str)}
theorem told_rules {dd : Addr} {H : Hp} {p : Str} {i : Nat} (h : H dd = some (.xd [("index", .int (i : Nat)), ("part", .str p)])) : Told K (.ref (He.ga K "InvalidRules")) (some dd) H (rulesE p i) := .inl ⟨dd, p, _, rfl, rfl, h, rfl⟩
def spChkNames (K : PySem.W.Frag) (G : List Addr) (L : List (Addr × Str)) : Sp := fun vs H Q E => ∃ (v : V) (d : PyData), vs = [v] ∧ Dp K H v d ∧ lv 7 d = true ∧ TBS G L H ∧ (∀ ds, d = .tuple ds → ds.length ≤ 60 ∧ ∀ x ∈ ds, smallS x) ∧
  (∀ i, namesBad d = some i → ∀ cls dd H', Go G L H H' → Told K cls dd H' (rulesE "names" i) → E cls dd H') ∧ (namesBad d = none → ∀ H', Go G L H H' → Q .non H')
theorem scChkNames : FnScope ["names", "index", "name"] ["names"] (defScope sChkNames) := C8.fnScope_by (by decide +kernel)
theorem dps_at {K : PySem.W.Frag} {H : Hp} {xs : List V} {ds : List PyData} {i : Nat} {v : V} (h : DpAll K H xs ds) (e : xs[i]? = some v) : ∃ d, ds[i]? = some d ∧ Dp K H v d ∧ ds.drop i = d :: ds.drop (i + 1) ∧ i < ds.length ∧ ds.take (i + 1) = ds.take i ++ [d] := by
  obtain ⟨d, h1, h2⟩ := Dps.get h e
  obtain ⟨hl, e1⟩ := List.getElem?_eq_some_iff.mp h1
  refine ⟨d, h1, h2, ?_, hl, ?_⟩
  · rw [← e1]
    exact List.drop_eq_getElem_cons hl
  · rw [← e1]
    exact (List.take_append_getElem hl).symm
theorem ok_chkNames {f : Addr} {fd : FuncData} {t10 : Tok} (F : Fun K "check_names" "check_names" sChkNames f fd) (zI : mg "isinstance" = none) (z1 : mg "tuple" = none) (zL : mg "len" = none) (zE : mg "enumerate" = none) (g10 : mg "MOST_NAMES" = some (.int 10 t10))
    (T : Err P w K mg base "InvalidRules" (spIR K (He.ga K "InvalidRules"))) (N : Fd CX0 P w K mg base "is_name" 1 (spIsName K G L)) : FnOk P w K mg base (L2.CX P w) 3 f fd ["names"] (spChkNames K G L) := by
  refine F.okX scChkNames (fun vs H Q E h => ?_) (fun cdv A outer s H vs Q E hr h => ?_)
  · obtain ⟨v, d, e, _⟩ := h
    rw [e]
    rfl
  · obtain ⟨v, d, e, hd, l1, ht, hl, qE, q⟩ := h
    subst e
    refine ⟨_, pss_cons (ps_if (PW.pt (pw_or (pt_not (pt_val (pe_callB call_isi rfl zI boot_isinstance (pa_cons (pv 0) (pa_cons (pe_bltn (v := .ty "tuple") rfl z1 boot_tuple rfl) pa_nil)))))
          (pw_or1 (pt_cmpR op_eq (pe_callB c_len rfl zL boot_len (pa_cons (pv 0) pa_nil)) pe_int (nomark _)))))
        (pss_one (ps_raise rfl (takes_of rfl rfl rfl rfl) (pmk_err T hr (pa_cons pe_str (pa_cons pe_int pa_nil))))) pss_nil)
      (pss_one (ps_for (passes_of rfl) rfl (pi_enumT rfl zE (pa_cons (pv 0) pa_nil)) (pg_tup rfl (pgs_cons (pg_name (i := 1) scChkNames.nd rfl (.inl rfl)) (pgs_cons (pg_name (i := 2) scChkNames.nd rfl (.inl rfl)) pgs_nil)))
        (pss_one (ps_if (PW.pt (pw_or (pt_cmpR op_ge (pv 1) (pe_glob (v := .int 10) rfl g10 ⟨_, rfl⟩) (nomark _)) (pw_or (pt_not (pt_val (pe_fd (E := E0) N hr pass0 (pa_cons (pv 2) pa_nil))))
            (pw_or1 (pt_cmpR (op_inT (u65 hr)) (pv 2) (pe_slice sl_tupA (pv 0) po_none (po_some (pv 1))) rfl)))))
          (pss_one (ps_raise rfl (takes_of rfl rfl rfl rfl) (pmk_err T hr (pa_cons pe_str (pa_cons (pv 1) pa_nil))))) pss_nil)))), ?_⟩
    repeat walk_at "rd"
    refine r_isi (m := "tuple") (Dp.kd hd) (by decide) ?_
    repeat walk_at "rd"
    by_cases hz : ∃ ds, d = .tuple ds
    · obtain ⟨ds, rfl⟩ := hz
      cases hd with
      | @tup a xs _ ha hxs =>
        refine r_if (fun cc => absurd cc (by simp [tyOf])) (fun _ => ?_)
        repeat walk_at "rd"
        refine r_lenT ha ?_
        repeat walk_at "rd"
        refine r_eq rfl ?_
        repeat walk_at "rd"
        have hlen := Dps.length hxs
        obtain ⟨hs60, hsm⟩ := hl ds rfl
        have m := lv_mem l1
        refine r_if (fun c1 => ?_) (fun c1 => ?_)
        · have z0 := V.int.inj (of_decide_eq_true c1)
          have e0 : ds = [] := List.length_eq_zero_iff.mp (by omega)
          repeat walk_at "rd"
          refine r_mkIR ?_ (m_cons m_c (m_cons m_c m_nil) _)
          repeat walk_at "rd"
          refine ⟨"names", 0, rfl, by decide, by decide, fun dd Hx k hx => qE 0 (by rw [e0]; rfl) _ _ Hx (Go.same k) (told_rules hx)⟩
        · have ne : ds ≠ [] := fun z => by
            rw [z] at hlen
            rw [hlen] at c1
            exact absurd c1 (by decide)
          have enb : namesBad (.tuple ds) = scanN [] ds := by
            cases ds with
            | nil => exact absurd rfl ne
            | cons _ _ => rfl
          repeat walk_at "rd"
          refine forET (a := a) (xs := xs) (fun R z => ⟨_, rfl, z⟩) ha (fun i σ H' => ∃ (x3 x4 : Option V), σ = [some (.ref a), x3, x4] ∧ Go G L H H' ∧ scanN [] ds = scanN (ds.take i) (ds.drop i)) ?_ ?_ ?_ ?_
          · exact ⟨none, none, rfl, Go.refl H, rfl⟩
          · rintro i σ H' _ ⟨_, _, _, g, _⟩
            exact sqT_go ha g.1
          · rintro i y T2 σ H1 H2 ey hT rfl ⟨x3, x4, rfl, g, hsc⟩
            have g2 : Go G L H (upd H1 T2 (.tup [.int (i : Nat), y])) := g.trans (Go.new hT)
            refine r_pair (.of upd_same) ?_
            obtain ⟨dy, hdy, hy, hdrop, hil, htk⟩ := dps_at hxs ey
            generalize upd H1 T2 (.tup [.int (i : Nat), y]) = H3 at g2
            have hy2 := Dp.go g2.1 hy
            rw [hdrop] at hsc
            have htl : (ds.take i).length = i := by
              rw [List.length_take]
              omega
            have hmem := List.mem_of_getElem? hdy
            have bad : (decide ((10 : Int) ≤ (i : Nat)) || (!nameOk dy || inD dy (ds.take i))) = true → namesBad (.tuple ds) = some i := fun c => by
              rw [enb, hsc]
              show (if decide ((10 : Int) ≤ ((ds.take i).length : Nat)) || (!nameOk dy || inD dy (ds.take i)) then some (ds.take i).length else _) = some i
              rw [htl]
              exact if_pos c
            repeat walk_at "rd"
            refine r_if (fun c2 => ?_) (fun c2 => ?_)
            · repeat walk_at "rd"
              refine r_mkIR ?_ (m_cons m_c (m_cons m_var m_nil) _)
              repeat walk_at "rd"
              exact ⟨"names", i, rfl, by decide, by omega, fun dd Hx k hx => qE i (bad (by rw [c2]; rfl)) _ _ Hx (g2.trans (Go.same k)) (told_rules hx)⟩
            · repeat walk_at "rd"
              refine ⟨y, dy, rfl, hy2, hsm dy hmem, g2.2 ht, fun H4 g4 => ?_⟩
              have g4' := g2.trans g4
              have hy4 := Dp.go g4'.1 hy
              repeat walk_at "rd"
              refine r_if (fun c3 => ?_) (fun c3 => ?_)
              · repeat walk_at "rd"
                refine r_mkIR ?_ (m_cons m_c (m_cons m_var m_nil) _)
                repeat walk_at "rd"
                exact ⟨"names", i, rfl, by decide, by omega, fun dd Hx k hx => qE i (bad (by rw [c2, c3]; rfl)) _ _ Hx (g4'.trans (Go.same k)) (told_rules hx)⟩
              · repeat walk_at "rd"
                refine ⟨a, xs, rfl, sqT_go ha g4'.1, fun hw => ?_, fun _ p hp => ?_⟩
                · exfalso
                  have z := hw.2
                  rw [HT.sIx_nat] at z
                  omega
                · have g5 := g4'.trans (Go.new (o := .tup (cutV xs none (some (i : Nat)))) hp)
                  have hsq : SqT K (upd H4 p (.tup (cutV xs none (some (i : Nat))))) p (cutV xs none (some (i : Nat))) := .of upd_same
                  generalize upd H4 p (.tup (cutV xs none (some (i : Nat)))) = H5 at g5 hsq ⊢
                  rw [cut_to (by omega)] at hsq
                  repeat walk_at "rd"
                  have hy5 := Dp.go g5.1 hy
                  refine r_inT (ds := ds.take i) hy5 (.tup hsq (Dps.go g5.1 (Dps.take i hxs))) (lv_succ (lv_succ (m dy hmem))) (lv_tup fun d hd => lv_succ (m d (List.mem_of_mem_take hd))) ?_
                  repeat walk_at "rd"
                  refine r_if (fun c4 => ?_) (fun c4 => ?_)
                  · repeat walk_at "rd"
                    refine r_mkIR ?_ (m_cons m_c (m_cons m_var m_nil) _)
                    repeat walk_at "rd"
                    exact ⟨"names", i, rfl, by decide, by omega, fun dd Hx k hx => qE i (bad (by rw [c2, c3, c4]; rfl)) _ _ Hx (g5.trans (Go.same k)) (told_rules hx)⟩
                  · repeat walk_at "rd"
                    refine ⟨_, _, rfl, g5, ?_⟩
                    rw [hsc, htk]
                    show (if decide ((10 : Int) ≤ ((ds.take i).length : Nat)) || (!nameOk dy || inD dy (ds.take i)) then some (ds.take i).length else _) = _
                    rw [htl, c2, c3, c4]
                    rfl
          · rintro σ H' ⟨x3, x4, rfl, g, hsc⟩
            refine q ?_ H' g
            rw [enb, hsc, hlen, List.drop_length]
            rfl
    · have e1 : (!(tyOf d == "tuple" || tyOf d == "bool" && "tuple" == "int")) = true := by
        cases d <;> first | rfl | exact absurd ⟨_, rfl⟩ hz
      have e2 : namesBad d = some 0 := by
        cases d <;> first | rfl | exact absurd ⟨_, rfl⟩ hz
      rw [if_pos e1]
      repeat walk_at "rd"
      refine r_mkIR ?_ (m_cons m_c (m_cons m_c m_nil) _)
      repeat walk_at "rd"
      exact ⟨"names", 0, rfl, by decide, by decide, fun dd Hx k hx => qE 0 e2 _ _ Hx (Go.same k) (told_rules hx)⟩
end
section
variable {G : List Addr} {L : List (Addr × Str)} {H H' : Hp} {r D : Addr} {xs ys : List V}
theorem Go.updNew (g : Go G L H H') (n : H D = none) (h : H' D = some (.lst xs)) : Go G L H (upd H' D (.lst ys)) :=
  ⟨fun b o e nt => by rw [upd_ne (ne_of_none e n)]; exact g.1 b o e nt, fun t => (GoR.upd (G := G) (L := L) h).2 (g.2 t)⟩
theorem GoR.updNew (g : GoR G L r H H') (n : H D = none) (h : H' D = some (.lst xs)) : GoR G L r H (L2.upd H' D (.lst ys)) :=
  ⟨fun b o nr nt e => by rw [upd_ne (ne_of_none e n)]; exact g.1 b o nr nt e, fun t => (GoR.upd (G := G) (L := L) h).2 (g.2 t)⟩
end
section
variable {σ : L2.St} {H : Hp} {Q : VK} {D : Ends} {K : PySem.W.Frag}
theorem r_lcI {wi : TI} {g : TG} {tt : TT} {te : TE} {vs : List Nat} {J : It} {n : Nat} {G : Hp → Prop} {Y : Nat → Hp → V → Hp → Prop} (hw : ∀ R : It → Hp → Prop, R J H → wi σ H R) (w : Walk J n G Y) (Pv : Addr → Nat → Hp → Prop)
    (h0 : ∀ D, H D = none → Pv D 0 (upd H D (.lst []))) (hG : ∀ D i H', H D = none → i ≤ n → Pv D i H' → G H')
    (hs : ∀ D i x H1 H2, H D = none → i < n → Pv D i H1 → Y i H1 x H2 → g x (wipe σ vs) H2 fun σ2 H2 => wipe σ2 vs = wipe σ vs ∧ tt σ2 H2 fun b H3 =>
      if b = true then te σ2 H3 fun y H4 => ∃ acc, H4 D = some (.lst acc) ∧ acc.length < sizeLine ∧ Pv D (i + 1) (upd H4 D (.lst (acc ++ [y]))) else Pv D (i + 1) H3) (hd : ∀ D H', H D = none → Pv D n H' → Q (.ref D) H') : tLc wi g tt te vs σ H Q :=
  hw _ fun D hD => lc_it w (Pv D) (h0 D hD) (fun i H' hi p => hG D i H' hD hi p) (fun i x H1 H2 hi p y => hs D i x H1 H2 hD hi p y) fun H' p => hd D H' hD p
theorem lcET {te : TE} {g : TG} {tt : TT} {el : TE} {vs : List Nat} {a : Addr} {xs : List V} (he : ∀ R : VK, R (.ref a) H → te σ H R) (hq : SqT K H a xs) (Pv : Addr → Nat → Hp → Prop)
    (h0 : ∀ D, H D = none → Pv D 0 (upd H D (.lst []))) (hG : ∀ D i H', H D = none → i ≤ xs.length → Pv D i H' → SqT K H' a xs)
    (hs : ∀ D i x T H1, H D = none → xs[i]? = some x → H1 T = none → Pv D i H1 → g (.ref T) (wipe σ vs) (upd H1 T (.tup [.int (i : Nat), x])) fun σ2 H2 => wipe σ2 vs = wipe σ vs ∧ tt σ2 H2 fun b H3 =>
      if b = true then el σ2 H3 fun y H4 => ∃ acc, H4 D = some (.lst acc) ∧ acc.length < sizeLine ∧ Pv D (i + 1) (upd H4 D (.lst (acc ++ [y]))) else Pv D (i + 1) H3) (hd : ∀ D H', H D = none → Pv D xs.length H' → Q (.ref D) H') : tLc (iEnumT K (tCons te tNil)) g tt el vs σ H Q := by
  refine r_lcI (fun R z => he _ ⟨a, xs, rfl, hq, z⟩) walk_enumT Pv h0 hG ?_ hd
  rintro D i x H1 H2 hD hi p ⟨T, x1, y, ev, hT, eH, e1, e2⟩
  cases e1
  rw [ev, eH]
  exact hs D i y T H1 hD e2 hT p
theorem lcT {te : TE} {g : TG} {tt : TT} {el : TE} {vs : List Nat} {a : Addr} {xs : List V} (he : ∀ R : VK, R (.ref a) H → te σ H R) (hq : SqT K H a xs) (Pv : Addr → Nat → Hp → Prop)
    (h0 : ∀ D, H D = none → Pv D 0 (upd H D (.lst []))) (hG : ∀ D i H', H D = none → i ≤ xs.length → Pv D i H' → SqT K H' a xs)
    (hs : ∀ D i x H1, H D = none → xs[i]? = some x → Pv D i H1 → g x (wipe σ vs) H1 fun σ2 H2 => wipe σ2 vs = wipe σ vs ∧ tt σ2 H2 fun b H3 =>
      if b = true then el σ2 H3 fun y H4 => ∃ acc, H4 D = some (.lst acc) ∧ acc.length < sizeLine ∧ Pv D (i + 1) (upd H4 D (.lst (acc ++ [y]))) else Pv D (i + 1) H3) (hd : ∀ D H', H D = none → Pv D xs.length H' → Q (.ref D) H') : tLc (iTup K te) g tt el vs σ H Q := by
  refine r_lcI (fun R z => he _ ⟨a, rfl, ⟨xs, hq⟩, z⟩) walk_tup Pv h0 hG ?_ hd
  rintro D i x H1 H2 hD hi p ⟨eH, e2⟩
  rw [eH]
  exact hs D i x H1 hD e2 p
theorem lcL {te : TE} {g : TG} {tt : TT} {el : TE} {vs : List Nat} {a : Addr} {xs : List V} (he : ∀ R : VK, R (.ref a) H → te σ H R) (hq : SqL K H a xs) (Pv : Addr → Nat → Hp → Prop)
    (h0 : ∀ D, H D = none → Pv D 0 (upd H D (.lst []))) (hG : ∀ D i H', H D = none → i ≤ xs.length → Pv D i H' → SqL K H' a xs)
    (hs : ∀ D i x H1, H D = none → xs[i]? = some x → Pv D i H1 → g x (wipe σ vs) H1 fun σ2 H2 => wipe σ2 vs = wipe σ vs ∧ tt σ2 H2 fun b H3 =>
      if b = true then el σ2 H3 fun y H4 => ∃ acc, H4 D = some (.lst acc) ∧ acc.length < sizeLine ∧ Pv D (i + 1) (upd H4 D (.lst (acc ++ [y]))) else Pv D (i + 1) H3) (hd : ∀ D H', H D = none → Pv D xs.length H' → Q (.ref D) H') : tLc (iList K te) g tt el vs σ H Q := by
  refine r_lcI (fun R z => he _ ⟨a, rfl, ⟨xs, hq⟩, z⟩) walk_list Pv h0 hG ?_ hd
  rintro D i x H1 H2 hD hi p ⟨eH, e2⟩
  rw [eH]
  exact hs D i x H1 hD e2 p
/-- range(n) -/
theorem lcR {te : TE} {g : TG} {tt : TT} {el : TE} {vs : List Nat} {n : Nat} {H0 : Hp} (he : ∀ R : VK, R (.int (n : Nat)) H0 → te σ H R) (hn : n < 1000000) (Pv : Addr → Nat → Hp → Prop)
    (h0 : ∀ D, H0 D = none → Pv D 0 (upd H0 D (.lst [])))
    (hs : ∀ D i H1, H0 D = none → i < n → Pv D i H1 → g (.int (i : Nat)) (wipe σ vs) H1 fun σ2 H2 => wipe σ2 vs = wipe σ vs ∧ tt σ2 H2 fun b H3 =>
      if b = true then el σ2 H3 fun y H4 => ∃ acc, H4 D = some (.lst acc) ∧ acc.length < sizeLine ∧ Pv D (i + 1) (upd H4 D (.lst (acc ++ [y]))) else Pv D (i + 1) H3) (hd : ∀ D H', H0 D = none → Pv D n H' → Q (.ref D) H') : tLc (iRng1 (tCons te tNil)) g tt el vs σ H Q := by
  refine he _ ⟨_, rfl, by omega, by omega, fun D hD => lc_it walk_range (Pv D) (h0 D hD) (fun _ _ _ _ => True.intro) ?_ fun H' p => hd D H' hD (by simpa using p)⟩
  rintro i x H1 H2 hi p ⟨eH, ex⟩
  have hi' : i < n := by simpa using hi
  have e : x = .int (i : Nat) := ex.trans (congrArg V.int (Int.zero_add _))
  rw [eH, e]
  exact hs D i H1 hD hi' p
theorem forR {te : TE} {g : TG} {tb : TS} {n : Nat} {H0 : Hp} (he : ∀ R : VK, R (.int (n : Nat)) H0 → te σ H R) (hn : n < 1000000) (Pv : Nat → L2.St → Hp → Prop) (h0 : Pv 0 σ H0)
    (hs : ∀ i σ H, i < n → Pv i σ H → g (.int (i : Nat)) σ H fun σ2 H2 => tb { D with nx := Pv (i + 1), ct := Pv (i + 1), bk := D.nx } σ2 H2) (hd : ∀ σ H, Pv n σ H → D.nx σ H) :
    tFor (iRng1 (tCons te tNil)) g tb D σ H := by
  refine he _ ⟨_, rfl, by omega, by omega, for_it walk_range Pv h0 (fun _ _ _ _ _ => True.intro) ?_ (fun σ' H' p => hd σ' H' (by simpa using p))⟩
  rintro i x σ H1 H2 hi p ⟨eH, ex⟩
  have hi' : i < n := by simpa using hi
  have e : x = .int (i : Nat) := ex.trans (congrArg V.int (Int.zero_add _))
  rw [eH, e]
  exact hs i σ H1 hi' p
end
section
variable {P : Program} {w : World} {K : PySem.W.Frag} {mg : Str → Option Value} {base : Heap} {G : List Addr} {L : List (Addr × Str)}
def spChkClauses (K : PySem.W.Frag) (G : List Addr) (L : List (Addr × Str)) : Sp := fun vs H Q E => ∃ (nv v : V) (nd : List PyData) (d : PyData), vs = [nv, v] ∧ Dp K H nv (.tuple nd) ∧ Dp K H v d ∧ lv 8 (.tuple nd) = true ∧ lv 8 d = true ∧ (∀ ds, d = .tuple ds → ds.length ≤ 60) ∧
  (∀ i, clausesBad nd d = some i → ∀ cls dd H', Go G L H H' → Told K cls dd H' (rulesE "clauses" i) → E cls dd H') ∧ (clausesBad nd d = none → ∀ H', Go G L H H' → Q .non H')
theorem scChkClauses : FnScope ["names", "clauses", "index", "clause"] ["names", "clauses"] (defScope sChkClauses) := C8.fnScope_by (by decide +kernel)
theorem ok_chkClauses {f : Addr} {fd : FuncData} {t40 : Tok} (F : Fun K "check_clauses" "check_clauses" sChkClauses f fd) (zI : mg "isinstance" = none) (z1 : mg "tuple" = none) (zE : mg "enumerate" = none) (g40 : mg "MOST_CLAUSES" = some (.int 40 t40))
    (T : Err P w K mg base "InvalidRules" (spIR K (He.ga K "InvalidRules"))) (N : Fd CX0 P w K mg base "is_clause" 1 (spIsClause K)) : FnOk P w K mg base (L2.CX P w) 3 f fd ["names", "clauses"] (spChkClauses K G L) := by
  refine F.okX scChkClauses (fun vs H Q E h => ?_) (fun cdv A outer s H vs Q E hr h => ?_)
  · obtain ⟨nv, v, nd, d, e, _⟩ := h
    rw [e]
    rfl
  · obtain ⟨nv, v, nd, d, e, hn, hd, l0, l1, hl, qE, q⟩ := h
    subst e
    refine ⟨_, pss_cons (ps_if (pt_not (pt_val (pe_callB call_isi rfl zI boot_isinstance (pa_cons (pv 1) (pa_cons (pe_bltn (v := .ty "tuple") rfl z1 boot_tuple rfl) pa_nil)))))
        (pss_one (ps_raise rfl (takes_of rfl rfl rfl rfl) (pmk_err T hr (pa_cons pe_str (pa_cons pe_int pa_nil))))) pss_nil)
      (pss_one (ps_for (passes_of rfl) rfl (pi_enumT rfl zE (pa_cons (pv 1) pa_nil)) (pg_tup rfl (pgs_cons (pg_name (i := 2) scChkClauses.nd rfl (.inl rfl)) (pgs_cons (pg_name (i := 3) scChkClauses.nd rfl (.inl rfl)) pgs_nil)))
        (pss_one (ps_if (PW.pt (pw_or (pt_cmpR op_ge (pv 2) (pe_glob (v := .int 40) rfl g40 ⟨_, rfl⟩) (nomark _)) (pw_or1 (pt_not (pt_val (pe_fd (E := E0) N hr pass0 (pa_cons (pv 0) (pa_cons (pv 3) pa_nil))))))))
          (pss_one (ps_raise rfl (takes_of rfl rfl rfl rfl) (pmk_err T hr (pa_cons pe_str (pa_cons (pv 2) pa_nil))))) pss_nil)))), ?_⟩
    repeat walk_at "rd"
    refine r_isi (m := "tuple") (Dp.kd hd) (by decide) ?_
    repeat walk_at "rd"
    by_cases hz : ∃ ds, d = .tuple ds
    · obtain ⟨ds, rfl⟩ := hz
      cases hd with
      | @tup a xs _ ha hxs =>
        refine r_if (fun cc => absurd cc (by simp [tyOf])) (fun _ => ?_)
        repeat walk_at "rd"
        have hlen := Dps.length hxs
        have hs60 := hl ds rfl
        have m := lv_mem l1
        refine forET (a := a) (xs := xs) (fun R z => ⟨_, rfl, z⟩) ha (fun i σ H' => ∃ (x3 x4 : Option V), σ = [some nv, some (.ref a), x3, x4] ∧ Go G L H H' ∧ scanC nd 0 ds = scanC nd i (ds.drop i)) ?_ ?_ ?_ ?_
        · exact ⟨none, none, rfl, Go.refl H, rfl⟩
        · rintro i σ H' _ ⟨_, _, _, g, _⟩
          exact sqT_go ha g.1
        · rintro i y T2 σ H1 H2 ey hT rfl ⟨x3, x4, rfl, g, hsc⟩
          have g2 : Go G L H (upd H1 T2 (.tup [.int (i : Nat), y])) := g.trans (Go.new hT)
          refine r_pair (.of upd_same) ?_
          obtain ⟨dy, hdy, hy, hdrop, hil, htk⟩ := dps_at hxs ey
          generalize upd H1 T2 (.tup [.int (i : Nat), y]) = H3 at g2
          have hy2 := Dp.go g2.1 hy
          rw [hdrop] at hsc
          have hmem := List.mem_of_getElem? hdy
          have bad : (decide ((40 : Int) ≤ (i : Nat)) || !clauseOk nd dy) = true → clausesBad nd (.tuple ds) = some i := fun c => by
            show scanC nd 0 ds = some i
            rw [hsc]
            exact if_pos c
          repeat walk_at "rd"
          refine r_if (fun c2 => ?_) (fun c2 => ?_)
          · repeat walk_at "rd"
            refine r_mkIR ?_ (m_cons m_c (m_cons m_var m_nil) _)
            repeat walk_at "rd"
            exact ⟨"clauses", i, rfl, by decide, by omega, fun dd Hx k hx => qE i (bad (by rw [c2]; rfl)) _ _ Hx (g2.trans (Go.same k)) (told_rules hx)⟩
          · repeat walk_at "rd"
            refine ⟨nv, y, nd, dy, rfl, Dp.go g2.1 hn, hy2, l0, m dy hmem, ?_⟩
            repeat walk_at "rd"
            refine r_if (fun c3 => ?_) (fun c3 => ?_)
            · repeat walk_at "rd"
              refine r_mkIR ?_ (m_cons m_c (m_cons m_var m_nil) _)
              repeat walk_at "rd"
              exact ⟨"clauses", i, rfl, by decide, by omega, fun dd Hx k hx => qE i (bad (by rw [c2, c3]; rfl)) _ _ Hx (g2.trans (Go.same k)) (told_rules hx)⟩
            · repeat walk_at "rd"
              refine ⟨_, _, rfl, g2, ?_⟩
              rw [hsc]
              show (if decide ((40 : Int) ≤ (i : Nat)) || !clauseOk nd dy then some i else _) = _
              rw [c2, c3]
              rfl
        · rintro σ H' ⟨x3, x4, rfl, g, hsc⟩
          refine q ?_ H' g
          show scanC nd 0 ds = none
          rw [hsc, hlen, List.drop_length]
          rfl
    · have e1 : (!(tyOf d == "tuple" || tyOf d == "bool" && "tuple" == "int")) = true := by
        cases d <;> first | rfl | exact absurd ⟨_, rfl⟩ hz
      have e2 : clausesBad nd d = some 0 := by
        cases d <;> first | rfl | exact absurd ⟨_, rfl⟩ hz
      rw [if_pos e1]
      repeat walk_at "rd"
      refine r_mkIR ?_ (m_cons m_c (m_cons m_c m_nil) _)
      repeat walk_at "rd"
      exact ⟨"clauses", 0, rfl, by decide, by decide, fun dd Hx k hx => qE 0 e2 _ _ Hx (Go.same k) (told_rules hx)⟩
end
section
variable {P : Program} {w : World} {K : PySem.W.Frag} {mg : Str → Option Value} {base : Heap} {G : List Addr} {L : List (Addr × Str)}
theorem r_asgE {te : TE} {g : TG} {D : Ends} {σ : L2.St} {H : Hp} {x : V} (he : ∀ R : VK, R x H → te σ H R) (q : g x σ H D.nx) : tAsg te g D σ H := he _ q
theorem g_three {σ : L2.St} {H : Hp} {T : Addr} {x y z : V} {i j k : Nat} {Q : L2.St → Hp → Prop} (h : SqT K H T [x, y, z]) (q : Q (((σ.set i (some x)).set j (some y)).set k (some z)) H) : gTup K 3 (gCons (gName i) (gCons (gName j) (gCons (gName k) gNil))) (.ref T) σ H Q :=
  ⟨T, _, rfl, h, rfl, _, _, rfl, _, _, rfl, _, _, rfl, rfl, q⟩
def spFul (K : PySem.W.Frag) : Sp := fun vs H Q _ => ∃ sv cv sd w a b, vs = [sv, cv] ∧ Dp K H sv (.tuple sd) ∧ Dp K H cv (.tuple [.str w, a, b]) ∧ lv 8 (.tuple sd) = true ∧ lv 8 a = true ∧ lv 8 b = true ∧ Q (.bl (holdsD sd w a b)) H
theorem scFul : FnScope ["state", "clause", "word", "first", "second"] ["state", "clause"] (defScope sFulfils) := C8.fnScope_by (by decide +kernel)
theorem ok_fulfils {f : Addr} {fd : FuncData} (F : Fun K "fulfils" "fulfils" sFulfils f fd) : FnOk P w K mg base CX0 1 f fd ["state", "clause"] (spFul K) := by
  refine F.ok scFul (fun vs H Q E h => ?_) (fun cdv A outer s H vs Q E hr h => ?_)
  · obtain ⟨sv, cv, sd, w, a, b, e, _⟩ := h
    rw [e]
    rfl
  · obtain ⟨sv, cv, sd, w, a, b, e, hs, hc, l0, l1, l2, q⟩ := h
    subst e
    refine ⟨_, pss_cons (ps_asg (pv 1) (pg_tup rfl (pgs_cons (pg_name (i := 2) scFul.nd rfl (.inl rfl)) (pgs_cons (pg_name (i := 3) scFul.nd rfl (.inl rfl)) (pgs_cons (pg_name (i := 4) scFul.nd rfl (.inl rfl)) pgs_nil)))))
      (pss_cons (ps_if (pt_cmpR op_eq (pv 2) pe_str (nomark _)) (pss_one (ps_ret (pe_or (pe_cmpR (op_notInT (u65 hr)) (pv 3) (pv 0) rfl) (pe_one (pe_cmpR (op_inT (u65 hr)) (pv 4) (pv 0) rfl))))) pss_nil)
      (pss_cons (ps_if (pt_cmpR op_eq (pv 2) pe_str (nomark _)) (pss_one (ps_ret (pe_or (pe_cmpR (op_notInT (u65 hr)) (pv 3) (pv 0) rfl) (pe_one (pe_cmpR (op_notInT (u65 hr)) (pv 4) (pv 0) rfl))))) pss_nil)
      (pss_one (ps_ret (pe_or (pe_cmpR (op_inT (u65 hr)) (pv 3) (pv 0) rfl) (pe_one (pe_cmpR (op_inT (u65 hr)) (pv 4) (pv 0) rfl))))))), ?_⟩
    cases hc with
    | @tup T xs _ hT hxs =>
      have h3 : xs.length = 3 := Dps.length hxs
      obtain ⟨x, y, z, dx, dy, dz, e1, e2, hx, hy, hz⟩ := three_of hxs h3
      cases e2
      subst e1
      cases hx
      refine r_seq (r_asgE (x := .ref T) (fun R z => ⟨_, rfl, z⟩) (g_three hT ?_))
      repeat walk_at "rd"
      refine r_eq rfl ?_
      repeat walk_at "rd"
      refine r_if (fun c1 => ?_) (fun c1 => ?_)
      · have ew : w = "needs" := V.str.inj (of_decide_eq_true c1)
        subst ew
        repeat walk_at "rd"
        refine r_ninT hy hs l1 l0 ?_
        repeat walk_at "rd"
        refine r_if (fun c2 => ?_) (fun c2 => ?_)
        · have e : holdsD sd "needs" a b = true := by
            show (!inD a sd || inD b sd) = true
            rw [c2]
            rfl
          rw [e] at q
          exact q
        · repeat walk_at "rd"
          refine r_inT hz hs l2 l0 ?_
          have e : holdsD sd "needs" a b = inD b sd := by
            show (!inD a sd || inD b sd) = _
            rw [c2]
            rfl
          rw [e] at q
          exact q
      · have ew : w ≠ "needs" := fun z => of_decide_eq_false c1 (congrArg V.str z)
        repeat walk_at "rd"
        refine r_eq rfl ?_
        repeat walk_at "rd"
        refine r_if (fun c3 => ?_) (fun c3 => ?_)
        · have ew2 : w = "excludes" := V.str.inj (of_decide_eq_true c3)
          have e0 : holdsD sd w a b = (!inD a sd || !inD b sd) := by
            unfold holdsD
            rw [if_neg ew, if_pos ew2]
          rw [e0] at q
          repeat walk_at "rd"
          refine r_ninT hy hs l1 l0 ?_
          repeat walk_at "rd"
          refine r_if (fun c2 => ?_) (fun c2 => ?_)
          · rw [c2] at q
            exact q
          · repeat walk_at "rd"
            refine r_ninT hz hs l2 l0 ?_
            rw [c2] at q
            exact q
        · have ew2 : w ≠ "excludes" := fun z => of_decide_eq_false c3 (congrArg V.str z)
          have e0 : holdsD sd w a b = (inD a sd || inD b sd) := by
            unfold holdsD
            rw [if_neg ew, if_neg ew2]
          rw [e0] at q
          repeat walk_at "rd"
          refine r_inT hy hs l1 l0 ?_
          repeat walk_at "rd"
          refine r_if (fun c2 => ?_) (fun c2 => ?_)
          · rw [c2] at q
            exact q
          · repeat walk_at "rd"
            refine r_inT hz hs l2 l0 ?_
            rw [c2] at q
            exact q
structure RulC (K : PySem.W.Frag) (mg : Str → Option Value) : Prop where
  cl : Cls K (cR K)
  n1 : NoAttr K (cR K) "_names"
  n2 : NoAttr K (cR K) "_clauses"
  g : mg "Rules" = some (.ref (cR K))
def spInit (K : PySem.W.Frag) (G : List Addr) (L : List (Addr × Str)) : Sp := fun vs H Q E => ∃ (x dx : Addr) (nv cv : V) (dn dc : PyData), vs = [.ref x, nv, cv] ∧ H x = some (.ins (cR K) dx []) ∧ Dp K H nv dn ∧ Dp K H cv dc ∧ okN dn ∧ okC dc ∧ TBS G L H ∧
  (∀ D, rulesBad dn dc = some D → ∀ cls dd H', Go G L H H' → Told K cls dd H' D → E cls dd H') ∧ (rulesBad dn dc = none → ∀ Hm, Go G L H Hm → Q .non (upd Hm x (.ins (cR K) dx (rfs nv cv))))
theorem scInit : FnScope ["self", "names", "clauses"] ["self", "names", "clauses"] (defScope (sM 0)) := C8.fnScope_by (by decide +kernel)
theorem ok_init {f : Addr} {fd : FuncData} (F : Fun K "__init__" "Rules.__init__" (sM 0) f fd) (R : RulC K mg) (N : Fd (L2.CX P w) P w K mg base "check_names" 3 (spChkNames K G L)) (C : Fd (L2.CX P w) P w K mg base "check_clauses" 3 (spChkClauses K G L)) :
    FnOk P w K mg base (L2.CX P w) 4 f fd ["self", "names", "clauses"] (spInit K G L) := by
  refine F.okX scInit (fun vs H Q E h => ?_) (fun cdv A outer s H vs Q E hr h => ?_)
  · obtain ⟨x, dx, nv, cv, dn, dc, e, _⟩ := h
    rw [e]
    rfl
  · obtain ⟨x, dx, nv, cv, dn, dc, e, hx, hn, hc, on, oc, ht, qE, q⟩ := h
    subst e
    refine ⟨_, pss_cons (ps_expr (pe_fd N hr (passes_call (takes_of rfl rfl rfl rfl) fun _ _ _ _ z => z) (pa_cons (pv 1) pa_nil)))
      (pss_cons (ps_expr (pe_fd C hr (passes_call (takes_of rfl rfl rfl rfl) fun _ _ _ _ z => z) (pa_cons (pv 1) (pa_cons (pv 2) pa_nil))))
      (pss_cons (ps_fld (pv 0) (pv 1) rfl) (pss_one (ps_fld (pv 0) (pv 2) rfl)))), ?_⟩
    repeat walk_at "rd"
    refine ⟨nv, dn, rfl, hn, on.1, ht, on.2, fun i hi cls dd H' g t => qE _ (by unfold rulesBad; rw [hi]) cls dd H' g t, fun hi H1 g1 => ?_⟩
    have hz : ∃ nd, dn = .tuple nd := by
      cases dn with
      | tuple nd => exact ⟨nd, rfl⟩
      | _ => cases hi
    obtain ⟨nd, rfl⟩ := hz
    have er : rulesBad (.tuple nd) dc = (clausesBad nd dc).map (rulesE "clauses") := by
      unfold rulesBad
      rw [hi]
    repeat walk_at "rd"
    refine ⟨nv, cv, nd, dc, rfl, Dp.go g1.1 hn, Dp.go g1.1 hc, lv_succ on.1, oc.1, oc.2, fun i hc' cls dd H' g t => qE _ (by rw [er, hc']; rfl) cls dd H' (g1.trans g) t, fun hc' H2 g2 => ?_⟩
    have g3 := g1.trans g2
    have hx2 : H2 x = some (.ins (cR K) dx []) := g3.1 x _ hx fun _ z => by cases z
    repeat walk_at "rd"
    refine ⟨_, rfl, .ref x, rfl, x, _, dx, [], rfl, hx2, R.cl, R.n1, (by show 0 < 1000; decide), ?_⟩
    refine ⟨_, rfl, .ref x, rfl, x, _, dx, _, rfl, upd_same, R.cl, R.n2, (by show 1 < 1000; decide), ?_⟩
    have z := q (by rw [er, hc']; rfl) H2 g3
    rw [upd_upd]
    exact z
end
section
variable {P : Program} {w : World} {K : PySem.W.Frag} {mg : Str → Option Value} {base : Heap} {G : List Addr} {L : List (Addr × Str)}
/-- Rules(..) may be called -/
structure Mkr (P : Program) (w : World) (K : PySem.W.Frag) (mg : Str → Option Value) (base : Heap) (G : List Addr) (L : List (Addr × Str)) : Prop where
  rc : RulC K mg
  ex : ∃ (f : Addr) (fd : FuncData) (ps : List Str), Mk K (cR K) f ∧ FnOk P w K mg base (L2.CX P w) 4 f fd ps (spInit K G L) ∧ Binds K fd ps []
theorem pe_rules {X : Cx} {j : Nat} {E : XK} {p pos : Pos} {e : Expr} {es : List Expr} {t : TA} (M : Mkr X.prog X.w X.K X.mg X.base G L) (hr : Room j X.A) (hx : Passes (L2.CX X.prog X.w) X E) (ha : PA X (e :: es) t) (hk : 5 ≤ j := by decide) (hg : Gl X "Rules" := by rfl)
    (he : starEach (e :: es) X.env = (false, eval e X.env) :: starEach es X.env := by rfl) (hpl : (backTo pos (starEach es X.env)).any (·.1) = false := by rfl) :
    PE X (.Call (.Name "Rules" p) (e :: es) [] pos) (tMake (cR X.K) (spInit X.K G L) [] E t) := by
  obtain ⟨f, fd, ps, h1, F, b⟩ := M.ex
  exact pe_make h1 F (hr.mono hk) hg M.rc.g b .nil hx ha (by decide) he hpl
/-- what Rules(..) asks -/
def aRules (K : PySem.W.Frag) (G : List Addr) (L : List (Addr × Str)) (E : XK) (Q : VK) : List V → Hp → Prop := fun vs H1 => ∃ nv cv dn dc, vs = [nv, cv] ∧ Dp K H1 nv dn ∧ Dp K H1 cv dc ∧ okN dn ∧ okC dc ∧ TBS G L H1 ∧
  (∀ D, rulesBad dn dc = some D → ∀ cls dd H', Go G L H1 H' → Told K cls dd H' D → E cls dd H') ∧ (rulesBad dn dc = none → ∀ x dx H', Go G L H1 H' → H' x = some (.ins (cR K) dx (rfs nv cv)) → Q (.ref x) H')
theorem mk_rules {H1 : Hp} {vs : List V} {E : XK} {Q : VK} (h : aRules K G L E Q vs H1) : ∀ x dx, H1 x = none → H1 dx = none → dx ≠ x → spInit K G L (.ref x :: (vs ++ [])) (upd (upd H1 dx (.own x)) x (.ins (cR K) dx [])) (fun v H2 => v = .non ∧ Q (.ref x) H2) E := by
  obtain ⟨nv, cv, dn, dc, ev, hn, hc, on, oc, ht, qE, q⟩ := h
  subst ev
  intro x dx nx ndx nex
  have g0 : Go G L H1 (upd (upd H1 dx (.own x)) x (.ins (cR K) dx [])) := (Go.new ndx).trans (Go.new (by rw [upd_ne nex.symm]; exact nx))
  refine ⟨x, dx, nv, cv, dn, dc, rfl, upd_same, Dp.go g0.1 hn, Dp.go g0.1 hc, on, oc, g0.2 ht, fun D hD cls dd H' g t => qE D hD cls dd H' (g0.trans g) t, fun hb Hm g => ⟨rfl, q hb x dx _ ?_ upd_same⟩⟩
  have g1 := g0.trans g
  have hx : Hm x = some (.ins (cR K) dx []) := g.1 x _ upd_same fun _ z => by cases z
  refine ⟨fun b o e nt => by rw [upd_ne (ne_of_none e nx)]; exact g1.1 b o e nt, fun t => ?_⟩
  have t1 := g1.2 t
  have k : ∀ b o, (∀ z, o ≠ .ins (cR K) dx z) → Hm b = some o → upd Hm x (.ins (cR K) dx (rfs nv cv)) b = some o := fun b o n e => by
    rw [upd_ne (fun z => by rw [z, hx] at e; exact n _ (Option.some.inj e).symm)]
    exact e
  refine ⟨fun p hp => ?_, fun p hp => ?_⟩
  · obtain ⟨ps, e, _⟩ := t1.1 p hp
    exact tabG_keep (t1.1 p hp) fun o eo => k p o (fun z q => by rw [q, e] at eo; cases eo) eo
  · obtain ⟨ps, e, _⟩ := t1.2 p hp
    exact tabS_keep (t1.2 p hp) (fun o eo => k _ o (fun z q => by rw [q, e] at eo; cases eo) eo) fun c hc => k c _ (fun z q => by
      have q' : HO.ext _ = HO.ins (cR K) dx z := q
      cases q') hc
theorem r_catT {H : Hp} {Q : VK} {a b : Addr} {xs ys : List V} (h1 : Tp H a xs) (h2 : Tp H b ys) (hl : xs.length + ys.length ≤ sizeLine) (q : ∀ p H', (∀ b o, H b = some o → H' b = some o) → Tp H' p (xs ++ ys) → Q (.ref p) H') : rCatA K (.ref a) (.ref b) H Q := by
  refine ⟨a, b, xs, ys, rfl, rfl, h1.seq, h2.seq, hl, fun e => q b H (fun _ _ e => e) (by rw [e]; exact h2), fun _ e => q a H (fun _ _ e => e) (by rw [e, List.append_nil]; exact h1), fun _ _ p hp => q p _ (fun b o e => by rw [upd_ne (ne_of_none e hp)]; exact e) (.inl upd_same)⟩
theorem lv_strs {n : Nat} {ns : List Str} (h : ∀ z ∈ ns, PyData.strOk z = true) : lv (n + 1) (.tuple (ns.map PyData.str)) = true := lv_tup fun d hd => by
  obtain ⟨z, hz, e⟩ := List.mem_map.mp hd
  rw [← e]
  cases n <;> exact h z hz
theorem OkR.lvc {ns : List Str} {cd : List PyData} (h : OkR ns cd) : ∀ d ∈ cd, lv 1 d = true := fun d hd => by
  obtain ⟨w, a, b, rfl, hw, ha, hb⟩ := clause_shape (h.cs d hd)
  refine lv_tup fun x hx => ?_
  have hx' : x = .str w ∨ x = .str a ∨ x = .str b := by simpa using hx
  rcases hx' with rfl | rfl | rfl
  · exact word_ok hw
  · exact h.gs.1 a ha
  · exact h.gs.1 b hb
theorem lv_up {n m : Nat} {d : PyData} (h : lv n d = true) (hm : n ≤ m) : lv m d = true := by
  induction hm with
  | refl => exact h
  | step _ ih => exact lv_succ ih
theorem OkR.on {ns : List Str} {cd : List PyData} (h : OkR ns cd) : okN (.tuple (ns.map PyData.str)) := ⟨lv_strs h.gs.1, fun ds e => by
  cases e
  refine ⟨by rw [List.length_map]; exact h.gs.2, fun x hx => ?_⟩
  obtain ⟨z, hz, e⟩ := List.mem_map.mp hx
  rw [← e]
  exact h.sm z hz⟩
theorem scanC_none {nd : List PyData} : ∀ {ds : List PyData} {i : Nat}, (∀ d ∈ ds, clauseOk nd d = true) → i + ds.length ≤ 40 → scanC nd i ds = none
  | [], _, _, _ => rfl
  | d :: ds, i, h, hl => by
    rw [List.length_cons] at hl
    show (if decide ((40 : Int) ≤ (i : Nat)) || !clauseOk nd d then some i else scanC nd (i + 1) ds) = none
    rw [h d (by simp), decide_eq_false (by omega)]
    exact scanC_none (fun d hd => h d (List.mem_cons_of_mem _ hd)) (by omega)
theorem scanC_full {nd : List PyData} : ∀ {ds : List PyData} {i : Nat}, (∀ d ∈ ds, clauseOk nd d = true) → i ≤ 40 → 40 < i + ds.length → scanC nd i ds = some 40
  | [], i, _, h1, h2 => by simp at h2; omega
  | d :: ds, i, h, h1, h2 => by
    rw [List.length_cons] at h2
    show (if decide ((40 : Int) ≤ (i : Nat)) || !clauseOk nd d then some i else scanC nd (i + 1) ds) = _
    rw [h d (by simp)]
    by_cases hi : i = 40
    · subst hi
      rfl
    · rw [decide_eq_false (by omega)]
      exact scanC_full (fun d hd => h d (List.mem_cons_of_mem _ hd)) (by omega) (by omega)
theorem OkR.rb {ns : List Str} {cd ce : List PyData} (h : OkR ns cd) (hc : ∀ d ∈ ce, clauseOk (ns.map PyData.str) d = true) : rulesBad (.tuple (ns.map PyData.str)) (.tuple ce) = if ce.length ≤ 40 then none else some (rulesE "clauses" 40) := by
  unfold rulesBad
  rw [h.nb]
  show (scanC (ns.map PyData.str) 0 ce).map (rulesE "clauses") = _
  by_cases hl : ce.length ≤ 40
  · rw [scanC_none hc (by omega), if_pos hl]
    rfl
  · rw [scanC_full hc (by omega) (by omega), if_neg hl]
    rfl
end
section
variable {P : Program} {w : World} {K : PySem.W.Frag} {mg : Str → Option Value} {base : Heap} {G : List Addr} {L : List (Addr × Str)}
/-- an own error without __init__ -/
structure Er0 (K : PySem.W.Frag) (mg : Str → Option Value) (x : Str) : Prop where
  q : PySem.W.excIn K (He.ga K x) He.veBase "ValueError.__new__" = true
  g : mg x = some (.ref (He.ga K x))
  k : PySem.W.keepIn K (.ref (He.ga K x)) = true
  b : PySem.W.subIn K (.ref (He.ga K x)) (.type "BaseException") = some true
  t : PySem.W.typeIn K (.ref (He.ga K x)) = some (.type "type")
theorem pmk_er0 {X : Cx} {x m : Str} {j : Nat} {p p2 pos : Pos} (T : Er0 X.K X.mg x) (hg : Gl X x := by rfl) (hdb : (x == ("__debug__" : Str)) = false := by decide) : PMk X (.Call (.Name x p) [.Constant (.str m) j p2] [] pos) (fun _ H Q => Q (.ref (He.ga X.K x)) none H) :=
  pmk_own PySem.F.excBase_ValueError T.q T.g T.k (raises_own T.b T.t) hg hdb
/-- a method of Rules -/
structure Fm (P : Program) (w : World) (K : PySem.W.Frag) (mg : Str → Option Value) (base : Heap) (m : Str) (k : Nat) (sp : Sp) : Prop where
  c : Cls K (cR K)
  ex : ∃ (f : Addr) (fd : FuncData) (ps : List Str), Meth K (cR K) m f ∧ FnOk P w K mg base (L2.CX P w) k f fd ps sp ∧ Binds K fd ps []
theorem pe_fm {X : Cx} {m : Str} {k j : Nat} {sp : Sp} {E : XK} {o e : Expr} {es : List Expr} {apos pos : Pos} {ta : TE} {t : TA} {pl : Sem Bool} (c : Fm X.prog X.w X.K X.mg X.base m k sp) (hr : Room j X.A) (he : PE X o ta) (hx : Passes (L2.CX X.prog X.w) X E) (ha : PA X (e :: es) t) (hk : k ≤ j := by decide)
    (hc : eval (.Call (.Attribute o m apos) (e :: es) [] pos) X.env = (do
      let ov ← eval o X.env
      standAt apos.atName
      let (f, first) ← holding [ov] (getMethod ov m pl)
      callWith pos f first (backTo pos (starEach (e :: es) X.env)) (backToKw pos (keywordEach [] X.env))) := by rfl)
    (hs : starEach (e :: es) X.env = (false, eval e X.env) :: starEach es X.env := by rfl) (hpl : (backTo pos (starEach es X.env)).any (·.1) = false := by rfl) :
    PE X (.Call (.Attribute o m apos) (e :: es) [] pos) (tMeth (cR X.K) m sp [] E ta t) := by
  obtain ⟨f, fd, ps, h1, F, b⟩ := c.ex
  exact pe_meth he c.c h1 F (hr.mono hk) b .nil hx ha hs hpl hc
theorem r_fm {σ : L2.St} {H : Hp} {m : Str} {sp : Sp} {E : XK} {ta : TE} {t : TA} {Q : VK} {x : Addr} {ns : List Str} {cd : List PyData} (hx : ∀ R : VK, R (.ref x) H → ta σ H R) (hR : RulesAt K H x ns cd) (hn : ∀ nv cv, (rfs nv cv).lookup m = none) (h : t σ H fun vs H2 => sp (.ref x :: (vs ++ [])) H2 Q E) : tMeth (cR K) m sp [] E ta t σ H Q := by
  obtain ⟨dx, an, ac, xs, h1, _⟩ := hR
  exact hx _ ⟨x, dx, _, rfl, h1, hn _ _, h⟩
/-- self._names, self._clauses -/
theorem r_fnames {H : Hp} {Q : VK} {x : Addr} {ns : List Str} {cd : List PyData} (R : RulC K mg) (h : RulesAt K H x ns cd) (q : ∀ an, NT H an (ns.map V.str) → Q (.ref an) H) : rFld K "_names" (.ref x) H Q := by
  obtain ⟨dx, an, ac, xs, h1, h2, _⟩ := h
  exact ⟨x, _, dx, _, .ref an, rfl, h1, R.cl, R.n1, rfl, q an h2⟩
theorem r_fclauses {H : Hp} {Q : VK} {x : Addr} {ns : List Str} {cd : List PyData} (R : RulC K mg) (h : RulesAt K H x ns cd) (q : ∀ ac xs, Tp H ac xs → Ims H xs cd → Q (.ref ac) H) : rFld K "_clauses" (.ref x) H Q := by
  obtain ⟨dx, an, ac, xs, h1, _, h3, h4⟩ := h
  exact ⟨x, _, dx, _, .ref ac, rfl, h1, R.cl, R.n2, rfl, q ac xs h3 h4⟩
end
section
variable {P : Program} {w : World} {K : PySem.W.Frag} {mg : Str → Option Value} {base : Heap} {G : List Addr} {L : List (Addr × Str)}
theorem broken_len (sd : List PyData) : ∀ (ds : List PyData) (i : Nat), (brokenFrom sd i ds).length ≤ ds.length
  | [], _ => Nat.le_refl _
  | d :: ds, i => by
    have ih := broken_len sd ds (i + 1)
    show (if brk sd d then i :: brokenFrom sd (i + 1) ds else brokenFrom sd (i + 1) ds).length ≤ ds.length + 1
    split
    · rw [List.length_cons]
      omega
    · omega
def spBroken (K : PySem.W.Frag) (G : List Addr) (L : List (Addr × Str)) : Sp := fun vs H Q E => ∃ (x : Addr) (v : V) (ns : List Str) (cd : List PyData) (d : PyData), vs = [.ref x, v] ∧ RulesAt K H x ns cd ∧ OkR ns cd ∧ Dp K H v d ∧ lv 7 d = true ∧ (∀ ds, d = .tuple ds → ds.length ≤ 60) ∧
  (∀ i, stateBad ns d = some i → ∀ cls dd H', Go G L H H' → Told K cls dd H' (.tuple [.str "invalid", .int (i : Nat)]) → E cls dd H') ∧
  (∀ ds, d = .tuple ds → stateBad ns d = none → ∀ H' l, (∀ o, (∀ ps, o ≠ .tbl ps) → H l ≠ some o) → Go G L H H' → H' l = some (.lst ((brokenFrom ds 0 cd).map fun i => V.int (i : Nat))) → Q (.ref l) H')
theorem lv_str {n : Nat} {z : Str} (h : PyData.strOk z = true) : lv n (.str z) = true := by
  cases n <;> exact h
def iOr (u v : TI) : TI := fun σ H R => u σ H R ∨ v σ H R
theorem pi_or {X : Cx} {tg iter : Expr} {u v : TI} (a : PI X tg iter u) (b : PI X tg iter v) : PI X tg iter (iOr u v) := ⟨fun pins s σ H R I h => by
  rcases h with h | h
  · exact a.run pins s σ H R I h
  · exact b.run pins s σ H R I h⟩
theorem lcB {σ : L2.St} {H : Hp} {a : Addr} {xs : List V} {Q : VK} {te : TE} {g : TG} {tt : TT} {el : TE} {vs : List Nat} (b : Bool) (he : ∀ R : VK, R (.ref a) H → te σ H R) (hq : Sq2 H b a xs) (Pv : Addr → Nat → Hp → Prop)
    (h0 : ∀ D, H D = none → Pv D 0 (upd H D (.lst []))) (hG : ∀ D i H', H D = none → i ≤ xs.length → Pv D i H' → Sq2 H' b a xs)
    (hs : ∀ D i x H1, H D = none → xs[i]? = some x → Pv D i H1 → g x (wipe σ vs) H1 fun σ2 H2 => wipe σ2 vs = wipe σ vs ∧ tt σ2 H2 fun b H3 =>
      if b = true then el σ2 H3 fun y H4 => ∃ acc, H4 D = some (.lst acc) ∧ acc.length < sizeLine ∧ Pv D (i + 1) (upd H4 D (.lst (acc ++ [y]))) else Pv D (i + 1) H3) (hd : ∀ D H', H D = none → Pv D xs.length H' → Q (.ref D) H') : tLc (iOr (iTup K te) (iList K te)) g tt el vs σ H Q := by
  cases b
  · exact .inl (lcT (K := K) he (Tp.seq hq) Pv h0 (fun D i H' hD hi p => Tp.seq (hG D i H' hD hi p)) hs hd)
  · exact .inr (lcL (K := K) he (.of hq) Pv h0 (fun D i H' hD hi p => .of (hG D i H' hD hi p)) hs hd)
/-- enumerate of a list | of a tuple, in a comprehension -/
theorem lcEL {σ : L2.St} {H : Hp} {Q : VK} {te : TE} {g : TG} {tt : TT} {el : TE} {vs : List Nat} {a : Addr} {xs : List V} (he : ∀ R : VK, R (.ref a) H → te σ H R) (hq : SqL K H a xs) (Pv : Addr → Nat → Hp → Prop)
    (h0 : ∀ D, H D = none → Pv D 0 (upd H D (.lst []))) (hG : ∀ D i H', H D = none → i ≤ xs.length → Pv D i H' → SqL K H' a xs)
    (hs : ∀ D i x T H1, H D = none → xs[i]? = some x → H1 T = none → Pv D i H1 → g (.ref T) (wipe σ vs) (upd H1 T (.tup [.int (i : Nat), x])) fun σ2 H2 => wipe σ2 vs = wipe σ vs ∧ tt σ2 H2 fun b H3 =>
      if b = true then el σ2 H3 fun y H4 => ∃ acc, H4 D = some (.lst acc) ∧ acc.length < sizeLine ∧ Pv D (i + 1) (upd H4 D (.lst (acc ++ [y]))) else Pv D (i + 1) H3) (hd : ∀ D H', H D = none → Pv D xs.length H' → Q (.ref D) H') : tLc (iEnum K (tCons te tNil)) g tt el vs σ H Q := by
  refine r_lcI (fun R z => he _ ⟨a, xs, rfl, hq, z⟩) walk_enum Pv h0 hG ?_ hd
  rintro D i x H1 H2 hD hi p ⟨T, x1, y, ev, hT, eH, e1, e2⟩
  cases e1
  rw [ev, eH]
  exact hs D i y T H1 hD e2 hT p
theorem lcEB {σ : L2.St} {H : Hp} {a : Addr} {xs : List V} {Q : VK} {te : TE} {g : TG} {tt : TT} {el : TE} {vs : List Nat} (b : Bool) (he : ∀ R : VK, R (.ref a) H → te σ H R) (hq : Sq2 H b a xs) (Pv : Addr → Nat → Hp → Prop)
    (h0 : ∀ D, H D = none → Pv D 0 (upd H D (.lst []))) (hG : ∀ D i H', H D = none → i ≤ xs.length → Pv D i H' → Sq2 H' b a xs)
    (hs : ∀ D i x T H1, H D = none → xs[i]? = some x → H1 T = none → Pv D i H1 → g (.ref T) (wipe σ vs) (upd H1 T (.tup [.int (i : Nat), x])) fun σ2 H2 => wipe σ2 vs = wipe σ vs ∧ tt σ2 H2 fun b H3 =>
      if b = true then el σ2 H3 fun y H4 => ∃ acc, H4 D = some (.lst acc) ∧ acc.length < sizeLine ∧ Pv D (i + 1) (upd H4 D (.lst (acc ++ [y]))) else Pv D (i + 1) H3) (hd : ∀ D H', H D = none → Pv D xs.length H' → Q (.ref D) H') : tLc (iOr (iEnumT K (tCons te tNil)) (iEnum K (tCons te tNil))) g tt el vs σ H Q := by
  cases b
  · exact .inl (lcET (K := K) he (Tp.seq hq) Pv h0 (fun D i H' hD hi p => Tp.seq (hG D i H' hD hi p)) hs hd)
  · exact .inr (lcEL (K := K) he (.of hq) Pv h0 (fun D i H' hD hi p => .of (hG D i H' hD hi p)) hs hd)
def spAmong (K : PySem.W.Frag) (G : List Addr) (L : List (Addr × Str)) : Sp := fun vs H Q _ => ∃ (b : Bool) (ac : Addr) (xs : List V) (cd ds : List PyData) (v : V), vs = [.ref ac, v] ∧ Sq2 H b ac xs ∧ Ims H xs cd ∧ Dp K H v (.tuple ds) ∧ lv 7 (.tuple ds) = true ∧ cd.length ≤ 1000 ∧ (∀ d ∈ cd, ClS d) ∧
  ∀ H' l, Go G L H H' → H l = none → H' l = some (.lst ((brokenFrom ds 0 cd).map fun i => V.int (i : Nat))) → Q (.ref l) H'
abbrev nAmong : List Str := ["clauses", "state", "index", "clause"]
theorem scAmong : FnScope nAmong ["clauses", "state"] (defScope sAmong) := C8.fnScope_by (by decide +kernel)
theorem ok_among {f : Addr} {fd : FuncData} (F : Fun K "broken_among" "broken_among" sAmong f fd) (zE : mg "enumerate" = none) (FF : Fd CX0 P w K mg base "fulfils" 1 (spFul K)) :
    FnOk P w K mg base CX0 2 f fd ["clauses", "state"] (spAmong K G L) := by
  refine F.ok scAmong (fun vs H Q E h => ?_) (fun cdv A outer s H vs Q E hr h => ?_)
  · obtain ⟨b, ac, xs, cd, ds, v, e, _⟩ := h
    rw [e]
    rfl
  · obtain ⟨b, ac, xs, cd, ds, v, e, hac, hxs, hd, l7, hcl, hcs, q⟩ := h
    subst e
    refine ⟨_, pss_one (ps_ret (pe_lc (own := [("index", 2), ("clause", 3)]) (g := gTup K 2 (gCons (gName 2) (gCons (gName 3) gNil))) (wi := iOr (iEnumT K (tCons (tVar 0) tNil)) (iEnum K (tCons (tVar 0) tNil))) rfl scAmong.nd (pi_or (pi_enumT rfl zE (pa_cons (pv 0) pa_nil)) (pi_enum rfl zE (pa_cons (pv 0) pa_nil)))
        (blkOk_by (own := [("index", 2), ("clause", 3)]) (N := nAmong) (sc := defScope sAmong) (by decide +kernel))
        (fun _ _ _ _ _ => pg_tup rfl (pgs_cons (pg_name (i := 2) scAmong.nd rfl (.inl rfl)) (pgs_cons (pg_name (i := 3) scAmong.nd rfl (.inl rfl)) pgs_nil)))
        (fun _ _ _ _ _ => pts_one (pt_not (pt_val (pe_fd (E := E0) FF hr pass0 (pa_cons (pv 1) (pa_cons (pv 3) pa_nil)))))) (fun _ _ _ _ _ => pv 2))), ?_⟩
    have hlx := hxs.length
    repeat walk_at "rd"
    refine lcEB (a := ac) (xs := xs) b (fun R' z => ⟨_, rfl, z⟩) hac
      (fun D i H' => ∃ acc : List Nat, Go G L H H' ∧ H' D = some (.lst (acc.map fun i => V.int (i : Nat))) ∧ acc.length ≤ i ∧ brokenFrom ds 0 cd = acc ++ brokenFrom ds i (cd.drop i)) ?_ ?_ ?_ ?_
    · intro D hD
      exact ⟨[], Go.new hD, upd_same, Nat.le_refl _, rfl⟩
    · rintro D i H' hD _ ⟨acc, g, _⟩
      exact hac.go g
    · rintro D i y T2 H2 hD ey hT ⟨acc, g, hDl, hal, hb2⟩
      have g3 : Go G L H (upd H2 T2 (.tup [.int (i : Nat), y])) := g.trans (Go.new hT)
      have hDl3 : (upd H2 T2 (.tup [.int (i : Nat), y])) D = some (.lst (acc.map fun i => V.int (i : Nat))) := by rw [upd_ne (ne_of_none hDl hT)]; exact hDl
      refine r_pair (.of upd_same) ⟨rfl, ?_⟩
      generalize upd H2 T2 (.tup [.int (i : Nat), y]) = H3 at g3 hDl3
      obtain ⟨dy, hdy, hy⟩ := hxs.get ey
      obtain ⟨hil, e1⟩ := List.getElem?_eq_some_iff.mp hdy
      have hdrop : cd.drop i = dy :: cd.drop (i + 1) := by
        rw [← e1]
        exact List.drop_eq_getElem_cons hil
      have hmem := List.mem_of_getElem? hdy
      obtain ⟨w', a', b', rfl, hw', ha', hb'⟩ := hcs dy hmem
      repeat walk_at "rd"
      refine ⟨v, y, ds, w', _, _, rfl, Dp.go g3.1 hd, (hy.kt g3.kt).dp, lv_succ l7, lv_str ha', lv_str hb', ?_⟩
      repeat walk_at "rd"
      rw [hdrop] at hb2
      refine r_if (fun c => ?_) (fun c => ?_)
      · repeat walk_at "rd"
        refine ⟨_, hDl3, ?_, acc ++ [i], g3.updNew hD hDl3, ?_, ?_, ?_⟩
        · rw [List.length_map, sizeLine_eq]
          omega
        · rw [upd_same, List.map_append]
          rfl
        · rw [List.length_append]
          show acc.length + 1 ≤ i + 1
          omega
        · rw [hb2]
          have e : brokenFrom ds i (.tuple [.str w', .str a', .str b'] :: cd.drop (i + 1)) = i :: brokenFrom ds (i + 1) (cd.drop (i + 1)) := if_pos c
          rw [e, List.append_assoc]
          rfl
      · refine ⟨acc, g3, hDl3, by omega, ?_⟩
        rw [hb2]
        have e : brokenFrom ds i (.tuple [.str w', .str a', .str b'] :: cd.drop (i + 1)) = brokenFrom ds (i + 1) (cd.drop (i + 1)) := if_neg (by rw [show brk ds (.tuple [.str w', .str a', .str b']) = false from c]; decide)
        rw [e]
    · rintro D H' hD ⟨acc, g, hDl, _, hb2⟩
      have e : brokenFrom ds xs.length (cd.drop xs.length) = [] := by
        rw [hlx, List.drop_length]
        rfl
      rw [e, List.append_nil] at hb2
      exact q H' D g hD (by rw [hb2]; exact hDl)
theorem scBroken : FnScope ["self", "state"] ["self", "state"] (defScope (sM 6)) := C8.fnScope_by (by decide +kernel)
theorem ok_broken {f : Addr} {fd : FuncData} (F : Fun K "broken_clauses" "Rules.broken_clauses" (sM 6) f fd) (R : RulC K mg) (C : Fd (L2.CX P w) P w K mg base "check_state" 3 (spChkState K G L)) (AM : Fd CX0 P w K mg base "broken_among" 2 (spAmong K G L)) :
    FnOk P w K mg base (L2.CX P w) 4 f fd ["self", "state"] (spBroken K G L) := by
  refine F.okX scBroken (fun vs H Q E h => ?_) (fun cdv A outer s H vs Q E hr h => ?_)
  · obtain ⟨x, v, ns, cd, d, e, _⟩ := h
    rw [e]
    rfl
  · obtain ⟨x, v, ns, cd, d, e, hR, ok, hd, l7, hl, qE, q⟩ := h
    subst e
    refine ⟨_, pss_cons (ps_expr (pe_fd C hr (passes_call (takes_of rfl rfl rfl rfl) fun _ _ _ _ z => z) (pa_cons (pe_fld (pv 0) rfl) (pa_cons (pv 1) pa_nil))))
      (pss_one (ps_ret (pe_fd (E := E0) AM hr pass0 (pa_cons (pe_fld (pv 0) rfl) (pa_cons (pv 1) pa_nil))))), ?_⟩
    repeat walk_at "rd"
    refine r_fnames R hR fun an han => ?_
    repeat walk_at "rd"
    refine ⟨an, v, ns, d, rfl, han, hd, ok.gs, l7, hl, qE, fun hb H1 g1 => ?_⟩
    have hz : ∃ ds, d = .tuple ds := by
      cases d with
      | tuple ds => exact ⟨ds, rfl⟩
      | _ => cases hb
    obtain ⟨ds, rfl⟩ := hz
    repeat walk_at "rd"
    refine r_fclauses R (hR.kt g1.kt) fun ac xs hac hxs => ?_
    repeat walk_at "rd"
    exact ⟨false, ac, xs, cd, ds, v, rfl, hac, hxs, Dp.go g1.1 hd, l7, by have := ok.cl; omega, ok.cls, fun H' l g2 nl e => q ds rfl hb H' l (fun o ho z => by have z2 := g1.1 l o z ho; rw [nl] at z2; cases z2) (g1.trans g2) e⟩
end
section
variable {P : Program} {w : World} {K : PySem.W.Frag} {mg : Str → Option Value} {base : Heap} {G : List Addr} {L : List (Addr × Str)}
structure Fp (P : Program) (w : World) (K : PySem.W.Frag) (mg : Str → Option Value) (base : Heap) (m f : Str) : Prop where
  c : Cls K (cR K)
  ex : ∃ (p g : Addr) (fd : FuncData), PropOf K (cR K) m p g ∧ FnOk P w K mg base CX0 1 g fd ["self"] (getSp (cR K) f) ∧ Binds K fd ["self"] []
theorem pe_fp {X : Cx} {m f : Str} {j : Nat} {e : Expr} {pos : Pos} {ta : TE} (c : Fp X.prog X.w X.K X.mg X.base m f) (hr : Room j X.A) (he : PE X e ta) (hk : 2 ≤ j := by decide) (hab : attributeBase e m X.env (eval e X.env) = eval e X.env := by rfl) :
    PE X (.Attribute e m pos) (tProp (cR X.K) (getSp (cR X.K) f) [] E0 ta) := by
  obtain ⟨p, g, fd, h1, F, b⟩ := c.ex
  exact pe_prop he c.c h1 F (hr.mono hk) b .nil pass0 hab
theorem scGet (i : Nat) (h : i = 1 ∨ i = 2) : FnScope ["self"] ["self"] (defScope (sM i)) := by
  rcases h with rfl | rfl <;> exact C8.fnScope_by (by decide +kernel)
theorem ok_names {g : Addr} {fd : FuncData} (F : Fun K "names" "Rules.names" (sM 1) g fd) (R : RulC K mg) : FnOk P w K mg base CX0 1 g fd ["self"] (getSp (cR K) "_names") := by
  obtain ⟨oc, od, kV, doc, pm, an, cdv, ct, osl, efd, lk, hcd⟩ := F.ex
  subst efd
  exact fn_getter (f := "_names") lk hcd (scGet 1 (.inl rfl)) rfl rfl R.cl R.n1
theorem ok_clauses {g : Addr} {fd : FuncData} (F : Fun K "clauses" "Rules.clauses" (sM 2) g fd) (R : RulC K mg) : FnOk P w K mg base CX0 1 g fd ["self"] (getSp (cR K) "_clauses") := by
  obtain ⟨oc, od, kV, doc, pm, an, cdv, ct, osl, efd, lk, hcd⟩ := F.ex
  subst efd
  exact fn_getter (f := "_clauses") lk hcd (scGet 2 (.inr rfl)) rfl rfl R.cl R.n2
theorem r_pnames {σ : L2.St} {H : Hp} {Q : VK} {ta : TE} {x : Addr} {ns : List Str} {cd : List PyData} (hx : ∀ R : VK, R (.ref x) H → ta σ H R) (h : RulesAt K H x ns cd) (q : ∀ an, NT H an (ns.map V.str) → Q (.ref an) H) : tProp (cR K) (getSp (cR K) "_names") [] E0 ta σ H Q := by
  obtain ⟨dx, an, ac, xs, h1, h2, _⟩ := h
  exact hx _ ⟨x, dx, _, rfl, h1, x, dx, _, .ref an, rfl, h1, rfl, q an h2⟩
theorem r_pclauses {σ : L2.St} {H : Hp} {Q : VK} {ta : TE} {x : Addr} {ns : List Str} {cd : List PyData} (hx : ∀ R : VK, R (.ref x) H → ta σ H R) (h : RulesAt K H x ns cd) (q : ∀ ac xs, Tp H ac xs → Ims H xs cd → Q (.ref ac) H) : tProp (cR K) (getSp (cR K) "_clauses") [] E0 ta σ H Q := by
  obtain ⟨dx, an, ac, xs, h1, _, h3, h4⟩ := h
  exact hx _ ⟨x, dx, _, rfl, h1, x, dx, _, .ref ac, rfl, h1, rfl, q ac xs h3 h4⟩
end
section
variable {P : Program} {w : World} {K : PySem.W.Frag} {mg : Str → Option Value} {base : Heap} {G : List Addr} {L : List (Addr × Str)}
theorem r_par {σ : L2.St} {H : Hp} {D : Ends} {i j : Nat} {ta : TA} (h : ta σ H fun vs H1 => ∃ v w, vs = [v, w] ∧ D.nx ((σ.set i (some v)).set j (some w)) H1) : tPar i j ta D σ H := h
end
section
variable {P : Program} {w : World} {K : PySem.W.Frag} {mg : Str → Option Value} {base : Heap} {G : List Addr} {L : List (Addr × Str)}
/-- the script of h0, the counts of h -/
theorem Row.re {H0 H H' : Hp} {r : Rid} (h0 : Row K H0 r) (h : Row K H r) (g : Ev r.r H0 H') (hr : H' r.r = H r.r) : Row K H' r := by
  obtain ⟨_, _, _, sc, hn, _, _⟩ := h0
  obtain ⟨i, s, l, _, _, e, hi⟩ := h
  exact .mk' sc hn g (hr.trans e) hi
/-- a call of _law_taken -/
theorem r_taken {H : Hp} {Q : VK} {r : Rid} {m : Int} {E : XK} (hR : Row K H r) (m0 : 0 < m) (m1 : m < 1000000) (q : ∀ (v : Nat) (H' : Hp), (v : Int) < m → GoR G L r.r H H' → Row K H' r → Q (.int (v : Nat)) H') : spTaken K G L ([.ref r.r, .int m] ++ []) H Q E := by
  refine ⟨r, m, rfl, hR, m0, m1, fun v H' h0 h1 g hR' => ?_⟩
  obtain ⟨n, rfl⟩ := Int.eq_ofNat_of_zero_le h0
  exact q n H' h1 g hR'
def spClause (K : PySem.W.Frag) (G : List Addr) (L : List (Addr × Str)) : Sp := fun vs H Q _ => ∃ (r : Rid) (an : Addr) (ns : List Str), vs = [.ref r.r, .ref an] ∧ Row K H r ∧ Tp H an (ns.map V.str) ∧ ns ≠ [] ∧ ns.length ≤ 60 ∧
  ∀ v d H', ClD ns d → Im H' v d → GoR G L r.r H H' → Row K H' r → Q v H'
end
section
variable {P : Program} {w : World} {K : PySem.W.Frag} {mg : Str → Option Value} {base : Heap} {G : List Addr} {L : List (Addr × Str)}
theorem u64 {k : Nat} {A : Around} (r : Room k A) : A.units + 64 < cLine := by
  have z := r.un
  omega
theorem lv_lst {n : Nat} {ds : List PyData} (h : ∀ d ∈ ds, lv n d = true) : lv (n + 1) (.list ds) = true := by
  have h' : ds.all (lv n) = true := List.all_eq_true.mpr h
  simpa only [lv] using h'
theorem r_neD {H : Hp} {Q : VK} {x y : V} {d e : PyData} (h1 : Dp K H x d) (h2 : Dp K H y e) (s1 : lv 8 d = true) (s2 : lv 8 e = true) (q : Q (.bl (!PyData.eqv d e)) H) : rNeD K x y H Q := ⟨d, e, h1, h2, shaped_of s1, shaped_of s2, q⟩
theorem r_eqD {H : Hp} {Q : VK} {x y : V} {d e : PyData} (h1 : Dp K H x d) (h2 : Dp K H y e) (s1 : lv 8 d = true) (s2 : lv 8 e = true) (q : Q (.bl (PyData.eqv d e)) H) : rEqD K x y H Q := ⟨d, e, h1, h2, shaped_of s1, shaped_of s2, q⟩
theorem r_append {H : Hp} {Q : VK} {p : Addr} {xs : List V} {y : V} (hp : H p = some (.lst xs)) (hl : xs.length ≤ 5000) (q : Q .non (upd H p (.lst (xs ++ [y])))) : rAppend (.ref p) [y] H Q :=
  ⟨p, xs, y, rfl, rfl, hp, Nat.lt_of_le_of_lt hl (by decide), q⟩
theorem Nw.back {H H' : Hp} {r D : Addr} (g : GoR G L r H H') (n : Nw H' D) (hr : D ≠ r) : Nw H D := fun o h e => n o h (g.1 D o hr h e)
end
section
variable {P : Program} {w : World} {K : PySem.W.Frag} {mg : Str → Option Value} {base : Heap} {G : List Addr} {L : List (Addr × Str)}
/-- tuple(list[:40]) -/
theorem r_slL {H : Hp} {Q : VK} {a : Addr} {xs : List V} {lo hi : Option Int} (h : H a = some (.lst xs)) (q : ∀ p H', (∀ b o, H b = some o → H' b = some o) → H' p = some (.lst (cutV xs lo hi)) → Q (.ref p) H') : rSlL K (.ref a) lo hi H Q :=
  ⟨a, xs, rfl, .of h, fun p hp => q p _ (fun b o e => by rw [upd_ne (ne_of_none e hp)]; exact e) upd_same⟩
theorem r_tupL2 {H : Hp} {Q : VK} {p : Addr} {ys : List V} (h : H p = some (.lst ys)) (q : ∀ l H', (∀ b o, H b = some o → H' b = some o) → NT H' l ys → Q (.ref l) H') : cTup K [.ref p] H Q :=
  r_tupL (.of h) fun l o hl h1 h2 => q l _ (fun b ob e => by rw [upd_ne (ne_of_none e hl)]; exact e) (.of h1 h2)
end
section
variable {P : Program} {w : World} {K : PySem.W.Frag} {mg : Str → Option Value} {base : Heap} {G : List Addr} {L : List (Addr × Str)}
theorem forRg {σ : L2.St} {H : Hp} {D : Ends} {te : TE} {g : TG} {tb : TS} (good : Nat → Hp → Prop) (he : ∀ R : VK, (∀ n H0, good n H0 → R (.int (n : Nat)) H0) → te σ H R)
    (body : ∀ n H0, good n H0 → n < 1000000 ∧ ∃ Pv : Nat → L2.St → Hp → Prop, Pv 0 σ H0 ∧
      (∀ i σ H, i < n → Pv i σ H → g (.int (i : Nat)) σ H fun σ2 H2 => tb { D with nx := Pv (i + 1), ct := Pv (i + 1), bk := D.nx } σ2 H2) ∧ (∀ σ H, Pv n σ H → D.nx σ H)) : tFor (iRng1 (tCons te tNil)) g tb D σ H := by
  refine he _ fun n H0 hg => ?_
  obtain ⟨hn, Pv, h0, hs, hd⟩ := body n H0 hg
  have z := forR (σ := σ) (te := fun _ _ R => R (.int (n : Nat)) H0) (H := H) (D := D) (g := g) (tb := tb) (n := n) (H0 := H0) (fun _ z => z) hn Pv h0 hs hd
  exact z
theorem r_yes {σ : L2.St} {H : Hp} {A B : Hp → Prop} (h : A H) : tYes σ H (fun b H3 => if b = true then A H3 else B H3) := by
  show (if true = true then A H else B H)
  rw [if_pos rfl]
  exact h
theorem r_cat {H : Hp} {Q : VK} {a b : Addr} {xs ys : List V} (h1 : H a = some (.lst xs)) (h2 : H b = some (.lst ys)) (hl : xs.length + ys.length ≤ 5000) (q : ∀ p H', (∀ b o, H b = some o → H' b = some o) → H p = none → H' p = some (.lst (xs ++ ys)) → Q (.ref p) H') : rCat (.ref a) (.ref b) H Q :=
  ⟨a, b, xs, ys, rfl, rfl, h1, h2, Nat.le_trans hl (by decide), fun p hp => q p _ (fun b o e => by rw [upd_ne (ne_of_none e hp)]; exact e) hp upd_same⟩
def nameL : List Str := ["q", "a", "zz", "bb", "m", "c", "xyz", "d", "k", "h"]
end
section
variable {P : Program} {w : World} {K : PySem.W.Frag} {mg : Str → Option Value} {base : Heap} {G : List Addr} {L : List (Addr × Str)}
def isSeq (n : String) : Bool := n == "tuple" || n == "list"
/-- of lengths up to 100, to the depth n -/
def ln : Nat → PyData → Bool
  | n + 1, .tuple ds => decide (ds.length ≤ 2000) && ds.all (ln n)
  | n + 1, .list ds => decide (ds.length ≤ 2000) && ds.all (ln n)
  | _, .dict _ => false
  | 0, .tuple _ => false
  | 0, .list _ => false
  | _, .str z => PyData.strOk z
  | _, .none => true
  | _, .bool _ => true
  | _, .int _ => true
theorem ln_lv : ∀ (n : Nat) (d : PyData), ln n d = true → lv n d = true
  | n, .none, _ => by simp [lv]
  | n, .bool _, _ => by simp [lv]
  | n, .int _, _ => by simp [lv]
  | n, .str z, h => by cases n <;> simpa [lv, ln] using h
  | n + 1, .tuple ds, h => by
    have h' : ds.length ≤ 2000 ∧ ∀ d ∈ ds, ln n d = true := by simpa [ln] using h
    exact lv_tup fun d hd => ln_lv n d (h'.2 d hd)
  | n + 1, .list ds, h => by
    have h' : ds.length ≤ 2000 ∧ ∀ d ∈ ds, ln n d = true := by simpa [ln] using h
    exact lv_lst fun d hd => ln_lv n d (h'.2 d hd)
  | 0, .tuple ds, h => by simp [ln] at h
  | 0, .list ds, h => by simp [ln] at h
  | 0, .dict ds, h => by simp [ln] at h
  | n + 1, .dict ds, h => by simp [ln] at h
theorem ln_seq {n : Nat} {d : PyData} (h : ln n d = true) (hs : isSeq (tyOf d) = true) : ∃ m ds, n = m + 1 ∧ (d = .tuple ds ∨ d = .list ds) ∧ ds.length ≤ 2000 ∧ ∀ d ∈ ds, ln m d = true := by
  cases n with
  | zero => cases d <;> first | (simp [ln] at h; done) | (simp [isSeq, tyOf] at hs; done)
  | succ m =>
    cases d with
    | tuple ds =>
      have h' : ds.length ≤ 2000 ∧ ∀ d ∈ ds, ln m d = true := by simpa [ln] using h
      exact ⟨m, ds, rfl, .inl rfl, h'.1, h'.2⟩
    | list ds =>
      have h' : ds.length ≤ 2000 ∧ ∀ d ∈ ds, ln m d = true := by simpa [ln] using h
      exact ⟨m, ds, rfl, .inr rfl, h'.1, h'.2⟩
    | _ => simp [isSeq, tyOf] at hs
/-- two alike pieces of data, at most n - 1 deep -/
def spAlike (K : PySem.W.Frag) (G : List Addr) (L : List (Addr × Str)) (n : Nat) : Sp := fun vs H Q _ => ∃ x y d m, n = m + 1 ∧ vs = [x, y] ∧ Dp K H x d ∧ Dp K H y d ∧ ln m d = true ∧ m ≤ 7 ∧ ∀ H', Go G L H H' → Q (.bl true) H'
theorem dp_seq {H : Hp} {v : V} {d : PyData} {ds : List PyData} (h : Dp K H v d) (e : d = .tuple ds ∨ d = .list ds) : ∃ p xs, v = .ref p ∧ (SqL K H p xs ∨ SqT K H p xs) ∧ DpAll K H xs ds := by
  rcases e with rfl | rfl
  · cases h with
    | tup h1 h2 => exact ⟨_, _, rfl, .inr h1, h2⟩
  · cases h with
    | lst h1 h2 => exact ⟨_, _, rfl, .inl h1, h2⟩
theorem sq_go {H H' : Hp} {p : Addr} {xs : List V} (h : SqL K H p xs ∨ SqT K H p xs) (e : LamX.ExtN H H') : SqL K H' p xs ∨ SqT K H' p xs := by
  rcases h with h | h
  · refine .inl ?_
    rcases h with (h | ⟨o, h⟩) | h
    · exact .inl (.inl (e _ _ h fun _ z => by cases z))
    · exact .inl (.inr ⟨o, e _ _ h fun _ z => by cases z⟩)
    · exact .inr h
  · exact .inr (sqT_go h e)
end
section
variable {K : PySem.W.Frag} {G : List Addr} {L : List (Addr × Str)}
/-- isinstance(e, c) -/
def rIsG (K : PySem.W.Frag) (cls : Value) (d : Option Addr) (a : Addr) : List V → Hp → VK → Prop := fun xs H Q => ∃ D, cls = .ref D ∧ ExcC K D ∧ rIsE K D a xs H Q ∧ (d = none ∨ ∃ dd fs, d = some dd ∧ H dd = some (.xd fs))
theorem call_isG {X : Cx} {a : Addr} {cls : Value} {d : Option Addr} {oe : Obj} {pn : List (Addr × Obj)} (hz : Zc cls d oe) (hf : ∃ vs, oe.data = .fields vs) : CallR (X.suite a ((a, oe) :: pn)) (.builtin "isinstance") (rIsG X.K cls d a) := by
  intro pins s σ H xs us Q I r h
  obtain ⟨D, rfl, C, h1, h2⟩ := h
  rcases h2 with rfl | ⟨dd, fs, rfl, h2⟩
  · exact call_isE C hz hf pins s σ H xs us Q I r h1
  · exact call_isD C hz hf pins s σ H xs us Q I r ⟨h1, fs, h2⟩
/-- e.f -/
def tXfG (K : PySem.W.Frag) (a : Addr) (cls : Value) (d : Option Addr) (f : Str) (te : TE) : TE := fun σ H Q => ∃ C, XfC K C ∧ PySem.W.findIn K (.ref C) f = some none ∧ tXf a cls d C f te σ H Q
theorem pe_xfG {X : Cx} {a : Addr} {oe : Obj} {cls : Value} {d : Option Addr} {pn : List (Addr × Obj)} {e : Expr} {te : TE} {pos : Pos} {n : Str}
    (hz : Zc cls d oe) (hf : ∃ vs, oe.data = .fields vs) (he : PE (X.suite a ((a, oe) :: pn)) e te) (hb : attributeBase e n X.env (eval e X.env) = eval e X.env := by rfl) :
    PE (X.suite a ((a, oe) :: pn)) (.Attribute e n pos) (tXfG X.K a cls d n te) :=
  ⟨fun pins s σ H Q I ⟨_, T, hno, h⟩ => (pe_xf T hno hz hf he hb).run pins s σ H Q I h⟩
theorem r_xf {σ : L2.St} {H : Hp} {Q : VK} {a dd C : Addr} {f : Str} {te : TE} {fs : List (Str × V)} {v : V} (T : XfC K C) (n : PySem.W.findIn K (.ref C) f = some none) (he : ∀ R : VK, R (.ref a) H → te σ H R) (hd : H dd = some (.xd fs)) (hl : fs.lookup f = some v) (q : Q v H) : tXfG K a (.ref C) (some dd) f te σ H Q :=
  ⟨C, T, n, he _ ⟨rfl, rfl, dd, fs, v, rfl, hd, hl, q⟩⟩
/-- a list's method, in a suite -/
theorem pe_bmU {X : Cx} {a : Addr} {pn : List (Addr × Obj)} {o e : Expr} {es : List Expr} {to : TE} {t : TA} {name : Str} {apos cpos : Pos} {id : String} {r : V → List V → Hp → VK → Prop} (pa : PlainAttrs "list") (slot : Slot "list" name id) (hty : typeOf (.builtin id) = pure (.type "method_descriptor")) (hm : MtR (X.suite a pn) id r) (ho : PE (X.suite a pn) o to) (ha : PA (X.suite a pn) (e :: es) t)
    (hbase : attributeBase o name (X.suite a pn).env (eval o (X.suite a pn).env) = eval o (X.suite a pn).env := by rfl)
    (hfew : ((backTo cpos (starEach (e :: es) (X.suite a pn).env)).all (fun x => !x.1) && (backToKw cpos (keywordEach [] (X.suite a pn).env)).all (fun x => x.1.isSome)
      && decide ((e :: es).length + ([] : List Keyword).length + (if ([] : List Keyword).isEmpty then 0 else 1) < 30)) = true := by rfl)
    (hline : (apos.endLine == cpos.line) = true := by rfl) (hs : starEach (e :: es) (X.suite a pn).env = (false, eval e (X.suite a pn).env) :: starEach es (X.suite a pn).env := by rfl) (hplain : (backTo cpos (starEach es (X.suite a pn).env)).any (·.1) = false := by rfl) :
    PE (X.suite a pn) (.Call (.Attribute o name apos) (e :: es) [] cpos) (tBM X.K "list" r to t) := pe_bm (X := X.suite a pn) pa slot hty hm ho ha hbase hfew hline hs hplain
/-- as many slots as names -/
def tLen (n : Nat) (t : TS) : TS := fun D σ H => σ.length = n → t D σ H
theorem pss_len {X : Cx} {b : List Stmt} {t : TS} {n : Nat} (hn : X.N.length = n) (h : PSs X b t) : PSs X b (tLen n t) := ⟨fun pins s σ H D I q => h.run pins s σ H D I (q (I.len.trans hn))⟩
end
theorem passN {X : Cx} : Passes (L2.CX X.prog X.w) X E0 := fun _ _ _ _ _ _ _ h => by
  obtain ⟨_, _, _, _, _, _, _, _, _, _, _, _, h⟩ := h
  exact h.elim
section
variable {P : Program} {w : World} {K : PySem.W.Frag} {mg : Str → Option Value} {base : Heap} {G : List Addr} {L : List (Addr × Str)}
/-- a call that tells D -/
theorem tells {H H' : Hp} {Q : VK} {D : PyData} {cls : Value} {dd : Option Addr} (t : Told K cls dd H' D) (q : ∀ v H2, Go G L H' H2 → Im H2 v D → Q v H2) : ∃ D, Told K cls dd H' D ∧ ∀ v H2, Go G L H' H2 → Im H2 v D → Q v H2 := ⟨D, t, q⟩
theorem eqv_same {n : Nat} {d : PyData} (h : lv n d = true) : PyData.eqv d d = true := PySem.SeqAt.eqv_refl d (lv_ok n d h).1
end
def smS : PyData → Bool
  | .str z => decide (z.length ≤ 100)
  | _ => true
def okNb (ds : List PyData) : Bool := decide (ds.length ≤ 60) && (ds.all (lv 6) && ds.all smS)
theorem okN_of {ds : List PyData} (h : okNb ds = true) : okN (.tuple ds) := by
  unfold okNb at h
  rw [Bool.and_eq_true, Bool.and_eq_true, List.all_eq_true, List.all_eq_true] at h
  obtain ⟨h1, h2, h3⟩ := h
  refine ⟨lv_tup h2, fun es e => ?_⟩
  cases e
  refine ⟨of_decide_eq_true h1, fun x hx => ?_⟩
  have h4 := h3 x hx
  cases x with
  | str z => exact Nat.le_trans (of_decide_eq_true h4) (by decide)
  | _ => trivial
/-- the wrong clauses -/
def bads (c : Nat) : List PyData := [.tuple [.str "needs", .str "q"], .tuple [.str "needs", .str "q", .str ((nameL.take c).getD (c - 1) "q"), .str "a"], .list [.str "needs", .str "q", .str ((nameL.take c).getD (c - 1) "q")],
  .tuple [.str "need", .str "q", .str ((nameL.take c).getD (c - 1) "q")], .tuple [.str "needs", .str "q", .str "nono"], .none, .int 5, .str "needs"]
section
variable {P : Program} {w : World} {K : PySem.W.Frag} {mg : Str → Option Value} {base : Heap} {G : List Addr} {L : List (Addr × Str)}
def lamQ (x : Str) : Str := x ++ ".<locals>." ++ "<lambda>"
section
variable {X : Cx} {A : Around} {outer : List Env} {s : Shared} {H : Hp} {E : XK} {sc : Scope} {fL c' : Addr} {j : Nat} {e : Expr} {es : List Expr} {t : TA}
end
theorem Nw.backG {H H' : Hp} {D : Addr} (g : Go G L H H') (n : Nw H' D) : Nw H D := fun o h e => n o h (g.1 D o e h)
/-- made before the list -/
theorem Case.old {H H1 : Hp} {p a : Addr} {s m : V} {part : Str} {i : Nat} {dn dc : PyData} (np : H p = none) (e : ∀ b o, H b = some o → H1 b = some o) (ha : H a = some (.tup [s, m, .str part, .int (i : Nat)])) (hs : Dp K H s dn) (hm : Dp K H m dc) (hp : part = "names" ∨ part = "clauses") (on : okN dn) (oc : okC dc) (hb : rulesBad dn dc = some (rulesE part i)) : Case K H1 p (.ref a) :=
  ⟨a, s, m, part, i, dn, dc, rfl, hp, on, oc, hb, fun H' e' => by
    have x : LamX.ExtN H H' := fun b o eb nt => e' b o (ne_of_none eb np) nt (e b o eb)
    exact ⟨x a _ ha fun ps z => (by cases z), Dp.go x hs, Dp.go x hm⟩⟩
/-- made while the list stands -/
theorem Case.im {H : Hp} {p a : Addr} {xs : List V} {s m : V} {part : Str} {i : Nat} {dn dc : PyData} (hp : H p = some (.lst xs)) (ha : H a = some (.tup [s, m, .str part, .int (i : Nat)])) (hs : Im H s dn) (hm : ∀ H', Ev p H H' → Dp K H' m dc) (hpt : part = "names" ∨ part = "clauses") (on : okN dn) (oc : okC dc) (hb : rulesBad dn dc = some (rulesE part i)) : Case K H p (.ref a) :=
  ⟨a, s, m, part, i, dn, dc, rfl, hpt, on, oc, hb, fun H' e' => ⟨e' a _ (fun z => by subst z; rw [hp] at ha; cases ha) (fun ps z => by cases z) ha, (hs.kt (e'.kt hp)).dp, hm H' e'⟩⟩
theorem keep_new {H : Hp} {p : Addr} {o : HO} (hp : H p = none) : ∀ b ob, H b = some ob → upd H p o b = some ob := fun b ob e => by rw [upd_ne (ne_of_none e hp)]; exact e
theorem new_facts {H H' : Hp} {p : Addr} {o : HO} (h : upd H p o = H') (hp : H p = none) : (∀ b ob, H b = some ob → H' b = some ob) ∧ H' p = some o := by
  subst h
  exact ⟨keep_new hp, upd_same⟩
theorem forLg {σ : L2.St} {H : Hp} {D : Ends} {te : TE} {g : TG} {tb : TS} (good : Addr → Hp → Prop) (he : ∀ R : VK, (∀ a H0, good a H0 → R (.ref a) H0) → te σ H R)
    (body : ∀ a H0, good a H0 → ∃ xs, SqL K H0 a xs ∧ ∃ Pv : Nat → L2.St → Hp → Prop, Pv 0 σ H0 ∧ (∀ i σ H, i ≤ xs.length → Pv i σ H → SqL K H a xs) ∧
      (∀ i x σ H, xs[i]? = some x → Pv i σ H → g x σ H fun σ2 H2 => tb { D with nx := Pv (i + 1), ct := Pv (i + 1), bk := D.nx } σ2 H2) ∧ (∀ σ H, Pv xs.length σ H → D.nx σ H)) : tFor (iList K te) g tb D σ H := by
  refine he _ fun a H0 hg => ?_
  obtain ⟨xs, hq, Pv, h0, hG, hs, hd⟩ := body a H0 hg
  have z := forL (σ := σ) (te := fun _ _ R => R (.ref a) H0) (H := H0) (D := D) (g := g) (tb := tb) (fun _ z => z) hq Pv h0 hG hs hd
  exact z
abbrev Kp (H H' : Hp) : Prop := ∀ b ob, H b = some ob → H' b = some ob
theorem kp_t {H H1 H2 : Hp} (a : Kp H H1) (b : Kp H1 H2) : Kp H H2 := fun c o e => b c o (a c o e)
theorem kp_kt {H H' : Hp} (a : Kp H H') : KT H H' := fun b o _ _ e => a b o e
theorem kp_ev {H H' : Hp} {r : Addr} (a : Kp H H') : Ev r H H' := fun b o _ _ e => a b o e
theorem r_un {r : V → Hp → VK → Prop} {ta : TE} {σ : L2.St} {H : Hp} {Q : VK} (h : ta σ H fun x H1 => r x H1 Q) : tUn r ta σ H Q := h
theorem ims_rep {H : Hp} {v : V} {d : PyData} (h : Im H v d) : ∀ n : Nat, Ims H ((List.replicate n [v]).flatten) (List.replicate n d)
  | 0 => .nil
  | n + 1 => .cons h (ims_rep h n)
/-- Rules(..) that is made -/
theorem mk_rulesR {H1 : Hp} {nv cv : V} {dn dc : PyData} {E : XK} {Qx : Addr → Hp → Prop} (hn : Dp K H1 nv dn) (hc : Dp K H1 cv dc) (on : okN dn) (oc : okC dc) (ht : TBS G L H1) (hb : rulesBad dn dc = none) (q : ∀ x dx H', Go G L H1 H' → H' x = some (.ins (cR K) dx (rfs nv cv)) → Qx x H') :
    ∀ x dx, H1 x = none → H1 dx = none → dx ≠ x → spInit K G L (.ref x :: ([nv, cv] ++ [])) (upd (upd H1 dx (.own x)) x (.ins (cR K) dx [])) (fun v H2 => v = .non ∧ Qx x H2) E :=
  mk_rules (Q := fun v H2 => match v with | .ref x => Qx x H2 | _ => False) ⟨nv, cv, dn, dc, rfl, hn, hc, on, oc, ht, fun D hD => (by rw [hb] at hD; cases hD), fun _ x dx H' g h => q x dx H' g h⟩
def cMax : List V → Hp → VK → Prop := fun xs H Q => ∃ i j, xs = [.int i, .int j] ∧ Q (.int (if j > i then j else i)) H
theorem c_max {X : Cx} (hc : X.calm = true) : CallR X (.builtin "max") cMax := call_max2 hc
end
theorem sub_find {z : Str} {xs : List Str} : ∀ {l : List Str}, (z :: xs).Sublist l → z ∈ l ∧ xs.Sublist (l.drop (l.idxOf z + 1)) := by
  intro l
  induction l with
  | nil => intro h; cases h
  | cons y l ih =>
    intro h
    by_cases e : y = z
    · subst e
      refine ⟨List.mem_cons_self, ?_⟩
      have e0 : (y :: l).idxOf y = 0 := by simp
      rw [e0]
      show xs.Sublist l
      cases h with
      | cons _ h => exact (List.sublist_cons_self y xs).trans h
      | cons_cons _ h => exact h
    · have h' : (z :: xs).Sublist l := by
        cases h with
        | cons _ h => exact h
        | cons_cons _ h => exact absurd rfl e
      obtain ⟨a, b⟩ := ih h'
      refine ⟨List.mem_cons_of_mem _ a, ?_⟩
      have e0 : (y :: l).idxOf z = l.idxOf z + 1 := by
        rw [List.idxOf_cons]
        have hb : (y == z) = false := by simpa using e
        rw [hb]
        rfl
      rw [e0]
      exact b
theorem idx_gone {z : Str} : ∀ {l : List Str}, l.Nodup → z ∉ l.drop (l.idxOf z + 1) := by
  intro l
  induction l with
  | nil => intro _ h; cases h
  | cons y l ih =>
    intro hn
    rw [List.nodup_cons] at hn
    by_cases e : y = z
    · subst e
      have e0 : (y :: l).idxOf y = 0 := by simp
      rw [e0]
      exact hn.1
    · have e0 : (y :: l).idxOf z = l.idxOf z + 1 := by
        rw [List.idxOf_cons]
        have hb : (y == z) = false := by simpa using e
        rw [hb]
        rfl
      rw [e0]
      exact ih hn.2
theorem scan_sub : ∀ (xs later : List Str) (i : Nat), xs.Sublist later → ∃ later', (∀ z ∈ later', z ∈ later) ∧ (later.Nodup → ∀ z ∈ xs, z ∉ later') ∧ ∀ ds, scanS later i (xs.map PyData.str ++ ds) = scanS later' (i + xs.length) ds
  | [], later, i, _ => ⟨later, fun z h => h, fun _ z h => (by cases h), fun ds => rfl⟩
  | z :: xs, later, i, h => by
    obtain ⟨h1, h2⟩ := sub_find h
    obtain ⟨l', a, b, c⟩ := scan_sub xs _ (i + 1) h2
    refine ⟨l', fun y hy => List.mem_of_mem_drop (a y hy), fun hn y hy => ?_, fun ds => ?_⟩
    · rcases List.mem_cons.mp hy with e | e
      · subst e
        exact fun z => idx_gone hn (a _ z)
      · exact b (hn.sublist (List.drop_sublist _ _)) y e
    · show (if z ∈ later then scanS (later.drop (later.idxOf z + 1)) (i + 1) (xs.map PyData.str ++ ds) else some i) = _
      rw [if_pos h1, c ds, List.length_cons]
      congr 1
      omega
section
variable {ns ss : List Str}
theorem st_none (h : ss.Sublist ns) : stateBad ns (.tuple (ss.map PyData.str)) = none := by
  obtain ⟨l', _, _, c⟩ := scan_sub ss ns 0 h
  show scanS ns 0 (ss.map PyData.str) = none
  have z := c []
  rw [List.append_nil] at z
  rw [z]
  rfl
theorem st_twice {s : Str} (hn : ns.Nodup) (h : (s :: ss).Sublist ns) : stateBad ns (.tuple (.str s :: (s :: ss).map PyData.str)) = some 1 := by
  obtain ⟨l', a, b, c⟩ := scan_sub [s] ns 0 ((List.singleton_sublist.mpr (h.subset List.mem_cons_self)))
  show scanS ns 0 ([s].map PyData.str ++ (s :: ss).map PyData.str) = some 1
  rw [c]
  show (if s ∈ l' then _ else some 1) = some 1
  exact if_neg (b hn s List.mem_cons_self)
end
section
variable {P : Program} {w : World} {K : PySem.W.Frag} {mg : Str → Option Value} {base : Heap} {G : List Addr} {L : List (Addr × Str)}
def invD (i : Nat) : PyData := .tuple [.str "invalid", .int (i : Nat)]
/-- told != ("invalid", i) -/
theorem r_neI {H : Hp} {Q : VK} {v w : V} {D : PyData} (h1 : Dp K H v D) (h2 : Dp K H w D) (l : lv 8 D = true) (q : Q (.bl false) H) : rNeD K v w H Q := r_neD h1 h2 l l (by rw [eqv_same l]; exact q)
end
section
variable {P : Program} {w : World} {K : PySem.W.Frag} {mg : Str → Option Value} {base : Heap} {G : List Addr} {L : List (Addr × Str)}
theorem scr_of {H : Hp} {r a : Addr} {ns : List Int} (hr : H r = none) (h : SqL K H a (ns.map V.int)) : Scr K H r a ns := fun H' e => by
  rcases h with (h | ⟨ob, h⟩) | h
  · exact .inl (.inl (e a _ (ne_of_none h hr) (fun ps z => by cases z) h))
  · exact .inl (.inr ⟨ob, e a _ (ne_of_none h hr) (fun ps z => by cases z) h⟩)
  · exact .inr h
section
variable {X : Cx} {s0 : Shared} {H0 : Hp} {bs : Scope} {cl : List (Str × Addr)} {C0 : Addr} {fp : List Addr}
end
end
section
variable {P : Program} {w : World} {K : PySem.W.Frag} {mg : Str → Option Value} {base : Heap} {G : List Addr} {L : List (Addr × Str)}
/-- what stands behind the making of an error with an index -/
def mkISk (K : PySem.W.Frag) (C : Addr) (Q : XK) : List V → Hp → Prop := fun vs H1 => ∃ (i : Nat), vs = [.int (i : Nat)] ∧ i ≤ 99 ∧ ∀ d Hx, (∀ b o, H1 b = some o → Hx b = some o) → Hx d = some (.xd [("index", .int (i : Nat))]) → Q (.ref C) (some d) Hx
theorem mkIS_fin {x : Str} {Q : XK} {vs : List V} {H1 : Hp} (h : mkISk K (He.ga K x) Q vs H1) : vs.length ≤ 1000 ∧ ∀ a, H1 a = none → spIS K (He.ga K x) (.ref a :: (vs ++ [])) (upd H1 a (exo a (He.ga K x) none))
    (fun v H2 => v = .non ∧ ∃ (d : Addr) (fs : List (Str × V)), H2 a = some (exo a (He.ga K x) (some d)) ∧ H2 d = some (exd d fs) ∧ H1 d = none ∧ Q (.ref (He.ga K x)) (some d) (upd (del H2 a) d (.xd fs))) (fun _ _ _ => False) := by
  have z := r_mkIS (K := K) (σ := []) (H := H1) (ta := fun _ _ R => R vs H1) (x := x) (Q := Q) h fun _ _ k q => k _ _ q
  exact z
theorem r_mk {C : Addr} {sp : Sp} {dvs : List V} {ta : TA} {σ : L2.St} {H : Hp} {Q : XK} (h : ta σ H fun vs H1 => vs.length ≤ 1000 ∧ ∀ a, H1 a = none → sp (.ref a :: (vs ++ dvs)) (upd H1 a (exo a C none))
    (fun v H2 => v = .non ∧ ∃ (d : Addr) (fs : List (Str × V)), H2 a = some (exo a C (some d)) ∧ H2 d = some (exd d fs) ∧ H1 d = none ∧ Q (.ref C) (some d) (upd (del H2 a) d (.xd fs))) (fun _ _ _ => False)) : tMkO C sp dvs ta σ H Q := h
theorem broken_lt (sd : List PyData) : ∀ (ds : List PyData) (i j : Nat), j ∈ brokenFrom sd i ds → j < i + ds.length
  | [], _, _, h => by cases h
  | d :: ds, i, j, h => by
    have e : brokenFrom sd i (d :: ds) = if brk sd d then i :: brokenFrom sd (i + 1) ds else brokenFrom sd (i + 1) ds := rfl
    rw [e] at h
    rw [List.length_cons]
    by_cases c : brk sd d = true
    · rw [if_pos c] at h
      rcases List.mem_cons.mp h with e | h
      · omega
      · have z := broken_lt sd ds (i + 1) j h
        omega
    · rw [if_neg c] at h
      have z := broken_lt sd ds (i + 1) j h
      omega
def illD (i : Nat) : PyData := .tuple [.str "illegal", .int (i : Nat)]
def spChkLegal (K : PySem.W.Frag) (G : List Addr) (L : List (Addr × Str)) : Sp := fun vs H Q E => ∃ (x : Addr) (v : V) (ns : List Str) (cd : List PyData) (d : PyData), vs = [.ref x, v] ∧ RulesAt K H x ns cd ∧ OkR ns cd ∧ Dp K H v d ∧ lv 7 d = true ∧ (∀ ds, d = .tuple ds → ds.length ≤ 60) ∧
  (∀ i, stateBad ns d = some i → ∀ cls dd H', Go G L H H' → Told K cls dd H' (invD i) → E cls dd H') ∧
  (∀ ds, d = .tuple ds → stateBad ns d = none → ∀ j rest, brokenFrom ds 0 cd = j :: rest → ∀ cls dd H', Go G L H H' → Told K cls dd H' (illD j) → E cls dd H') ∧
  (∀ ds, d = .tuple ds → stateBad ns d = none → brokenFrom ds 0 cd = [] → ∀ H', Go G L H H' → Q .non H')
theorem scChkLegal : FnScope ["rules", "state", "broken"] ["rules", "state"] (defScope sChkLegal) := C8.fnScope_by (by decide +kernel)
theorem ok_chkLegal {f : Addr} {fd : FuncData} (F : Fun K "check_legal" "check_legal" sChkLegal f fd) (B : Fm P w K mg base "broken_clauses" 4 (spBroken K G L)) (T : Err P w K mg base "IllegalState" (spIS K (He.ga K "IllegalState"))) :
    FnOk P w K mg base (L2.CX P w) 5 f fd ["rules", "state"] (spChkLegal K G L) := by
  refine F.okX scChkLegal (fun vs H Q E h => ?_) (fun cdv A outer s H vs Q E hr h => ?_)
  · obtain ⟨x, v, ns, cd, d, e, _⟩ := h
    rw [e]
    rfl
  · obtain ⟨x, v, ns, cd, d, e, hR, ok, hd, l7, hl, qE, qI, q⟩ := h
    subst e
    refine ⟨_, pss_cons (ps_set (i := 2) scChkLegal.nd rfl (Or.inl rfl) (pe_fm B hr (pv 0) (passes_call (takes_of rfl rfl rfl rfl) fun _ _ _ _ z => z) (pa_cons (pv 1) pa_nil)))
      (pss_one (ps_if (pt_truth (pv 2) (by intro _; rfl)) (pss_one (ps_raise rfl (takes_of rfl rfl rfl rfl) (pmk_err T hr (pa_cons (pe_ix ix_list (pv 2) pe_int (fun _ _ => rfl)) pa_nil)))) pss_nil)), ?_⟩
    repeat walk_at "rd"
    refine r_fm (x := x) (fun R z => ⟨_, rfl, z⟩) hR (fun _ _ => rfl) ?_
    repeat walk_at "rd"
    refine ⟨x, v, ns, cd, d, rfl, hR, ok, hd, l7, hl, qE, fun ds ed hb H' l _ g hl' => ?_⟩
    repeat walk_at "rd"
    refine ⟨_, .inl ⟨_, .of hl', rfl⟩, ?_⟩
    cases hbr : brokenFrom ds 0 cd with
    | nil =>
      rw [hbr] at hl'
      repeat walk_at "rd"
      exact q ds ed hb hbr H' g
    | cons j rest =>
      rw [hbr] at hl'
      rw [if_pos (by rfl)]
      repeat walk_at "rd"
      refine r_mk ?_
      repeat walk_at "rd"
      refine r_ixL (i := 0) (.of hl') (v := .int (j : Nat)) (atI_nat (j := 0) rfl) ?_
      repeat walk_at "rd"
      have hj := broken_lt ds cd 0 j (by rw [hbr]; exact List.mem_cons_self)
      have hcl := ok.cl
      refine mkIS_fin ⟨j, rfl, by omega, fun dd Hx k hx => ?_⟩
      exact qI ds ed hb j rest hbr _ _ Hx (g.trans (Go.same k)) (.ill hx)
theorem in_strs (z : Str) (s : List Str) : ((s.map PyData.str).any fun y => PyData.eqv y (.str z)) = decide (z ∈ s) := inD_strs z s
theorem filter_take {α : Type} {p : α → Bool} {l : List α} {i : Nat} {x : α} (h : l[i]? = some x) : (l.take (i + 1)).filter p = if p x then (l.take i).filter p ++ [x] else (l.take i).filter p := by
  rw [List.take_succ, h]
  show List.filter p (l.take i ++ [x]) = _
  rw [List.filter_append, List.filter_cons, List.filter_nil]
  by_cases c : p x = true
  · rw [if_pos c, if_pos c]
  · rw [if_neg c, if_neg c, List.append_nil]
end
section
variable {P : Program} {w : World} {K : PySem.W.Frag} {mg : Str → Option Value} {base : Heap} {G : List Addr} {L : List (Addr × Str)}
end
section
variable {P : Program} {w : World} {K : PySem.W.Frag} {mg : Str → Option Value} {base : Heap} {G : List Addr} {L : List (Addr × Str)}
theorem nmsOf_sub {ns : List Str} {ix : List Nat} (h : ix.Sublist (List.range ns.length)) : (nmsOf ns ix).Sublist ns := by
  have z := h.map (fun i => ns.getD i "")
  have e : (List.range ns.length).map (fun i => ns.getD i "") = ns := by
    refine List.ext_getElem (by simp) fun i h1 h2 => ?_
    simp at h1
    simp [List.getD_eq_getElem?_getD, h1]
  rw [e] at z
  exact z
theorem allD_sub {ns : List Str} (hn : ns.length ≤ 10) {s : List Str} (hs : s ∈ allD ns) : s.Sublist ns := by
  obtain ⟨ix, hix, rfl⟩ := List.mem_map.mp hs
  exact nmsOf_sub (ordI_sub hn hix)
theorem StsAt.snoc {H : Hp} {xs : List V} {ss : List (List Str)} {T : Addr} {s : List Str} (h : StsAt H xs ss) (ht : Tp H T (s.map V.str)) : StsAt H (xs ++ [.ref T]) (ss ++ [s]) := by
  unfold StsAt
  rw [List.map_append]
  exact h.app (.cons (.tup ht (ims_strs s)) .nil)
theorem ord_len : ∀ n < 11, (ordI n).length ≤ 2000 ∧ ∀ r < 11, r ≤ n → (((List.range r).flatMap (seqC n)).length + (seqC n r).length ≤ 2000) := by decide +kernel
end
section
variable {P : Program} {w : World} {K : PySem.W.Frag} {mg : Str → Option Value} {base : Heap} {G : List Addr} {L : List (Addr × Str)}
theorem gfor_it {J : It} {n : Nat} {Gp : Hp → Prop} {Y : Nat → Hp → V → Hp → Prop} (w : Walk J n Gp Y) {g : TG} {tb : TGn} {D : GEnds} {ys : List V} {σ : L2.St} {H : Hp} (Pv : Nat → List V → L2.St → Hp → Prop) (h0 : Pv 0 ys σ H) (hG : ∀ i ys σ H, i ≤ n → Pv i ys σ H → Gp H)
    (hs : ∀ i x ys σ H H', i < n → Pv i ys σ H → Y i H x H' → g x σ H' fun σ2 H2 => tb { D with nx := Pv (i + 1), ct := Pv (i + 1), bk := D.nx } ys σ2 H2) (hd : ∀ ys σ H, Pv n ys σ H → D.nx ys σ H) :
    ∃ W : Nat → Nat → List V → L2.St → Hp → Prop, (∃ m, W 0 m ys σ H) ∧ ∀ i m ys σ H, W i m ys σ H →
      (J.stop i H ∧ D.nx ys σ H) ∨ (J.go i H ∧ ∃ N : List V → L2.St → Hp → Prop, (∀ ys' σ' H', N ys' σ' H' → ∃ m', m' < m ∧ W (i + 1) m' ys' σ' H') ∧ ∀ x H', J.yld i H x H' → g x σ H' fun σ2 H2 => tb { D with nx := N, ct := N, bk := D.nx } ys σ2 H2) := by
  refine ⟨fun i m ys σ H => m = n - i ∧ i ≤ n ∧ Pv i ys σ H, ⟨n, by simp, Nat.zero_le _, h0⟩, ?_⟩
  rintro i m ys σ H ⟨rfl, hi, p⟩
  have q := hG i ys σ H hi p
  by_cases hlt : i < n
  · exact .inr ⟨w.goes i H hlt q, Pv (i + 1), fun ys' σ' H' p' => ⟨n - (i + 1), by omega, rfl, hlt, p'⟩, fun x H' y => hs i x ys σ H H' hlt p (w.yields i H x H' hlt q y)⟩
  · have e : i = n := by omega
    subst e
    exact .inl ⟨w.stops H q, hd ys σ H p⟩
theorem r_gthen {t u : TGn} {D : GEnds} {ys : List V} {σ : L2.St} {H : Hp} (h : t { D with nx := fun ys' σ' H' => u D ys' σ' H' } ys σ H) : tGThen t u D ys σ H := h
theorem r_gy {te : TE} {D : GEnds} {ys : List V} {σ : L2.St} {H : Hp} (hl : ys.length < sizeLine) (h : te σ H fun x H1 => D.nx (ys ++ [x]) σ H1) : tGYield te D ys σ H := ⟨hl, h⟩
theorem r_g0 {D : GEnds} {ys : List V} {σ : L2.St} {H : Hp} (h : D.nx ys σ H) : tG0 D ys σ H := h
theorem allD_len {ns : List Str} (hn : ns.length ≤ 10) : (allD ns).length ≤ 2000 := by
  unfold allD
  rw [List.length_map]
  exact (ord_len _ (by omega)).1
theorem strs_lv {ns : List Str} {s : List Str} (gs : goodS ns) (h : s.Sublist ns) : lv 7 (.tuple (s.map PyData.str)) = true ∧ ∀ ds, PyData.tuple (s.map PyData.str) = .tuple ds → ds.length ≤ 60 := by
  refine ⟨lv_strs fun z hz => gs.1 z (h.subset hz), fun ds e => ?_⟩
  cases e
  rw [List.length_map]
  exact Nat.le_trans h.length_le gs.2
/-- a generator def of the module -/
structure Gd (P : Program) (w : World) (K : PySem.W.Frag) (mg : Str → Option Value) (base : Heap) (x : Str) (k : Nat) (sp : SpG) : Prop where
  ex : ∃ (f : Addr) (fd : FuncData) (ps : List Str), mg x = some (.ref f) ∧ PySem.W.keepIn K (.ref f) = true ∧ GFn P w K mg base k f fd ps sp ∧ Binds K fd ps []
theorem r_lgd {sp : SpG} {ta : TA} {σ : L2.St} {H : Hp} {Q : VK} (h : ta σ H fun vs H1 => sp (vs ++ []) H1 (fun out H2 => ∀ p, H2 p = none → Q (.ref p) (upd H2 p (.lst out))) E0) : tListG (tCallG sp [] E0 ta) σ H Q := h
end
section
variable {P : Program} {w : World} {K : PySem.W.Frag} {mg : Str → Option Value} {base : Heap} {G : List Addr} {L : List (Addr × Str)}
theorem kt_upd {H : Hp} {D : Addr} {xs ys : List V} (h : H D = some (.lst xs)) : KT H (upd H D (.lst ys)) := fun b o n1 n2 hb => by
  rw [upd_ne (fun e => by rw [e, h] at hb; exact n1 _ (Option.some.inj hb).symm)]
  exact hb
theorem ims_strs_eq {H : Hp} : ∀ {s : List Str} {vs : List V}, Ims H vs (s.map PyData.str) → vs = s.map V.str
  | [], _, .nil => rfl
  | z :: s, _, .cons h t => by
    cases h
    rw [ims_strs_eq t]
    rfl
theorem sts_get {H : Hp} {xs : List V} {ss : List (List Str)} {i : Nat} {x : V} (h : StsAt H xs ss) (hx : xs[i]? = some x) : ∃ T s, ss[i]? = some s ∧ x = .ref T ∧ Tp H T (s.map V.str) := by
  obtain ⟨d, hd, hi⟩ := h.get hx
  rw [List.getElem?_map] at hd
  cases hs : ss[i]? with
  | none => rw [hs] at hd; cases hd
  | some s =>
    rw [hs] at hd
    obtain rfl : d = .tuple (s.map PyData.str) := (Option.some.inj hd).symm
    cases hi with
    | tup h1 h2 => exact ⟨_, s, rfl, rfl, by rw [← ims_strs_eq h2]; exact h1⟩
theorem genI_ok : ∀ n < 9, (genI n).length ≤ 300 ∧ (genI n).all (fun ix => ix.all (decide <| · < n)) = true := by decide +kernel
theorem nms_snoc {ns : List Str} {ix : List Nat} {i : Nat} {z : Str} (h : ns[i]? = some z) : nmsOf ns (ix ++ [i]) = nmsOf ns ix ++ [z] := by
  unfold nmsOf
  rw [List.map_append]
  simp [List.getD_eq_getElem?_getD, h]
theorem rowD_nms (ns : List Str) (ix : List Nat) : rowD (fun i => ns.getD i "") ix = .tuple [.int ((nmsOf ns ix).length : Nat), .tuple (ix.map fun i => .int (i : Nat)), .tuple ((nmsOf ns ix).map PyData.str)] := by
  unfold rowD nmsOf
  rw [List.map_map, List.length_map]
  rfl
theorem ims_zip {H : Hp} : ∀ {vs : List V} {ds : List PyData}, Ims H vs ds → ∀ p ∈ vs.zip ds, Im H p.1 p.2
  | _, _, .nil, p, h => by cases h
  | _, _, .cons a t, p, h => by
    rcases List.mem_cons.mp h with e | h
    · rw [e]; exact a
    · exact ims_zip t p h
theorem ims_of {H : Hp} : ∀ {ps : List (V × PyData)}, (∀ p ∈ ps, Im H p.1 p.2) → Ims H (ps.map Prod.fst) (ps.map Prod.snd)
  | [], _ => .nil
  | p :: ps, h => .cons (h p List.mem_cons_self) (ims_of fun q hq => h q (List.mem_cons_of_mem _ hq))
theorem broken_nil {sd : List PyData} : ∀ (cd : List PyData) (i : Nat), brokenFrom sd i cd = [] ↔ cd.filter (brk sd) = []
  | [], _ => by simp [brokenFrom]
  | d :: cd, i => by
    have e : brokenFrom sd i (d :: cd) = if brk sd d then i :: brokenFrom sd (i + 1) cd else brokenFrom sd (i + 1) cd := rfl
    rw [e, List.filter_cons]
    by_cases c : brk sd d = true
    · rw [if_pos c, if_pos c]
      simp
    · rw [if_neg c, if_neg c]
      exact broken_nil cd (i + 1)
theorem depth_ints2 (l : List Nat) : PyData.depthAll (l.map fun i => PyData.int (i : Nat)) = 0 := by
  induction l with
  | nil => simp [PyData.depthAll]
  | cons x l ih => simp only [List.map_cons, PyData.depthAll, PyData.depth, ih]; rfl
theorem depth_strs2 (nm : Nat → Str) (l : List Nat) : PyData.depthAll (l.map fun i => PyData.str (nm i)) = 0 := by
  induction l with
  | nil => simp [PyData.depthAll]
  | cons x l ih => simp only [List.map_cons, PyData.depthAll, PyData.depth, ih]; rfl
theorem depth_row (nm : Nat → Str) (l : List Nat) : (rowD nm l).depth ≤ 8 := by
  unfold rowD
  simp only [PyData.depth, PyData.depthAll, depth_ints2, depth_strs2]
  decide
theorem eqv_nilL (ds : List PyData) : PyData.eqv (.list ds) (.list []) = decide (ds = []) := by
  cases ds with
  | nil => simp [PyData.eqv, PyData.eqvAll]
  | cons d ds => simp [PyData.eqv, PyData.eqvAll]
theorem cl_lv {ns : List Str} {d : PyData} (hok : ∀ z ∈ ns, PyData.strOk z = true) (h : ClD ns d) : lv 6 d = true := by
  obtain ⟨w, a, b, rfl, hw, ha, hb⟩ := h
  refine lv_tup fun x hx => ?_
  rcases List.mem_cons.mp hx with e | hx
  · rw [e]
    rcases hw with rfl | rfl | rfl <;> decide +kernel
  · rcases List.mem_cons.mp hx with e | hx
    · rw [e]; exact lv_str (hok a ha)
    · rw [List.mem_singleton.mp hx]; exact lv_str (hok b hb)
theorem qs_snd {vs : List V} {n : Nat} {nm : Nat → Str} (hn : n ≤ 8) (hl : vs.length = (genI n).length) : ((vs.zip ((genI n).map (rowD nm))).mergeSort (PySem.W.dataLe false Prod.snd)).map Prod.snd = (ordI n).map (rowD nm) := by
  rw [PySem.W.sort_maps (r := PySem.W.dataLe false Prod.snd) (s := PySem.W.dataLe false id) Prod.snd (fun _ _ _ _ => rfl), List.map_snd_zip (by rw [List.length_map]; omega), ← PySem.W.sort_maps (r := leI) (rowD nm) (fun a _ b _ => (rowD_le nm a b).symm), sort_gen hn]
theorem u12 {k : Nat} {A : Around} (r : Room k A) : A.units + 12 < cLine := by
  have z := u64 r
  omega
end
theorem inD_map (z : Str) (s : List Str) : inD (.str z) (s.map PyData.str) = decide (z ∈ s) := inD_strs z s
/-- a clause about names, over a state -/
def okC2 (w : Str) (a b : Bool) : Bool := if w = "needs" then !a || b else if w = "excludes" then !a || !b else a || b
theorem brk_ok {s : List Str} {w a b : Str} (hw : isWord w) : brk (s.map PyData.str) (.tuple [.str w, .str a, .str b]) = !okC2 w (decide (a ∈ s)) (decide (b ∈ s)) := by
  show (!holdsD (s.map PyData.str) w (.str a) (.str b)) = _
  unfold holdsD okC2
  rcases hw with rfl | rfl | rfl
  · rw [inD_map, inD_map] <;> rfl
  · rw [inD_map, inD_map] <;> rfl
  · rw [inD_map, inD_map] <;> rfl
theorem legal_iff {ns : List Str} {cd : List PyData} {s : List Str} : s ∈ legalD ns cd ↔ s ∈ allD ns ∧ ∀ d ∈ cd, brk (s.map PyData.str) d = false := by
  unfold legalD
  rw [List.mem_filter, decide_eq_true_eq, broken_nil, List.filter_eq_nil_iff]
  constructor
  · rintro ⟨h1, h2⟩
    exact ⟨h1, fun d hd => by simpa using h2 d hd⟩
  · rintro ⟨h1, h2⟩
    exact ⟨h1, fun d hd => by simpa using h2 d hd⟩
/-- the numbers of the broken clauses, as they are collected -/
theorem broken_range (sd : List PyData) : ∀ (cd : List PyData) (i : Nat), brokenFrom sd i cd = ((List.range cd.length).filter fun k => match cd[k]? with | some d => brk sd d | none => false).map (i + ·)
  | [], i => rfl
  | d :: cd, i => by
    have e : brokenFrom sd i (d :: cd) = if brk sd d then i :: brokenFrom sd (i + 1) cd else brokenFrom sd (i + 1) cd := rfl
    rw [e, broken_range sd cd (i + 1), List.length_cons, List.range_succ_eq_map, List.filter_cons, List.filter_map]
    have e2 : (fun k => match (d :: cd)[k]? with | some d => brk sd d | none => false) ∘ Nat.succ = fun k => match cd[k]? with | some d => brk sd d | none => false := by
      funext k
      rfl
    rw [e2]
    have e3 : ∀ l : List Nat, l.map (i + 1 + ·) = (l.map Nat.succ).map (i + ·) := fun l => by
      rw [List.map_map]
      refine List.map_congr_left fun x _ => ?_
      show i + 1 + x = i + (x + 1)
      omega
    rw [e3]
    by_cases c : brk sd d = true
    · rw [if_pos c]
      simp [c]
    · rw [if_neg c]
      simp [c]
def tFr (sp : Sp) (E : XK) (t : TA) : TE := fun σ H Q => t σ H fun vs H1 => sp vs H1 Q E
theorem r_fr {sp : Sp} {E : XK} {t : TA} {σ : L2.St} {H : Hp} {Q : VK} (h : t σ H fun vs H1 => sp vs H1 Q E) : tFr sp E t σ H Q := h
/-- a step, generators' lists first -/
local macro_rules | `(tactic| walk_at "rl") => `(tactic| first | (with_reducible refine r_lgd ?_) | (with_reducible refine r_fr ?_) | walk_at "rd")
theorem StsAt.dps {K : PySem.W.Frag} {H : Hp} {xs : List V} {ss : List (List Str)} (h : StsAt H xs ss) : DpAll K H xs (ss.map fun s => .tuple (s.map PyData.str)) := Ims.dp h
theorem eqv_strs (xs ys : List Str) : PyData.eqv (.tuple (xs.map PyData.str)) (.tuple (ys.map PyData.str)) = decide (xs = ys) := by
  have key : ∀ xs ys : List Str, PyData.eqvAll (xs.map PyData.str) (ys.map PyData.str) = decide (xs = ys) := by
    intro xs
    induction xs with
    | nil => intro ys; cases ys <;> simp [PyData.eqvAll]
    | cons x xs ih =>
      intro ys
      cases ys with
      | nil => simp [PyData.eqvAll]
      | cons y ys =>
        simp only [List.map_cons, PyData.eqvAll, ih]
        by_cases h : x = y <;> by_cases h2 : xs = ys <;> simp [PyData.eqv, h, h2]
  simpa [PyData.eqv] using key xs ys
theorem any_sts (s : List Str) : ∀ ss : List (List Str), ((ss.map fun s => PyData.tuple (s.map PyData.str)).any fun z => PyData.eqv z (.tuple (s.map PyData.str))) = decide (s ∈ ss)
  | [] => by simp
  | t :: ss => by
    rw [List.map_cons, List.any_cons, any_sts s ss, eqv_strs]
    by_cases h : t = s
    · subst h; simp
    · have h' : ¬ s = t := fun e => h e.symm
      simp [h, h']
theorem lcLg {K : PySem.W.Frag} {σ : L2.St} {H : Hp} {Q : VK} {te : TE} {g : TG} {tt : TT} {el : TE} {vs : List Nat} (good : Addr → List V → Hp → Prop) (he : ∀ R : VK, (∀ a xs H0, good a xs H0 → R (.ref a) H0) → te σ H R)
    (body : ∀ a xs H0, good a xs H0 → SqL K H0 a xs ∧ ∃ Pv : Addr → Nat → Hp → Prop, (∀ D, H0 D = none → Pv D 0 (upd H0 D (.lst []))) ∧ (∀ D i H1, H0 D = none → i ≤ xs.length → Pv D i H1 → SqL K H1 a xs) ∧
      (∀ D i y H1, H0 D = none → xs[i]? = some y → Pv D i H1 → g y (wipe σ vs) H1 fun σ2 H2 => wipe σ2 vs = wipe σ vs ∧ tt σ2 H2 fun b H3 =>
        if b = true then el σ2 H3 fun y H4 => ∃ acc, H4 D = some (.lst acc) ∧ acc.length < sizeLine ∧ Pv D (i + 1) (upd H4 D (.lst (acc ++ [y]))) else Pv D (i + 1) H3) ∧ (∀ D H', H0 D = none → Pv D xs.length H' → Q (.ref D) H')) : tLc (iList K te) g tt el vs σ H Q := by
  refine he _ fun a xs H0 hg => ?_
  obtain ⟨hq, Pv, h0, hG, hs, hd⟩ := body a xs H0 hg
  have z := lcL (σ := σ) (te := fun _ _ R => R (.ref a) H0) (H := H0) (g := g) (tt := tt) (el := el) (vs := vs) (Q := Q) (fun _ z => z) hq Pv h0 hG hs hd
  exact z
section
variable {P : Program} {w : World} {K : PySem.W.Frag} {mg : Str → Option Value} {base : Heap} {G : List Addr} {L : List (Addr × Str)}
theorem r_repL {H : Hp} {Q : VK} {a : Addr} {n : Nat} {xs : List V} (h : H a = some (.lst xs)) (hn : n ≤ 1000) (hl : xs.length * n ≤ 5000) (q : ∀ p H', H p = none → (∀ b o, H b = some o → H' b = some o) → H' p = some (.lst (List.replicate n xs).flatten) → Q (.ref p) H') : rRep (.ref a) (.int (n : Nat)) H Q :=
  ⟨a, (n : Nat), xs, rfl, rfl, h, by omega, by omega, Nat.le_trans (by simpa using hl) (by decide), fun p hp => q p _ hp (new_facts rfl hp).1 upd_same⟩
/-- what the law's def is asked, how it answers -/
def spLaw (K : PySem.W.Frag) (G : List Addr) (L : List (Addr × Str)) : Sp := fun vs H Q _ => ∃ (a : Addr) (ns : List Int), vs = [.ref a] ∧ ns.length ≤ 63 ∧ SqL K H a (ns.map V.int) ∧ TBS G L H ∧ ∀ H', Q (.bl true) H'
end
section
variable {P : Program} {w : World} {K : PySem.W.Frag} {mg : Str → Option Value} {base : Heap} {G : List Addr} {L : List (Addr × Str)}
theorem scNext : FnScope ["_law_dice_here", "_law_many", "_law_found", "_law_cell"] ["_law_dice_here", "_law_many"] (defScope sNext) := C8.fnScope_by (by decide +kernel)
theorem ok_next {f : Addr} {fd : FuncData} (F : Fun K "_law_next" "_law_next" sNext f fd) (zI : mg "int" = none) (zL : mg "len" = none) : FnOk P w K mg base CX0 1 f fd ["_law_dice_here", "_law_many"] (spTaken K G L) := by
  refine F.ok scNext (fun vs H Q E h => ?_) (fun cdv A outer s H vs Q E hr h => ?_)
  · obtain ⟨r, m, e, _⟩ := h
    rw [e]
    rfl
  · obtain ⟨ρ, m, e, hR, m0, m1, q⟩ := h
    subst e
    obtain ⟨r, a, ns⟩ := ρ
    obtain ⟨i, z, l, sc, hn, hr0, hi⟩ := hR
    dsimp only at sc hn hr0 q
    refine ⟨_, pss_cons (ps_if (pt_cmpR op_gt (pe_ix ix_list (pv 0) pe_int (fun _ _ => rfl)) pe_int (nomark _))
        (pss_cons (ps_set (i := 2) scNext.nd rfl (Or.inl rfl) (pe_op op_mod (pe_callTy c_int rfl zI boot_int (pa_cons (pe_ix ix_list (pv 0) pe_int (fun _ _ => rfl)) pa_nil)) (pv 1)))
        (pss_cons (ps_asg (pe_op op_fdiv (pe_ix ix_list (pv 0) pe_int (fun _ _ => rfl)) (pv 1)) (pg_sub (pv 0) pe_int set_list (fun _ => rfl)))
        (pss_one (ps_ret (pv 2))))) pss_nil)
      (pss_cons (ps_asg (pe_op op_add (pe_ix ix_list (pv 0) pe_int (fun _ _ => rfl)) pe_int) (pg_sub (pv 0) pe_int set_list (fun _ => rfl)))
      (pss_cons (ps_if (pt_cmpR op_le (pe_ix ix_list (pv 0) pe_int (fun _ _ => rfl)) (pe_callB c_len rfl zL boot_len (pa_cons (pe_ix ix_list (pv 0) pe_int (fun _ _ => rfl)) pa_nil)) (nomark _))
        (pss_cons (ps_set (i := 3) scNext.nd rfl (Or.inl rfl) (pe_ix ix_list (pe_ix ix_list (pv 0) pe_int (fun _ _ => rfl)) (pe_op op_sub (pe_ix ix_list (pv 0) pe_int (fun _ _ => rfl)) pe_int) (fun _ _ => rfl)))
        (pss_cons (ps_asg (pe_ifExp (pt_cmpR op_ge (pv 3) (pe_op op_pow pe_int pe_int) (nomark _)) (pe_op op_fdiv (pv 3) (pv 1)) pe_int) (pg_sub (pv 0) pe_int set_list (fun _ => rfl)))
        (pss_one (ps_ret (pe_op op_mod (pe_callTy c_int rfl zI boot_int (pa_cons (pv 3) pa_nil)) (pv 1)))))) pss_nil)
      (pss_cons (ps_asg (pe_op op_mod (pe_callTy c_int rfl zI boot_int (pa_cons (pe_op op_mul (pe_ix ix_list (pv 0) pe_int (fun _ _ => rfl)) pe_int) pa_nil)) pe_int) (pg_sub (pv 0) pe_int set_list (fun _ => rfl)))
      (pss_one (ps_ret (pe_op op_mod (pe_op op_fdiv (pe_ix ix_list (pv 0) pe_int (fun _ _ => rfl)) pe_int) (pv 1))))))), ?_⟩
    repeat walk_at "rd"
    refine r_ixL (SqL.of hr0) (v := .int l) rfl ?_
    repeat walk_at "rd"
    refine r_if (fun c => ?_) (fun c => ?_)
    · repeat walk_at "rd"
      refine r_ixL (SqL.of hr0) (v := .int l) rfl ?_
      repeat walk_at "rd"
      refine r_I m0 ?_
      repeat walk_at "rd"
      refine r_ixL (SqL.of hr0) (v := .int l) rfl ?_
      repeat walk_at "rd"
      refine r_I ⟨m0, by omega⟩ ?_
      repeat walk_at "rd"
      refine r_set2 hr0 (j := 3) rfl rfl fun H1 g1 h1 => ?_
      repeat walk_at "rd"
      exact q _ _ (Int.emod_nonneg _ (by omega)) (Int.emod_lt_of_pos _ m0) (g1 G L) (.mk' sc hn (g1 G L).1 h1 hi)
    · repeat walk_at "rd"
      refine r_ixL (SqL.of hr0) (v := .int i) rfl ?_
      repeat walk_at "rd"
      refine r_set2 hr0 (j := 1) rfl rfl fun H1 g1 h1 => ?_
      repeat walk_at "rd"
      refine r_ixL (SqL.of h1) (v := .int (i + 1)) rfl ?_
      repeat walk_at "rd"
      refine r_ixL (SqL.of h1) (v := .ref a) rfl ?_
      have sq1 := sc H1 (g1 G L).1
      repeat walk_at "rd"
      refine r_lenL sq1 ?_
      rw [List.length_map]
      repeat walk_at "rd"
      refine r_if (fun c2 => ?_) (fun c2 => ?_)
      · have hle : i + 1 ≤ ns.length := of_decide_eq_true c2
        obtain ⟨cell, hcell⟩ := at_ints (ns := ns) (i := i + 1 - 1) (by omega) (by omega)
        repeat walk_at "rd"
        refine r_ixL (SqL.of h1) (v := .ref a) rfl ?_
        repeat walk_at "rd"
        refine r_ixL (SqL.of h1) (v := .int (i + 1)) rfl ?_
        repeat walk_at "rd"
        refine r_ixL sq1 hcell ?_
        repeat walk_at "rd"
        refine r_I ⟨by decide, by decide, by decide⟩ ?_
        repeat walk_at "rd"
        refine r_if (fun c3 => ?_) (fun c3 => ?_)
        · repeat walk_at "rd"
          refine r_I ⟨m0, by omega⟩ ?_
          repeat walk_at "rd"
          refine r_set2 h1 (j := 3) rfl rfl fun H3 g3 h3 => ?_
          repeat walk_at "rd"
          refine r_I m0 ?_
          exact q _ _ (Int.emod_nonneg _ (by omega)) (Int.emod_lt_of_pos _ m0) ((g1 G L).trans (g3 G L)) (.mk' sc hn ((g1 G L).trans (g3 G L)).1 h3 (by omega))
        · repeat walk_at "rd"
          refine r_set2 h1 (j := 3) rfl rfl fun H3 g3 h3 => ?_
          repeat walk_at "rd"
          refine r_I m0 ?_
          exact q _ _ (Int.emod_nonneg _ (by omega)) (Int.emod_lt_of_pos _ m0) ((g1 G L).trans (g3 G L)) (.mk' sc hn ((g1 G L).trans (g3 G L)).1 h3 (by omega))
      · repeat walk_at "rd"
        refine r_ixL (SqL.of h1) (v := .int z) rfl ?_
        repeat walk_at "rd"
        refine r_I (.inr (by decide)) ?_
        repeat walk_at "rd"
        refine r_I (by decide) ?_
        repeat walk_at "rd"
        refine r_set2 h1 (j := 2) rfl rfl fun H2 g2 h2 => ?_
        repeat walk_at "rd"
        refine r_ixL (SqL.of h2) rfl ?_
        repeat walk_at "rd"
        refine r_I ⟨by decide, by decide⟩ ?_
        repeat walk_at "rd"
        refine r_I m0 ?_
        exact q _ _ (Int.emod_nonneg _ (by omega)) (Int.emod_lt_of_pos _ m0) ((g1 G L).trans (g2 G L)) (.mk' sc hn ((g1 G L).trans (g2 G L)).1 h2 (by omega))
end
section
variable {P : Program} {w : World} {K : PySem.W.Frag} {mg : Str → Option Value} {base : Heap} {G : List Addr} {L : List (Addr × Str)}
theorem scDice : FnScope ["_law_script", "_law_mixed", "_law_cell"] ["_law_script"] (defScope sDice) := C8.fnScope_by (by decide +kernel)
def spDice (K : PySem.W.Frag) (G : List Addr) (L : List (Addr × Str)) : Sp := fun vs H Q _ => ∃ (a : Addr) (ns : List Int), vs = [.ref a] ∧ ns.length ≤ 63 ∧ SqL K H a (ns.map V.int) ∧ ∀ r H', Go G L H H' → H r = none → Row K H' ⟨r, a, ns⟩ → Q (.ref r) H'
theorem ok_dice {f : Addr} {fd : FuncData} (F : Fun K "_law_dice" "_law_dice" sDice f fd) (zI : mg "int" = none) (zL : mg "len" = none) : FnOk P w K mg base CX0 1 f fd ["_law_script"] (spDice K G L) := by
  refine F.ok scDice (fun vs H Q E h => ?_) (fun cdv A outer s H vs Q E hr h => ?_)
  · obtain ⟨a, ns, e, _⟩ := h
    rw [e]
    rfl
  · obtain ⟨a, ns, e, hn, hS, q⟩ := h
    subst e
    refine ⟨_, pss_cons (ps_set (i := 1) scDice.nd rfl (Or.inl rfl) pe_int)
      (pss_cons (ps_for PassesOwn.never rfl (pi_list (pv 0)) (pg_name (i := 2) scDice.nd rfl (.inl rfl))
        (pss_one (ps_set (i := 1) scDice.nd rfl (Or.inl rfl) (pe_op op_mod (pe_op op_add (pe_op op_add (pe_op op_mul (pv 1) pe_int) (pe_op op_mul (pe_op op_mod (pe_callTy c_int rfl zI boot_int (pa_cons (pv 2) pa_nil)) pe_int) pe_int)) pe_int) pe_int))))
      (pss_one (ps_ret (pe_lst (pa_cons (pv 0) (pa_cons pe_int (pa_cons (pe_op op_mul (pv 1) (pe_callTy c_int rfl zI boot_int (pa_cons (pe_cmpR op_gt (pe_callB c_len rfl zL boot_len (pa_cons (pv 0) pa_nil)) pe_int (nomark _)) pa_nil))) (pa_cons pe_int pa_nil)))))))), ?_⟩
    repeat walk_at "rd"
    refine forL (a := a) (xs := ns.map V.int) (fun R z => ⟨_, rfl, z⟩) hS (fun i σ H' => ∃ (m : Int) (x2 : Option V), σ = [some (.ref a), some (.int m), x2] ∧ H' = H) ?_ ?_ ?_ ?_
    · exact ⟨0, none, rfl, rfl⟩
    · rintro i σ H' _ ⟨m, x2, rfl, rfl⟩
      exact hS
    · rintro i y σ H' hy ⟨m, x2, rfl, rfl⟩
      obtain ⟨z, rfl⟩ : ∃ z : Int, y = .int z := by
        rw [List.getElem?_map] at hy
        cases hz : ns[i]? with
        | none => rw [hz] at hy; cases hy
        | some z => rw [hz] at hy; exact ⟨z, (Option.some.inj hy).symm⟩
      refine r_gN ?_
      repeat walk_at "rd"
      refine r_I (.inr (by decide)) ?_
      repeat walk_at "rd"
      refine r_I (by decide) ?_
      repeat walk_at "rd"
      refine r_I (.inr (by decide)) ?_
      repeat walk_at "rd"
      refine r_I (by decide) ?_
      repeat walk_at "rd"
      exact ⟨_, _, rfl, rfl⟩
    · rintro σ H' ⟨m, x2, rfl, rfl⟩
      repeat walk_at "rd"
      refine r_lenL hS ?_
      repeat walk_at "rd"
      have fin : ∀ k : Int, -(2 ^ 64) < k ∧ k < 2 ^ 64 → rI CMul (fun i j => V.int (i * j)) (V.int m) (V.int k) H' fun x H1 =>
              tCons (tC (V.int 0)) tNil [some (V.ref a), some (V.int m), x2] H1 fun xs H2 =>
                (V.ref a :: V.int 0 :: x :: xs).length ≤ sizeLine ∧
                  ∀ (p : Addr), H2 p = none → Q (V.ref p) (upd H2 p (HO.lst (V.ref a :: V.int 0 :: x :: xs))) := fun k hk => by
        refine r_I (.inr hk) ?_
        repeat walk_at "rd"
        refine ⟨by show 4 ≤ sizeLine; decide, fun p hp => ?_⟩
        generalize hH : upd H' p _ = H1; obtain ⟨k1, e1⟩ := new_facts hH hp; clear hH
        exact q p H1 (Go.same k1) hp ⟨0, _, 0, fun H2 e' => scr_of hp hS H2 ((kp_ev k1).trans e'), hn, e1, Int.le_refl 0⟩
      refine fin _ ?_
      split <;> decide
end
section
variable {P : Program} {w : World} {K : PySem.W.Frag} {mg : Str → Option Value} {base : Heap} {G : List Addr} {L : List (Addr × Str)}
def spKeeps (K : PySem.W.Frag) : Sp := fun vs H Q _ => ∃ sv cv sd w a b, vs = [cv, sv] ∧ Dp K H sv (.tuple sd) ∧ Dp K H cv (.tuple [.str w, a, b]) ∧ lv 8 (.tuple sd) = true ∧ lv 8 a = true ∧ lv 8 b = true ∧ Q (.bl (holdsD sd w a b)) H
theorem scKeeps : FnScope ["_law_clause_here", "_law_state", "_law_word", "_law_first", "_law_second"] ["_law_clause_here", "_law_state"] (defScope sKeeps) := C8.fnScope_by (by decide +kernel)
theorem ok_keeps {f : Addr} {fd : FuncData} (F : Fun K "_law_keeps" "_law_keeps" sKeeps f fd) : FnOk P w K mg base CX0 1 f fd ["_law_clause_here", "_law_state"] (spKeeps K) := by
  refine F.ok scKeeps (fun vs H Q E h => ?_) (fun cdv A outer s H vs Q E hr h => ?_)
  · obtain ⟨sv, cv, sd, w, a, b, e, _⟩ := h
    rw [e]
    rfl
  · obtain ⟨sv, cv, sd, w, a, b, e, hs, hc, l0, l1, l2, q⟩ := h
    subst e
    refine ⟨_, pss_cons (ps_asg (pv 0) (pg_tup rfl (pgs_cons (pg_name (i := 2) scKeeps.nd rfl (.inl rfl)) (pgs_cons (pg_name (i := 3) scKeeps.nd rfl (.inl rfl)) (pgs_cons (pg_name (i := 4) scKeeps.nd rfl (.inl rfl)) pgs_nil)))))
      (pss_cons (ps_if (pt_cmpR op_eq (pv 2) pe_str (nomark _)) (pss_one (ps_ret (pe_or (pe_cmpR (op_notInT (u65 hr)) (pv 3) (pv 1) rfl) (pe_one (pe_cmpR (op_inT (u65 hr)) (pv 4) (pv 1) rfl))))) pss_nil)
      (pss_cons (ps_if (pt_cmpR op_eq (pv 2) pe_str (nomark _)) (pss_one (ps_ret (pe_or (pe_cmpR (op_notInT (u65 hr)) (pv 3) (pv 1) rfl) (pe_one (pe_cmpR (op_notInT (u65 hr)) (pv 4) (pv 1) rfl))))) pss_nil)
      (pss_one (ps_ret (pe_or (pe_cmpR (op_inT (u65 hr)) (pv 3) (pv 1) rfl) (pe_one (pe_cmpR (op_inT (u65 hr)) (pv 4) (pv 1) rfl))))))), ?_⟩
    cases hc with
    | @tup T xs _ hT hxs =>
      have h3 : xs.length = 3 := Dps.length hxs
      obtain ⟨x, y, z, dx, dy, dz, e1, e2, hx, hy, hz⟩ := three_of hxs h3
      cases e2
      subst e1
      cases hx
      refine r_seq (r_asgE (x := .ref T) (fun R z => ⟨_, rfl, z⟩) (g_three hT ?_))
      repeat walk_at "rd"
      refine r_eq rfl ?_
      repeat walk_at "rd"
      refine r_if (fun c1 => ?_) (fun c1 => ?_)
      · have ew : w = "needs" := V.str.inj (of_decide_eq_true c1)
        subst ew
        repeat walk_at "rd"
        refine r_ninT hy hs l1 l0 ?_
        repeat walk_at "rd"
        refine r_if (fun c2 => ?_) (fun c2 => ?_)
        · have e : holdsD sd "needs" a b = true := by
            show (!inD a sd || inD b sd) = true
            rw [c2]
            rfl
          rw [e] at q
          exact q
        · repeat walk_at "rd"
          refine r_inT hz hs l2 l0 ?_
          have e : holdsD sd "needs" a b = inD b sd := by
            show (!inD a sd || inD b sd) = _
            rw [c2]
            rfl
          rw [e] at q
          exact q
      · have ew : w ≠ "needs" := fun z => of_decide_eq_false c1 (congrArg V.str z)
        repeat walk_at "rd"
        refine r_eq rfl ?_
        repeat walk_at "rd"
        refine r_if (fun c3 => ?_) (fun c3 => ?_)
        · have ew2 : w = "excludes" := V.str.inj (of_decide_eq_true c3)
          have e0 : holdsD sd w a b = (!inD a sd || !inD b sd) := by
            unfold holdsD
            rw [if_neg ew, if_pos ew2]
          rw [e0] at q
          repeat walk_at "rd"
          refine r_ninT hy hs l1 l0 ?_
          repeat walk_at "rd"
          refine r_if (fun c2 => ?_) (fun c2 => ?_)
          · rw [c2] at q
            exact q
          · repeat walk_at "rd"
            refine r_ninT hz hs l2 l0 ?_
            rw [c2] at q
            exact q
        · have ew2 : w ≠ "excludes" := fun z => of_decide_eq_false c3 (congrArg V.str z)
          have e0 : holdsD sd w a b = (inD a sd || inD b sd) := by
            unfold holdsD
            rw [if_neg ew, if_neg ew2]
          rw [e0] at q
          repeat walk_at "rd"
          refine r_inT hy hs l1 l0 ?_
          repeat walk_at "rd"
          refine r_if (fun c2 => ?_) (fun c2 => ?_)
          · rw [c2] at q
            exact q
          · repeat walk_at "rd"
            refine r_inT hz hs l2 l0 ?_
            rw [c2] at q
            exact q
theorem scPick : FnScope ["_law_d", "_law_some"] ["_law_d", "_law_some"] (defScope sPick) := C8.fnScope_by (by decide +kernel)
theorem r_ixA {p : Addr} {xs : List V} {i : Nat} {v : V} {H : Hp} {Q : VK} (h : SqA K H p xs) (e : xs[i]? = some v) (q : Q v H) : rIx K (.ref p) (.int (i : Nat)) H Q := by
  rcases h with h | h
  · exact .inl (r_ixL h (atI_nat e) q)
  · exact .inr (.inl (r_ixT h (atI_nat e) q))
def spPick (K : PySem.W.Frag) (G : List Addr) (L : List (Addr × Str)) : Sp := fun vs H Q _ => ∃ (ρ : Rid) (p : Addr) (xs : List V), vs = [.ref ρ.r, .ref p] ∧ Row K H ρ ∧ 0 < xs.length ∧ xs.length < 1000000 ∧ (∀ H', H' = H ∨ GoR G L ρ.r H H' → SqA K H' p xs) ∧
  ∀ (i : Nat) (v : V) (H' : Hp), xs[i]? = some v → GoR G L ρ.r H H' → Row K H' ρ → Q v H'
theorem ok_pick {f : Addr} {fd : FuncData} (F : Fun K "_law_pick" "_law_pick" sPick f fd) (zL : mg "len" = none) (NX : Fd CX0 P w K mg base "_law_next" 1 (spTaken K G L)) : FnOk P w K mg base CX0 2 f fd ["_law_d", "_law_some"] (spPick K G L) := by
  refine F.ok scPick (fun vs H Q E h => ?_) (fun cdv A outer s H vs Q E hr h => ?_)
  · obtain ⟨ρ, p, xs, e, _⟩ := h
    rw [e]
    rfl
  · obtain ⟨ρ, p, xs, e, hR, h0, hl, hs, q⟩ := h
    subst e
    refine ⟨_, pss_one (ps_ret (pe_ix ix_seq (pv 1) (pe_fd (E := E0) NX hr pass0 (pa_cons (pv 0) (pa_cons (pe_callB c_len rfl zL boot_len (pa_cons (pv 1) pa_nil)) pa_nil))) (fun _ _ => rfl))), ?_⟩
    repeat walk_at "rd"
    refine ⟨p, xs, rfl, hs H (.inl rfl), ?_⟩
    repeat walk_at "rd"
    refine r_taken hR (by omega) (by omega) fun v H1 hv g1 hR1 => ?_
    have hv' : v < xs.length := by omega
    exact r_ixA (hs H1 (.inr g1)) (List.getElem?_eq_getElem hv') (q v _ H1 (List.getElem?_eq_getElem hv') g1 hR1)
theorem scClause5 : FnScope ["_law_d", "_law_names_here", "_law_word"] ["_law_d", "_law_names_here"] (defScope sClause5) := C8.fnScope_by (by decide +kernel)
def wordAt5 (n : Nat) : Str := ["needs", "excludes", "either"].getD n "needs"
theorem wordAt5_ok (n : Nat) (h : n < 5) : ∃ m : Nat, m < 3 ∧ atI [V.int 0, .int 0, .int 1, .int 1, .int 2] (n : Nat) = some (.int (m : Nat)) ∧ isWord (wordAt5 m) ∧ atI [V.str "needs", .str "excludes", .str "either"] (m : Nat) = some (.str (wordAt5 m)) := by
  match n, h with
  | 0, _ => exact ⟨0, by decide, rfl, .inl rfl, rfl⟩
  | 1, _ => exact ⟨0, by decide, rfl, .inl rfl, rfl⟩
  | 2, _ => exact ⟨1, by decide, rfl, .inr (.inl rfl), rfl⟩
  | 3, _ => exact ⟨1, by decide, rfl, .inr (.inl rfl), rfl⟩
  | 4, _ => exact ⟨2, by decide, rfl, .inr (.inr rfl), rfl⟩
theorem ok_clause5 {f : Addr} {fd : FuncData} (F : Fun K "_law_clause" "_law_clause" sClause5 f fd) (NX : Fd CX0 P w K mg base "_law_next" 1 (spTaken K G L)) (PK : Fd CX0 P w K mg base "_law_pick" 2 (spPick K G L)) : FnOk P w K mg base CX0 3 f fd ["_law_d", "_law_names_here"] (spClause K G L) := by
  refine F.ok scClause5 (fun vs H Q E h => ?_) (fun cdv A outer s H vs Q E hr h => ?_)
  · obtain ⟨r, an, ns, e, _⟩ := h
    rw [e]
    rfl
  · obtain ⟨r, an, ns, e, hR, ha, hne, hl, q⟩ := h
    subst e
    refine ⟨_, pss_cons (ps_set (i := 2) scClause5.nd rfl (Or.inl rfl) (pe_ix ix_list (pe_lst (pa_cons pe_str (pa_cons pe_str (pa_cons pe_str pa_nil)))) (pe_ix ix_list (pe_lst (pa_cons pe_int (pa_cons pe_int (pa_cons pe_int (pa_cons pe_int (pa_cons pe_int pa_nil)))))) (pe_fd (E := E0) NX hr pass0 (pa_cons (pv 0) (pa_cons pe_int pa_nil))) (fun _ _ => rfl)) (fun _ _ => rfl)))
      (pss_one (ps_ret (pe_tup (pa_cons (pv 2) (pa_cons (pe_fd (E := E0) PK hr pass0 (pa_cons (pv 0) (pa_cons (pv 1) pa_nil))) (pa_cons (pe_fd (E := E0) PK hr pass0 (pa_cons (pv 0) (pa_cons (pv 1) pa_nil))) pa_nil)))))), ?_⟩
    have n0 : 0 < ns.length := List.length_pos_iff.mpr hne
    repeat walk_at "rd"
    refine ⟨(by show 3 ≤ sizeLine; decide), fun p hp => ?_⟩
    generalize hH : upd H p _ = H0; obtain ⟨k0, hp0⟩ := new_facts hH hp; clear hH
    have g0 : Go G L H H0 := Go.same k0
    have hR0 := hR.go g0
    have pr : p ≠ r.r := by
      obtain ⟨xs, z⟩ := hR.lst
      exact (ne_of_none z hp).symm
    repeat walk_at "rd"
    refine ⟨(by show 5 ≤ sizeLine; decide), fun p' hp' => ?_⟩
    generalize hH : upd H0 p' _ = H0'; obtain ⟨k0', hp0'⟩ := new_facts hH hp'; clear hH
    have g0' : Go G L H H0' := g0.trans (Go.same k0')
    have hR0' := hR.go g0'
    have pr' : p' ≠ r.r := by
      obtain ⟨xs, z⟩ := hR0.lst
      exact (ne_of_none z hp').symm
    have hp1 := k0' _ _ hp0
    repeat walk_at "rd"
    refine r_taken hR0' (by decide) (by decide) fun v1 H1 hv1 g1 hR1 => ?_
    obtain ⟨m, hm, w0, w1, w2⟩ := wordAt5_ok v1 (by omega)
    refine r_ixL (.of (g1.lst pr' hp0')) w0 ?_
    refine r_ixL (.of (g1.lst pr hp1)) w2 ?_
    have ha1 := (ha.kt g0'.kt).kt (hR0'.kt g1)
    have seqs : ∀ {H1 : Hp}, Row K H1 r → Tp H1 an (ns.map V.str) → ∀ H', H' = H1 ∨ GoR G L r.r H1 H' → SqA K H' an (ns.map V.str) := fun {H1} hR ha H' h => by
      rcases h with rfl | g
      · exact .inr ha.seq
      · exact .inr (ha.kt (hR.kt g)).seq
    have hst : ∀ {i : Nat} {v : V}, (ns.map V.str)[i]? = some v → ∃ z, z ∈ ns ∧ v = .str z := fun {i v} e => by
      rw [List.getElem?_map] at e
      cases hz : ns[i]? with
      | none => rw [hz] at e; cases e
      | some z => rw [hz] at e; exact ⟨z, List.mem_of_getElem? hz, (Option.some.inj e).symm⟩
    repeat walk_at "rd"
    refine ⟨r, an, ns.map V.str, rfl, hR1, by rw [List.length_map]; exact n0, by rw [List.length_map]; omega, seqs hR1 ha1, fun i2 x2 H2 e2 g2 hR2 => ?_⟩
    obtain ⟨z2, m2, rfl⟩ := hst e2
    have ha2 := ha1.kt (hR1.kt g2)
    repeat walk_at "rd"
    refine ⟨r, an, ns.map V.str, rfl, hR2, by rw [List.length_map]; exact n0, by rw [List.length_map]; omega, seqs hR2 ha2, fun i3 x3 H3 e3 g3 hR3 => ?_⟩
    obtain ⟨z3, m3, rfl⟩ := hst e3
    repeat walk_at "rd"
    refine ⟨(by show 3 ≤ sizeLine; decide), fun p4 hp4 => ?_⟩
    have g4 : Go G L H3 (upd H3 p4 (.tup [.str (wordAt5 m), .str z2, .str z3])) := Go.new hp4
    exact q _ (.tuple [.str (wordAt5 m), .str z2, .str z3]) _ ⟨_, _, _, rfl, w1, m2, m3⟩ (.tup (.inl upd_same) (.cons (.str _) (.cons (.str _) (.cons (.str _) .nil)))) ((((g0'.toR.trans g1).trans g2).trans g3).trans g4.toR) (hR3.go g4)
end
section
variable {X : Cx}
def rMulS : R2 := fun x y H Q => ∃ z n, x = .str z ∧ y = .int n ∧ MulOk z n ∧ Q (.str (Txt.mul z n)) H
theorem op_mulS : OpR X (binaryOp .Mult) rMulS := by
  intro pins s σ H x y v u Q I rx ry h
  obtain ⟨z, n, rfl, rfl, ok, q⟩ := h
  obtain ⟨t, rfl⟩ := rx
  obtain ⟨t', rfl⟩ := ry
  exact SB.mul ok fun t2 k => ⟨.str (Txt.mul z n), H, I.tok _, ⟨_, rfl⟩, q⟩
theorem op_addS : OpR X (binaryOp .Add) (fun x y H Q => ∃ i j, x = .str i ∧ y = .str j ∧ i.length + j.length ≤ sizeLine ∧ Q (.str (i ++ j)) H) := op_add_str
end
def chr1 (c : Nat) : Str := ⟨#[97 + c]⟩
def sufs : List Str := ["", "z", "zzzzz"]
def mkName (c n k s : Nat) : Str := (Txt.mul (chr1 c) (n : Int) ++ chr1 k) ++ sufs.getD s ""
theorem nmB_all : ∀ c < 26, ∀ n < 3, ∀ k < 10, ∀ s < 3, nmB (mkName c n k s) k = true := by decide +kernel
theorem letters_at : ∀ c < 26, letters.cps.toList[c]? = some (97 + c) := by decide +kernel
theorem letters_len : letters.length = 26 := by decide +kernel
theorem mul_ok : ∀ c < 26, ∀ n < 3, MulOk (chr1 c) (n : Nat) ∧ (Txt.mul (chr1 c) ((n : Nat) : Int)).length ≤ 2 := by
  intro c hc n hn
  refine ⟨⟨by match n, hn with | 0, _ => decide | 1, _ => decide | 2, _ => decide, fun h1 h2 => ?_, fun h1 h2 => ?_⟩, ?_⟩
  · match n, hn with
    | 0, _ => exact absurd (by decide) h1
    | 1, _ => cases h2
    | 2, _ => show ¬ (1 : Int) > _; decide
  · match n, hn with
    | 0, _ => exact absurd (by decide) h1
    | 1, _ => cases h2
    | 2, _ => rfl
  · match n, hn with
    | 0, _ => show (0 : Nat) ≤ 2; decide
    | 1, _ => show (1 : Nat) ≤ 2; decide
    | 2, _ => show (2 : Nat) ≤ 2; decide
theorem sufs_at (s : Nat) (h : s < 3) : atI [V.str "", .str "z", .str "zzzzz"] (s : Nat) = some (.str (sufs.getD s "")) ∧ (sufs.getD s "").length ≤ 5 := by
  match s, h with
  | 0, _ => exact ⟨rfl, by decide⟩
  | 1, _ => exact ⟨rfl, by decide⟩
  | 2, _ => exact ⟨rfl, by decide⟩
section
variable {P : Program} {w : World} {K : PySem.W.Frag} {mg : Str → Option Value} {base : Heap} {G : List Addr} {L : List (Addr × Str)}
def spNames (K : PySem.W.Frag) (G : List Addr) (L : List (Addr × Str)) : Sp := fun vs H Q _ => ∃ (ρ : Rid) (m : Nat), vs = [.ref ρ.r, .int (m : Nat)] ∧ Row K H ρ ∧ 0 < m ∧ m ≤ 10 ∧
  ∀ (ns : List Str) (T : Addr) (H' : Hp), 0 < ns.length → ns.length ≤ m → NmsP ns → NT H' T (ns.map V.str) → GoR G L ρ.r H H' → Row K H' ρ → Q (.ref T) H'
abbrev nNms : List Str := ["_law_d", "_law_most", "_law_letters", "_law_found", "_law_k"]
theorem scNames5 : FnScope nNms ["_law_d", "_law_most"] (defScope sNames5) := C8.fnScope_by (by decide +kernel)
theorem nmsP_snoc {ns : List Str} {z : Str} (h : NmsP ns) (hz : nmB z ns.length = true) : NmsP (ns ++ [z]) := fun k y e => by
  by_cases c : k < ns.length
  · rw [List.getElem?_append_left c] at e
    exact h k y e
  · rw [List.getElem?_append_right (by omega)] at e
    have e0 : k - ns.length = 0 := by
      rcases Nat.eq_zero_or_pos (k - ns.length) with z | z
      · exact z
      · rw [List.getElem?_eq_none (by show 1 ≤ _; omega)] at e
        cases e
    rw [e0] at e
    cases e
    rw [show k = ns.length by omega]
    exact hz
theorem ok_names5 {f : Addr} {fd : FuncData} (F : Fun K "_law_names" "_law_names" sNames5 f fd) (zR : mg "range" = none) (zT : mg "tuple" = none) (NX : Fd CX0 P w K mg base "_law_next" 1 (spTaken K G L)) : FnOk P w K mg base CX0 2 f fd ["_law_d", "_law_most"] (spNames K G L) := by
  refine F.ok scNames5 (fun vs H Q E h => ?_) (fun cdv A outer s H vs Q E hr h => ?_)
  · obtain ⟨r, an, e, _⟩ := h
    rw [e]
    rfl
  · obtain ⟨ρ, m, e, hR, m0, m10, q⟩ := h
    subst e
    refine ⟨_, pss_cons (ps_par (i := 2) (j := 3) rfl scNames5.nd rfl rfl (by decide) rfl rfl (pa_cons pe_str (pa_cons (pe_lst pa_nil) pa_nil)) rfl)
      (pss_cons (ps_for PassesOwn.never rfl (pi_range1 rfl zR (pa_cons (pe_op op_add pe_int (pe_fd (E := E0) NX hr pass0 (pa_cons (pv 0) (pa_cons (pv 1) pa_nil)))) pa_nil)) (pg_name (i := 4) scNames5.nd rfl (.inl rfl))
        (pss_one (ps_expr (pe_bm PySem.F.plainAttrs_list PySem.F.slot_list_append PySem.F.type_list_append mt_append (pv 3)
          (pa_cons (pe_op op_addS (pe_op op_addS (pe_op op_mulS (pe_ix ix_str (pv 2) (pe_fd (E := E0) NX hr pass0 (pa_cons (pv 0) (pa_cons pe_int pa_nil))) (fun _ _ => rfl)) (pe_fd (E := E0) NX hr pass0 (pa_cons (pv 0) (pa_cons pe_int pa_nil)))) (pe_ix ix_str (pv 2) (pv 4) (fun _ _ => rfl)))
            (pe_ix ix_list (pe_lst (pa_cons pe_str (pa_cons pe_str (pa_cons pe_str pa_nil)))) (pe_fd (E := E0) NX hr pass0 (pa_cons (pv 0) (pa_cons pe_int pa_nil))) (fun _ _ => rfl))) pa_nil)))))
      (pss_one (ps_ret (pe_callTy c_tup rfl zT (by decide +kernel) (pa_cons (pv 3) pa_nil))))), ?_⟩
    repeat walk_at "rd"
    refine ⟨Nat.zero_le _, fun D hD => ?_⟩
    generalize hH : upd H D _ = H1; obtain ⟨k1, eD⟩ := new_facts hH hD; clear hH
    have g1 : Go G L H H1 := Go.same k1
    have nD : D ≠ ρ.r := by
      obtain ⟨xs, z⟩ := hR.lst
      exact (ne_of_none z hD).symm
    have hR1 := hR.go g1
    repeat walk_at "rd"
    refine ⟨.str letters, .ref D, rfl, ?_⟩
    refine r_seq ?_
    refine forRg (fun n H0 => 1 ≤ n ∧ n ≤ m ∧ GoR G L ρ.r H1 H0 ∧ Row K H0 ρ) (fun R z => ?_) (fun n H0 ⟨hn1, hnm, g0, hR0⟩ => ⟨by omega, fun i σ H' => ∃ (x4 : Option V) (ns : List Str), σ = [some (.ref ρ.r), some (.int (m : Nat)), some (.str letters), some (.ref D), x4] ∧ GoR G L ρ.r H H' ∧ Row K H' ρ ∧ H' D = some (.lst (ns.map V.str)) ∧ ns.length = i ∧ NmsP ns, ?_, ?_, ?_⟩)
    · repeat walk_at "rd"
      refine r_taken hR1 (by omega) (by omega) fun v H2 hv g2 hR2 => ?_
      repeat walk_at "rd"
      rw [show (1 : Int) + (v : Nat) = ((v + 1 : Nat) : Int) by omega]
      exact z (v + 1) H2 ⟨by omega, by omega, g2, hR2⟩
    · exact ⟨none, [], rfl, g1.toR.trans g0, hR0, g0.lst nD eD, rfl, fun k z e => by cases e⟩
    · rintro i σ H' hi ⟨x4, ns, rfl, g, hR', eD', hl, hns⟩
      refine r_gN ?_
      repeat walk_at "rd"
      refine ⟨.inl ⟨rfl, _, .of eD'⟩, ?_⟩
      repeat walk_at "rd"
      refine r_taken hR' (by decide) (by decide) fun v1 H2 hv1 g1' hR2 => ?_
      have h1 : v1 < 26 := by omega
      refine ⟨letters, (v1 : Nat), 97 + v1, rfl, rfl, by rw [letters_len]; decide, atI_nat (letters_at v1 h1), ?_⟩
      repeat walk_at "rd"
      refine r_taken hR2 (by decide) (by decide) fun v2 H3 hv2 g2' hR3 => ?_
      have h2 : v2 < 3 := by omega
      obtain ⟨mo, ml⟩ := mul_ok v1 h1 v2 h2
      refine ⟨chr1 v1, (v2 : Nat), rfl, rfl, mo, ?_⟩
      repeat walk_at "rd"
      refine ⟨letters, (i : Nat), 97 + i, rfl, rfl, by rw [letters_len]; decide, atI_nat (letters_at i (by omega)), ?_⟩
      refine ⟨_, chr1 i, rfl, rfl, ?_, ?_⟩
      · show _ + 1 ≤ sizeLine
        rw [sizeLine_eq]
        omega
      repeat walk_at "rd"
      refine ⟨(by show 3 ≤ sizeLine; decide), fun p3 hp3 => ?_⟩
      generalize hH : upd H3 p3 _ = H4; obtain ⟨k4, e4⟩ := new_facts hH hp3; clear hH
      have g4 : Go G L H3 H4 := Go.same k4
      have n3 : p3 ≠ ρ.r := by
        obtain ⟨xs, z⟩ := hR3.lst
        exact (ne_of_none z hp3).symm
      have hR4 := hR3.go g4
      repeat walk_at "rd"
      refine r_taken hR4 (by decide) (by decide) fun v3 H5 hv3 g5 hR5 => ?_
      have h3 : v3 < 3 := by omega
      obtain ⟨sa, sl⟩ := sufs_at v3 h3
      refine r_ixL (.of (g5.lst n3 e4)) sa ?_
      have hlen : (Txt.mul (chr1 v1) (v2 : Nat) ++ chr1 i).length ≤ 3 := by
        show ((Txt.mul (chr1 v1) (v2 : Nat)).cps ++ (chr1 i).cps).size ≤ 3
        rw [Array.size_append]
        have e1 : (chr1 i).cps.size = 1 := rfl
        have e2 : (Txt.mul (chr1 v1) (v2 : Nat)).cps.size ≤ 2 := ml
        omega
      refine ⟨_, _, rfl, rfl, by rw [sizeLine_eq]; omega, ?_⟩
      repeat walk_at "rd"
      have gA : GoR G L ρ.r H' H5 := ((g1'.trans g2').trans g4.toR).trans g5
      have eD5 := gA.lst nD eD'
      refine r_append eD5 (by rw [List.length_map]; omega) ?_
      have gU : GoR G L ρ.r H (upd H5 D (.lst (ns.map V.str ++ [.str (mkName v1 v2 i v3)]))) := (g.trans gA).updNew hD eD5
      refine ⟨some (.int (i : Nat)), ns ++ [mkName v1 v2 i v3], rfl, gU, ?_, ?_, by rw [List.length_append, hl]; rfl, nmsP_snoc hns (by rw [hl]; exact nmB_all v1 h1 v2 h2 i (by omega) v3 h3)⟩
      · exact hR.re hR5 gU.1 (by rw [upd_ne nD.symm])
      · rw [upd_same, List.map_append]
        rfl
    · rintro σ H' ⟨x4, ns, rfl, g, hR', eD', hl, hns⟩
      repeat walk_at "rd"
      refine r_tupL2 eD' fun T H2 k2 hT => ?_
      have g2 : Go G L H' H2 := Go.same k2
      exact q ns T H2 (by omega) (by omega) hns hT (g.trans g2.toR) (hR'.go g2)
end
theorem NmsP.okNb {ns : List Str} (h : NmsP ns) (h10 : ns.length ≤ 10) : okNb (ns.map PyData.str) = true := by
  unfold FS.okNb
  simp only [Bool.and_eq_true, decide_eq_true_eq, List.length_map, List.all_eq_true, List.mem_map]
  refine ⟨by omega, ?_, ?_⟩
  · rintro x ⟨z, hz, rfl⟩
    exact (h.all hz).2.1
  · rintro x ⟨z, hz, rfl⟩
    have q := (h.all hz).2.2
    exact decide_eq_true (by omega)
theorem NmsP.good {ns : List Str} (h : NmsP ns) (h10 : ns.length ≤ 10) : goodS ns := ⟨fun z hz => (h.all hz).2.1, by omega⟩
theorem NmsP.okR {ns : List Str} {cd : List PyData} (h : NmsP ns) (h0 : 0 < ns.length) (h10 : ns.length ≤ 10) (hc : ∀ d ∈ cd, ClD ns d) (hl : cd.length ≤ 40) : OkR ns cd :=
  ⟨h.good h10, h.names h0 h10, fun z hz => Nat.le_trans (h.all hz).2.2 (by rw [sizeLine_eq]; decide), fun d hd => (hc d hd).ok, hl⟩
theorem NmsP.gn {ns : List Str} (h : NmsP ns) : GoodN ns := ⟨h.nodup, fun _ hz => h.all hz⟩
theorem GoodN.okNb {ns : List Str} (h : GoodN ns) (h10 : ns.length ≤ 10) : okNb (ns.map PyData.str) = true := by
  unfold FS.okNb
  simp only [Bool.and_eq_true, decide_eq_true_eq, List.length_map, List.all_eq_true, List.mem_map]
  refine ⟨by omega, ?_, ?_⟩
  · rintro x ⟨z, hz, rfl⟩
    exact (h.al z hz).2.1
  · rintro x ⟨z, hz, rfl⟩
    have q := (h.al z hz).2.2
    exact decide_eq_true (by omega)
theorem GoodN.good {ns : List Str} (h : GoodN ns) (h10 : ns.length ≤ 10) : goodS ns := ⟨fun z hz => (h.al z hz).2.1, by omega⟩
theorem GoodN.okR {ns : List Str} {cd : List PyData} (h : GoodN ns) (h0 : 0 < ns.length) (h10 : ns.length ≤ 10) (hc : ∀ d ∈ cd, ClD ns d) (hl : cd.length ≤ 40) : OkR ns cd :=
  ⟨h.good h10, h.names h0 h10, fun z hz => Nat.le_trans (h.al z hz).2.2 (by rw [sizeLine_eq]; decide), fun d hd => (hc d hd).ok, hl⟩
theorem lcLs {K : PySem.W.Frag} {σ : L2.St} {H : Hp} {Q : VK} {te : TE} {g : TG} {tt : TT} {el : TE} {vs : List Nat} (good : Addr → List V → Hp → Prop) (he : ∀ R : VK, (∀ a xs H0, good a xs H0 → R (.ref a) H0) → te σ H R)
    (body : ∀ a xs H0, good a xs H0 → SqL K H0 a xs ∧ ∃ Pv : Addr → Nat → Hp → Prop, (∀ D, H0 D = none → Pv D 0 (upd H0 D (.lst []))) ∧ (∀ D i H1, H0 D = none → i ≤ xs.length → Pv D i H1 → SqL K H1 a xs) ∧
      (∀ D i y H1, H0 D = none → xs[i]? = some y → Pv D i H1 → g y (wipe σ vs) H1 fun σ2 H2 => wipe σ2 vs = wipe σ vs ∧ tt σ2 H2 fun b H3 =>
        if b = true then el σ2 H3 fun y H4 => ∃ acc, H4 D = some (.lst acc) ∧ acc.length < sizeLine ∧ Pv D (i + 1) (upd H4 D (.lst (acc ++ [y]))) else Pv D (i + 1) H3) ∧ (∀ D H', H0 D = none → Pv D xs.length H' → Q (.ref D) H')) : tLc (iList K te) g tt el vs σ H Q := by
  refine he _ fun a xs H0 hg => ?_
  obtain ⟨hq, Pv, h0, hG, hs, hd⟩ := body a xs H0 hg
  have z := lcL (σ := σ) (te := fun _ _ R => R (.ref a) H0) (H := H0) (g := g) (tt := tt) (el := el) (vs := vs) (Q := Q) (fun _ z => z) hq Pv h0 hG hs hd
  exact z
section
variable {P : Program} {w : World} {K : PySem.W.Frag} {mg : Str → Option Value} {base : Heap} {G : List Addr} {L : List (Addr × Str)}
theorem r_snocA {H : Hp} {Q : VK} {T p : Addr} {xs : List V} {y : V} (hT : Tp H T xs) (hp : H p = some (.tup [y])) (hl : xs.length ≤ 300) (q : ∀ T' H', (∀ b o, H b = some o → H' b = some o) → Tp H' T' (xs ++ [y]) → Q (.ref T') H') : rCatA K (.ref T) (.ref p) H Q := by
  refine ⟨T, p, xs, [y], rfl, rfl, hT.seq, .of hp, ?_, fun hnil => ?_, fun _ he => (by cases he), fun hnn _ p4 hp4 => ?_⟩
  · rw [sizeLine_eq]
    show xs.length + 1 ≤ _
    omega
  · refine q p H (fun _ _ e => e) ?_
    rw [hnil]
    exact .inl hp
  · exact q p4 _ (fun b o e => by rw [upd_ne (ne_of_none e hp4)]; exact e) (.inl upd_same)
def pairD (ns : List Str) (ix : List Nat) : PyData := .tuple [.tuple (ix.map fun i => .int (i : Nat)), .tuple ((nmsOf ns ix).map PyData.str)]
theorem ims_ints_eq {H : Hp} : ∀ {l : List Nat} {vs : List V}, Ims H vs (l.map fun i => PyData.int (i : Nat)) → vs = l.map fun i => V.int (i : Nat)
  | [], _, .nil => rfl
  | z :: s, _, .cons h t => by
    cases h
    rw [ims_ints_eq t]
    rfl
theorem ims_ints {H : Hp} : ∀ l : List Nat, Ims H (l.map fun i => V.int (i : Nat)) (l.map fun i => PyData.int (i : Nat))
  | [] => .nil
  | x :: l => .cons (.int _) (ims_ints l)
theorem pair_get {H : Hp} {xs : List V} {ns : List Str} {l : List (List Nat)} {i : Nat} {x : V} (h : Ims H xs (l.map (pairD ns))) (hx : xs[i]? = some x) :
    ∃ R T S ix, l[i]? = some ix ∧ x = .ref R ∧ Tp H R [.ref T, .ref S] ∧ Tp H T (ix.map fun i => V.int (i : Nat)) ∧ Tp H S ((nmsOf ns ix).map V.str) := by
  obtain ⟨d, hd, hi⟩ := h.get hx
  rw [List.getElem?_map] at hd
  cases hs : l[i]? with
  | none => rw [hs] at hd; cases hd
  | some ix =>
    rw [hs] at hd
    obtain rfl : d = pairD ns ix := (Option.some.inj hd).symm
    cases hi with
    | @tup R ws _ h1 h2 =>
    cases h2 with
    | @cons v1 _ _ _ i1 h2 =>
    cases h2 with
    | @cons v2 _ _ _ i2 h2 =>
    cases h2
    cases i1 with
    | @tup T us _ hT hu =>
    cases i2 with
    | @tup S us2 _ hS hu2 =>
    rw [ims_ints_eq hu] at hT
    rw [ims_strs_eq hu2] at hS
    exact ⟨R, T, S, ix, rfl, rfl, h1, hT, hS⟩
theorem pair_im {H : Hp} {ns : List Str} {ix : List Nat} {R T S : Addr} (h1 : Tp H R [.ref T, .ref S]) (h2 : Tp H T (ix.map fun i => V.int (i : Nat))) (h3 : Tp H S ((nmsOf ns ix).map V.str)) : Im H (.ref R) (pairD ns ix) :=
  .tup h1 (.cons (.tup h2 (ims_ints ix)) (.cons (.tup h3 (ims_strs _)) .nil))
theorem genI_len : ∀ n < 9, (genI n).all (fun ix => decide (ix.length ≤ 300)) = true := by decide +kernel
abbrev nAll : List Str := ["_law_names_here", "_law_rows", "_law_k", "_law_keys", "_law_state", "_law_row"]
theorem scAll5 : FnScope nAll ["_law_names_here"] (defScope sAll5) := C8.fnScope_by (by decide +kernel)
def spAll5 (K : PySem.W.Frag) (G : List Addr) (L : List (Addr × Str)) : Sp := fun vs H Q _ => ∃ (an : Addr) (ns : List Str), vs = [.ref an] ∧ Tp H an (ns.map V.str) ∧ ns.length ≤ 8 ∧
  ∀ l xs H', Nw H l → Go G L H H' → H' l = some (.lst xs) → StsAt H' xs (allD ns) → Q (.ref l) H'
theorem ok_all5 {f : Addr} {fd : FuncData} (F : Fun K "_law_all" "_law_all" sAll5 f fd) (zL : mg "len" = none) (zR : mg "range" = none) (zS : mg "sorted" = none) : FnOk P w K mg base CX0 1 f fd ["_law_names_here"] (spAll5 K G L) := by
  refine F.ok scAll5 (fun vs H Q E h => ?_) (fun cdv A outer s H vs Q E hr h => ?_)
  · obtain ⟨an, ns, e, _⟩ := h
    rw [e]
    rfl
  · obtain ⟨an, ns, e, hn, hlen, q⟩ := h
    subst e
    refine ⟨_, pss_cons (ps_set (i := 1) scAll5.nd rfl (Or.inl rfl) (pe_lst (pa_cons (pe_tup (pa_cons (pe_tup pa_nil) (pa_cons (pe_tup pa_nil) pa_nil))) pa_nil)))
      (pss_cons (ps_for PassesOwn.never rfl (pi_range1 rfl zR (pa_cons (pe_callB (r := cLen K) c_len rfl zL boot_len (pa_cons (pv 0) pa_nil)) pa_nil)) (pg_name (i := 2) scAll5.nd rfl (.inr rfl))
        (pss_one (ps_set (i := 1) scAll5.nd rfl (Or.inl rfl) (pe_op op_cat (pv 1) (pe_lc (own := [("_law_keys", 3), ("_law_state", 4)]) (g := gTup K 2 (gCons (gName 3) (gCons (gName 4) gNil))) (tt := tYes) rfl scAll5.nd (pi_list (pv 1))
          (blkOk_by (own := [("_law_keys", 3), ("_law_state", 4)]) (N := nAll) (sc := defScope sAll5) (by decide +kernel)) (fun _ _ _ _ _ => pg_tup rfl (pgs_cons (pg_name (i := 3) scAll5.nd rfl (.inl rfl)) (pgs_cons (pg_name (i := 4) scAll5.nd rfl (.inl rfl)) pgs_nil))) (fun _ _ _ _ _ => pts_nil)
          (fun _ _ _ _ _ => pe_tup (pa_cons (pe_op (r := rCatA K) op_catA (pv 3) (pe_tup (pa_cons (pv 2) pa_nil))) (pa_cons (pe_op (r := rCatA K) op_catA (pv 4) (pe_tup (pa_cons (pe_ix (r := rIxT K) ix_tup (pv 0) (pv 2) (fun _ _ => rfl)) pa_nil))) pa_nil))))))))
      (pss_one (ps_ret (pe_lc (own := [("_law_row", 5)]) (g := gName 5) (tt := tYes) rfl scAll5.nd (pi_list (pe_callB (cr_sortedD (u12 hr)) rfl zS (by decide +kernel) (pa_cons (pe_lc (own := [("_law_keys", 3), ("_law_state", 4)]) (g := gTup K 2 (gCons (gName 3) (gCons (gName 4) gNil))) (tt := tYes) rfl scAll5.nd (pi_list (pv 1))
          (blkOk_by (own := [("_law_keys", 3), ("_law_state", 4)]) (N := nAll) (sc := defScope sAll5) (by decide +kernel)) (fun _ _ _ _ _ => pg_tup rfl (pgs_cons (pg_name (i := 3) scAll5.nd rfl (.inl rfl)) (pgs_cons (pg_name (i := 4) scAll5.nd rfl (.inl rfl)) pgs_nil))) (fun _ _ _ _ _ => pts_nil)
          (fun _ _ _ _ _ => pe_tup (pa_cons (pe_callB (r := cLen K) c_len rfl zL boot_len (pa_cons (pv 3) pa_nil)) (pa_cons (pv 3) (pa_cons (pv 4) pa_nil))))) pa_nil)))
        (blkOk_by (own := [("_law_row", 5)]) (N := nAll) (sc := defScope sAll5) (by decide +kernel)) (fun _ _ _ _ _ => pg_name (i := 5) scAll5.nd rfl (.inl rfl)) (fun _ _ _ _ _ => pts_nil)
        (fun _ _ _ _ _ => pe_ix (r := rIxT K) ix_tup (pv 5) pe_int (fun _ _ => rfl)))))), ?_⟩
    repeat walk_at "rd"
    refine ⟨Nat.zero_le _, fun p0 hp0 => ?_⟩
    generalize hH : upd H p0 _ = H1; obtain ⟨k1, e1⟩ := new_facts hH hp0; clear hH
    repeat walk_at "rd"
    refine ⟨Nat.zero_le _, fun p1 hp1 => ?_⟩
    generalize hH : upd H1 p1 _ = H2; obtain ⟨k2, e2⟩ := new_facts hH hp1; clear hH
    repeat walk_at "rd"
    refine ⟨by show 2 ≤ sizeLine; decide, fun p2 hp2 => ?_⟩
    generalize hH : upd H2 p2 _ = H3; obtain ⟨k3, e3⟩ := new_facts hH hp2; clear hH
    refine r_nil ⟨by show 1 ≤ sizeLine; decide, fun p3 hp3 => ?_⟩
    generalize hH : upd H3 p3 _ = H4; obtain ⟨k4, e4⟩ := new_facts hH hp3; clear hH
    have g4 : Go G L H H4 := (((Go.same k1).trans (Go.same k2)).trans (Go.same k3)).trans (Go.same k4)
    have im0 : Im H4 (.ref p2) (pairD ns []) := pair_im (.inl (k4 _ _ e3)) (.inl (k4 _ _ (k3 _ _ (k2 _ _ e1)))) (.inl (k4 _ _ (k3 _ _ e2)))
    clear k1 k2 k3 k4 e1 e2 e3 hp0 hp1 hp2 hp3
    refine r_gN ?_
    refine r_seq ?_
    refine forRg (fun n H0 => n = ns.length ∧ H0 = H4) (fun R z => ?_) (fun n H0 ⟨hn0, hH0⟩ => ⟨by omega, fun i σ H' => ∃ (r : Addr) (x2 : Option V) (xs : List V), σ = [some (.ref an), some (.ref r), x2, none, none, none] ∧ Go G L H H' ∧ H' r = some (.lst xs) ∧ Ims H' xs ((genI i).map (pairD ns)), ?_, ?_, ?_⟩)
    · repeat walk_at "rd"
      refine r_lenT (hn.kt g4.kt).seq ?_
      rw [List.length_map]
      exact z _ _ ⟨rfl, rfl⟩
    · subst hH0
      exact ⟨p3, none, [.ref p2], rfl, g4, e4, .cons im0 .nil⟩
    · rintro i σ H' hi ⟨r, x2, xs, rfl, g, hr0, hxs⟩
      have hil : i < ns.length := by omega
      have hz : ns[i]? = some ns[i] := List.getElem?_eq_getElem hil
      generalize ns[i] = z at hz
      have hxl := hxs.length
      rw [List.length_map] at hxl
      have hg3 := (genI_ok i (by omega)).1
      refine r_gN ?_
      dsimp only
      repeat walk_at "rd"
      refine lcL (a := r) (xs := xs) (fun R z => ⟨_, rfl, z⟩) (.of hr0) (fun D j H2 => ∃ ys, Go G L H' H2 ∧ H2 D = some (.lst ys) ∧ Ims H2 ys (((genI i).map fun ix => pairD ns (ix ++ [i])).take j)) ?_ ?_ ?_ ?_
      · intro D hD
        exact ⟨[], Go.new hD, upd_same, .nil⟩
      · rintro D j H2 hD _ ⟨ys, g', _⟩
        exact .of (g'.lst hr0)
      · rintro D j x H2 hD hx ⟨ys, g', hDl, hys⟩
        obtain ⟨R, T, S, ix, hix, rfl, hR, hT, hS⟩ := pair_get hxs hx
        have hixl : ix.length ≤ 300 := by
          have z3 := genI_len i (by omega)
          rw [List.all_eq_true] at z3
          exact of_decide_eq_true (z3 ix (List.mem_of_getElem? hix))
        have hyl : ys.length ≤ 300 := by
          have z := hys.length
          rw [List.length_take, List.length_map] at z
          omega
        have eN := nms_snoc (ix := ix) hz
        refine r_pair (hR.kt g'.kt).seq ⟨rfl, r_yes ?_⟩
        repeat walk_at "rd"
        refine ⟨by show 1 ≤ sizeLine; decide, fun p5 hp5 => ?_⟩
        generalize hH : upd H2 p5 _ = H5; obtain ⟨k5, e5⟩ := new_facts hH hp5; clear hH
        refine r_snocA ((hT.kt g'.kt).kt (kp_kt k5)) e5 (by rw [List.length_map]; exact hixl) fun T' H6 k6 hT' => ?_
        have g26 : Go G L H2 H6 := (Go.same k5).trans (Go.same k6)
        repeat walk_at "rd"
        refine r_ixT (((hn.kt g.kt).kt g'.kt).kt g26.kt).seq (atI_nat (by rw [List.getElem?_map, hz]; rfl)) ?_
        repeat walk_at "rd"
        refine ⟨by show 1 ≤ sizeLine; decide, fun p7 hp7 => ?_⟩
        generalize hH : upd H6 p7 _ = H7; obtain ⟨k7, e7⟩ := new_facts hH hp7; clear hH
        refine r_snocA (((hS.kt g'.kt).kt g26.kt).kt (kp_kt k7)) e7 ?_ fun S' H8 k8 hS' => ?_
        · rw [List.length_map]
          unfold nmsOf
          rw [List.length_map]
          exact hixl
        repeat walk_at "rd"
        refine ⟨by show 2 ≤ sizeLine; decide, fun p9 hp9 => ?_⟩
        generalize hH : upd H8 p9 _ = H9; obtain ⟨k9, e9⟩ := new_facts hH hp9; clear hH
        have g29 : Go G L H2 H9 := ((g26.trans (Go.same k7)).trans (Go.same k8)).trans (Go.same k9)
        refine ⟨ys, g29.lst hDl, by rw [sizeLine_eq]; omega, ys ++ [.ref p9], (g'.trans g29).updNew hD (g29.lst hDl), upd_same, ?_⟩
        have e : ((genI i).map fun ix => pairD ns (ix ++ [i])).take (j + 1) = ((genI i).map fun ix => pairD ns (ix ++ [i])).take j ++ [pairD ns (ix ++ [i])] := by
          rw [List.take_succ, List.getElem?_map, hix]
          rfl
        rw [e]
        refine Ims.kt (kt_upd (g29.lst hDl)) ((hys.kt g29.kt).app (.cons (pair_im (.inl e9) ?_ ?_) .nil))
        · rw [List.map_append]
          exact hT'.kt (kp_kt (kp_t k7 (kp_t k8 k9)))
        · rw [eN, List.map_append]
          exact hS'.kt (kp_kt k9)
      · rintro D H3 hD ⟨ys, g', hDl, hys⟩
        have hyl := hys.length
        have e3 : ((genI i).map fun ix => pairD ns (ix ++ [i])).take xs.length = (genI i).map fun ix => pairD ns (ix ++ [i]) := by
          rw [hxl]
          exact List.take_of_length_le (by rw [List.length_map]; exact Nat.le_refl _)
        rw [e3] at hys hyl
        rw [List.length_map] at hyl
        refine r_cat (g'.lst hr0) hDl (by omega) fun p H4 k4 _ e4 => ?_
        refine r_gN ⟨p, _, xs ++ ys, rfl, (g.trans g').trans (Go.same k4), e4, ?_⟩
        have e5 : (genI (i + 1)).map (pairD ns) = (genI i).map (pairD ns) ++ (genI i).map fun ix => pairD ns (ix ++ [i]) := by
          show (genI i ++ (genI i).map (· ++ [i])).map (pairD ns) = _
          rw [List.map_append, List.map_map]
          rfl
        rw [e5]
        exact ((hxs.kt g'.kt).kt (kp_kt k4)).app (hys.kt (kp_kt k4))
    · rintro σ H3 ⟨r, x2, xs, rfl, g3, hr0, hxs⟩
      subst hn0
      have hxl := hxs.length
      rw [List.length_map] at hxl
      have hg3 := (genI_ok ns.length (by omega)).1
      repeat walk_at "rd"
      refine lcLs (fun l xs2 H5 => Go G L H H5 ∧ H5 l = some (.lst xs2) ∧ Ims H5 xs2 ((ordI ns.length).map (rowD fun i => ns.getD i ""))) (fun R z => ?_) ?_
      · repeat walk_at "rd"
        refine lcL (a := r) (xs := xs) (fun R z => ⟨_, rfl, z⟩) (.of hr0) (fun D j H2 => ∃ vs, Go G L H3 H2 ∧ H2 D = some (.lst vs) ∧ Ims H2 vs (((genI ns.length).take j).map (rowD fun i => ns.getD i ""))) ?_ ?_ ?_ ?_
        · intro D hD
          exact ⟨[], Go.new hD, upd_same, .nil⟩
        · rintro D j H2 hD _ ⟨vs, g', _⟩
          exact .of (g'.lst hr0)
        · rintro D j x H2 hD hx ⟨vs, g', hDl, hvs⟩
          obtain ⟨R, T, S, ix, hix, rfl, hR, hT, hS⟩ := pair_get hxs hx
          have hvl : vs.length ≤ 300 := by
            have z := hvs.length
            rw [List.length_map, List.length_take] at z
            omega
          have hT2 := hT.kt g'.kt
          refine r_pair (hR.kt g'.kt).seq ⟨rfl, r_yes ?_⟩
          repeat walk_at "rd"
          refine r_lenT hT2.seq ?_
          repeat walk_at "rd"
          refine ⟨by show 3 ≤ sizeLine; decide, fun p6 hp6 => ?_⟩
          generalize hH : upd H2 p6 _ = H6; obtain ⟨k6, e6⟩ := new_facts hH hp6; clear hH
          have g26 : Go G L H2 H6 := Go.same k6
          refine ⟨vs, g26.lst hDl, by rw [sizeLine_eq]; omega, vs ++ [.ref p6], (g'.trans g26).updNew hD (g26.lst hDl), upd_same, ?_⟩
          have e : ((genI ns.length).take (j + 1)).map (rowD fun i => ns.getD i "") = ((genI ns.length).take j).map (rowD fun i => ns.getD i "") ++ [rowD (fun i => ns.getD i "") ix] := by
            rw [List.take_succ, hix, List.map_append]
            rfl
          rw [e]
          refine Ims.kt (kt_upd (g26.lst hDl)) ((hvs.kt g26.kt).app (.cons ?_ .nil))
          rw [rowD_nms]
          refine .tup (.inl e6) (.cons ?_ (.cons (.tup (hT2.kt g26.kt) (ims_ints ix)) (.cons (.tup ((hS.kt g'.kt).kt g26.kt) (ims_strs _)) .nil)))
          rw [List.length_map]
          have e0 : (nmsOf ns ix).length = ix.length := by unfold nmsOf; rw [List.length_map]
          rw [e0]
          exact .int _
        · rintro D H4 hD ⟨vs, g', hDl, hvs⟩
          rw [hxl, List.take_length] at hvs
          have hvl := hvs.length
          rw [List.length_map] at hvl
          repeat walk_at "rd"
          refine ⟨D, vs.zip ((genI ns.length).map (rowD fun i => ns.getD i "")), rfl, ?_, fun p hp => (ims_zip hvs p hp).dp, ?_, ?_, fun p hp => ?_, fun l hl => ?_⟩
          · rw [List.map_fst_zip (by rw [List.length_map]; omega)]
            exact .of hDl
          · rw [List.map_snd_zip (by rw [List.length_map]; omega)]
            exact PySem.W.AllAlike.of fun a b => rowD_alike _ a b
          · rw [List.map_snd_zip (by rw [List.length_map]; omega)]
            exact PySem.W.Sortable.tuples fun b => ⟨_, _, rfl⟩
          · obtain ⟨ix, _, e⟩ := List.mem_map.mp (List.of_mem_zip hp).2
            rw [← e]
            exact depth_row _ _
          · generalize hqs : (vs.zip ((genI ns.length).map (rowD fun i => ns.getD i ""))).mergeSort (PySem.W.dataLe false Prod.snd) = qs
            have es := qs_snd (nm := fun i => ns.getD i "") hlen hvl
            rw [hqs] at es
            have him : ∀ q ∈ qs, Im H4 q.1 q.2 := fun q hq => by
              rw [← hqs] at hq
              exact ims_zip hvs q (List.mem_mergeSort.mp hq)
            have hi4 := ims_of him
            rw [es] at hi4
            generalize hH : upd H4 l _ = H5; obtain ⟨k5, e5⟩ := new_facts hH hl; clear hH
            exact z l _ H5 ⟨(g3.trans g').trans (Go.same k5), e5, hi4.kt (kp_kt k5)⟩
      · rintro l xs2 H5 ⟨g5, e5, hi5⟩
        have hql : xs2.length = (ordI ns.length).length := by
          have z := hi5.length
          rw [List.length_map] at z
          exact z
        have hol := (ord_len ns.length (by omega)).1
        have eal : (allD ns).length = (ordI ns.length).length := by
          unfold allD
          rw [List.length_map]
        refine ⟨.of e5, fun D j H6 => ∃ ys, Go G L H5 H6 ∧ H6 D = some (.lst ys) ∧ StsAt H6 ys ((allD ns).take j), ?_, ?_, ?_, ?_⟩
        · intro D hD
          exact ⟨[], Go.new hD, upd_same, .nil⟩
        · rintro D j H6 hD _ ⟨ys, g6, _⟩
          exact .of (g6.lst e5)
        · rintro D j x H6 hD hx ⟨ys, g6, hDl, hys⟩
          obtain ⟨d, hd, hix0⟩ := hi5.get hx
          rw [List.getElem?_map] at hd
          cases hix : (ordI ns.length)[j]? with
          | none => rw [hix] at hd; cases hd
          | some ix =>
            rw [hix] at hd
            obtain rfl : d = rowD (fun i => ns.getD i "") ix := (Option.some.inj hd).symm
            rw [rowD_nms] at hix0
            have haj : (allD ns)[j]? = some (nmsOf ns ix) := by
              unfold allD
              rw [List.getElem?_map, hix]
              rfl
            have hyl : ys.length ≤ 2000 := by
              have z := hys.len
              have z3 := allD_len (by omega : ns.length ≤ 10)
              rw [List.length_take] at z
              omega
            cases hix0 with
            | @tup T vs2 _ hT hv2 =>
            cases hv2 with
            | @cons v1 _ _ _ i1 hv2 =>
            cases hv2 with
            | @cons v2 _ _ _ i2 hv2 =>
            cases hv2 with
            | @cons v3 _ _ _ i3 hv2 =>
            cases hv2
            cases i3 with
            | @tup S3 ws _ hS hws =>
            have ews := ims_strs_eq hws
            subst ews
            refine r_gN ⟨rfl, r_yes ?_⟩
            repeat walk_at "rd"
            refine r_ixT (hT.kt g6.kt).seq (atI_nat (j := 2) rfl) ?_
            refine ⟨ys, hDl, by rw [sizeLine_eq]; omega, ys ++ [.ref S3], g6.updNew hD hDl, upd_same, ?_⟩
            have e : (allD ns).take (j + 1) = (allD ns).take j ++ [nmsOf ns ix] := by
              rw [List.take_succ, haj]
              rfl
            rw [e]
            exact (hys.snoc (hS.kt g6.kt)).kt (kt_upd hDl)
        · rintro D H6 hD ⟨ys, g6, hDl, hys⟩
          rw [hql, ← eal, List.take_length] at hys
          exact q D ys H6 (Nw.backG g5 (.of hD)) (g5.trans g6) hDl hys
end
section
variable {K : PySem.W.Frag} {G : List Addr} {L : List (Addr × Str)} {H H' : Hp} {b : Bool} {a r : Addr} {xs : List V}
end
section
variable {P : Program} {w : World} {K : PySem.W.Frag} {mg : Str → Option Value} {base : Heap} {G : List Addr} {L : List (Addr × Str)}
abbrev nLg5 : List Str := ["_law_names_here", "_law_clauses", "_law_found", "_law_state", "_law_clause_here"]
theorem scLegal5 : FnScope nLg5 ["_law_names_here", "_law_clauses"] (defScope sLegal5) := C8.fnScope_by (by decide +kernel)
def spLegal5 (K : PySem.W.Frag) (G : List Addr) (L : List (Addr × Str)) : Sp := fun vs H Q _ => ∃ (an ac : Addr) (b : Bool) (ns : List Str) (cd : List PyData) (xs : List V), vs = [.ref an, .ref ac] ∧ Tp H an (ns.map V.str) ∧ Sq2 H b ac xs ∧ Ims H xs cd ∧ ns.length ≤ 8 ∧ (∀ z ∈ ns, PyData.strOk z = true) ∧ (∀ d ∈ cd, ClD ns d) ∧ cd.length ≤ 200 ∧
  ∀ l ys H', Nw H l → Go G L H H' → H' l = some (.lst ys) → StsAt H' ys (legalD ns cd) → Q (.ref l) H'
theorem ok_legal5 {f : Addr} {fd : FuncData} (F : Fun K "_law_legal" "_law_legal" sLegal5 f fd) (AL : Fd CX0 P w K mg base "_law_all" 1 (spAll5 K G L)) (KE : Fd CX0 P w K mg base "_law_keeps" 1 (spKeeps K)) : FnOk P w K mg base CX0 2 f fd ["_law_names_here", "_law_clauses"] (spLegal5 K G L) := by
  refine F.ok scLegal5 (fun vs H Q E h => ?_) (fun cdv A outer s H vs Q E hr h => ?_)
  · obtain ⟨an, ac, b, ns, cd, xs, e, _⟩ := h
    rw [e]
    rfl
  · obtain ⟨an, ac, b, ns, cd, xs0, e, hn, hac, hxs0, hlen, hok, hcl, hcd, q⟩ := h
    subst e
    refine ⟨_, pss_cons (ps_set (i := 2) scLegal5.nd rfl (Or.inl rfl) (pe_lst pa_nil))
      (pss_cons (ps_for PassesOwn.never rfl (pi_list (pe_fd (E := E0) AL hr pass0 (pa_cons (pv 0) pa_nil))) (pg_name (i := 3) scLegal5.nd rfl (.inr rfl))
        (pss_one (ps_if (pt_cmpR (r := rEqD K) (op_eqD (u64 hr)) (pe_lc (own := [("_law_clause_here", 4)]) (g := gName 4) (wi := iOr (iTup K (tVar 1)) (iList K (tVar 1))) rfl scLegal5.nd (pi_or (pi_tup (pv 1)) (pi_list (pv 1)))
            (blkOk_by (own := [("_law_clause_here", 4)]) (N := nLg5) (sc := defScope sLegal5) (by decide +kernel)) (fun _ _ _ _ _ => pg_name (i := 4) scLegal5.nd rfl (.inl rfl))
            (fun _ _ _ _ _ => pts_one (pt_not (pt_val (pe_fd (E := E0) KE hr pass0 (pa_cons (pv 4) (pa_cons (pv 3) pa_nil)))))) (fun _ _ _ _ _ => pv 4)) (pe_lst pa_nil) rfl)
          (pss_one (ps_expr (pe_bm PySem.F.plainAttrs_list PySem.F.slot_list_append PySem.F.type_list_append mt_append (pv 2) (pa_cons (pv 3) pa_nil)))) pss_nil)))
      (pss_one (ps_ret (pv 2)))), ?_⟩
    repeat walk_at "rd"
    refine ⟨Nat.zero_le _, fun D hD => ?_⟩
    generalize hH : upd H D _ = H1; obtain ⟨k1, eD⟩ := new_facts hH hD; clear hH
    have g1 : Go G L H H1 := Go.same k1
    refine r_gN ?_
    refine r_seq ?_
    refine forLg (fun l H0 => ∃ xs, Nw H1 l ∧ Go G L H1 H0 ∧ H0 l = some (.lst xs) ∧ StsAt H0 xs (allD ns)) (fun R z => ?_) (fun l H0 ⟨xs, nl, g0, hl0, hxs⟩ => ⟨xs, .of hl0, fun i σ H' => ∃ (x3 : Option V) (ys : List V), σ = [some (.ref an), some (.ref ac), some (.ref D), x3, none] ∧ Go G L H H' ∧ H' l = some (.lst xs) ∧ StsAt H' xs (allD ns) ∧ H' D = some (.lst ys) ∧ StsAt H' ys (((allD ns).take i).filter fun s => decide (brokenFrom (s.map PyData.str) 0 cd = [])), ?_, ?_, ?_, ?_⟩)
    · repeat walk_at "rd"
      refine ⟨an, ns, rfl, hn.kt g1.kt, hlen, fun l xs H2 nl g2 hl hxs => z l H2 ⟨xs, nl, g2, hl, hxs⟩⟩
    · exact ⟨none, [], rfl, g1.trans g0, hl0, hxs, g0.lst eD, .nil⟩
    · rintro i σ H' _ ⟨x3, ys, rfl, g, hl, _⟩
      exact .of hl
    · rintro i x σ H' hx ⟨x3, ys, rfl, g, hl, hxs', eD', hys⟩
      obtain ⟨S, s, hs, rfl, hS⟩ := sts_get hxs' hx
      have hsub := allD_sub (by omega : ns.length ≤ 10) (List.mem_of_getElem? hs)
      have hsok : ∀ z ∈ s, PyData.strOk z = true := fun z hz => hok z (hsub.subset hz)
      refine r_gN ?_
      repeat walk_at "rd"
      refine lcB (a := ac) (xs := xs0) b (fun R z => ⟨_, rfl, z⟩) (hac.go g) (fun D3 k H7 => ∃ acc, Go G L H' H7 ∧ H7 D3 = some (.lst acc) ∧ Ims H7 acc ((cd.take k).filter (brk (s.map PyData.str)))) ?_ ?_ ?_ ?_
      · intro D3 hD3
        exact ⟨[], Go.new hD3, upd_same, .nil⟩
      · rintro D3 k H7 hD3 _ ⟨acc, g7, _⟩
        exact (hac.go g).go g7
      · rintro D3 k y H7 hD3 hy ⟨acc, g7, hD3l, hacc⟩
        obtain ⟨dc, hdc, hyc⟩ := hxs0.get hy
        have hmem := List.mem_of_getElem? hdc
        obtain ⟨w', a', b', rfl, hw', ha', hb'⟩ := hcl dc hmem
        have hyc7 := (hyc.kt g.kt).kt g7.kt
        have hal : acc.length ≤ 200 := by
          have z := hacc.length
          have z2 := List.length_filter_le (brk (s.map PyData.str)) (cd.take k)
          rw [List.length_take] at z2
          omega
        refine r_gN ⟨rfl, ?_⟩
        repeat walk_at "rd"
        refine ⟨.ref S, y, s.map PyData.str, w', .str a', .str b', rfl, .tup (hS.kt g7.kt).seq (dps_strs _), hyc7.dp, lv_strs hsok, lv_str (hok a' ha'), lv_str (hok b' hb'), ?_⟩
        repeat walk_at "rd"
        refine r_if (fun c => ?_) (fun c => ?_)
        · repeat walk_at "rd"
          refine ⟨acc, hD3l, by rw [sizeLine_eq]; omega, acc ++ [y], g7.updNew hD3 hD3l, upd_same, ?_⟩
          rw [filter_take hdc, if_pos (show brk _ (.tuple [.str w', .str a', .str b']) = true from c)]
          exact Ims.kt (kt_upd hD3l) (hacc.app (.cons hyc7 .nil))
        · refine ⟨acc, g7, hD3l, ?_⟩
          rw [filter_take hdc, if_neg (by rw [show brk (s.map PyData.str) (.tuple [.str w', .str a', .str b']) = false from c]; decide)]
          exact hacc
      · rintro D3 H7 hD3 ⟨acc, g7, hD3l, hacc⟩
        have hxl0 := hxs0.length
        rw [hxl0, List.take_length] at hacc
        repeat walk_at "rd"
        refine ⟨Nat.zero_le _, fun p8 hp8 => ?_⟩
        generalize hH : upd H7 p8 _ = H8; obtain ⟨k8, e8⟩ := new_facts hH hp8; clear hH
        have g68 : Go G L H' H8 := g7.trans (Go.same k8)
        refine r_eqD (.lst (.of (k8 _ _ hD3l)) (hacc.kt (kp_kt k8)).dp) (.lst (.of e8) .nil) ?_ (by decide) ?_
        · refine lv_lst fun d hd => lv_up (cl_lv hok (hcl d (List.mem_filter.mp hd).1)) (by decide)
        · rw [eqv_nilL]
          have eb : decide (cd.filter (brk (s.map PyData.str)) = []) = decide (brokenFrom (s.map PyData.str) 0 cd = []) := decide_eq_decide.mpr (broken_nil cd 0).symm
          rw [eb]
          have hDl := g68.lst eD'
          have hyl : ys.length ≤ 2000 := by
            have z := hys.len
            have z2 := List.length_filter_le (fun s => decide (brokenFrom (s.map PyData.str) 0 cd = [])) ((allD ns).take i)
            have z3 := allD_len (by omega : ns.length ≤ 10)
            rw [List.length_take] at z2
            omega
          have nlD : l ≠ D := nl.lst eD
          repeat walk_at "rd"
          refine r_if (fun c => ?_) (fun c => ?_)
          · repeat walk_at "rd"
            refine ⟨.inl ⟨rfl, _, .of hDl⟩, ?_⟩
            repeat walk_at "rd"
            refine r_append hDl (by omega) ?_
            refine ⟨_, ys ++ [.ref S], rfl, (g.trans g68).updNew hD hDl, by rw [upd_ne nlD]; exact g68.lst hl, (hxs'.kt g68.kt).kt (kt_upd hDl), upd_same, ?_⟩
            rw [filter_take hs, if_pos c]
            exact ((hys.kt g68.kt).snoc (hS.kt g68.kt)).kt (kt_upd hDl)
          · refine ⟨_, ys, rfl, g.trans g68, g68.lst hl, hxs'.kt g68.kt, hDl, ?_⟩
            rw [filter_take hs, c, if_neg Bool.false_ne_true]
            exact hys.kt g68.kt
    · rintro σ H' ⟨x3, ys, rfl, g, hl, hxs', eD', hys⟩
      rw [hxs.len, List.take_length] at hys
      repeat walk_at "rd"
      exact q D ys H' (.of hD) g eD' hys
end
section
variable {P : Program} {w : World} {K : PySem.W.Frag} {mg : Str → Option Value} {base : Heap} {G : List Addr} {L : List (Addr × Str)}
theorem ord_pos : ∀ n < 9, 0 < (ordI n).length := by decide +kernel
theorem allD_pos {ns : List Str} (h : ns.length ≤ 8) : 0 < (allD ns).length := by
  unfold allD
  rw [List.length_map]
  exact ord_pos ns.length (by omega)
abbrev nRl5 : List Str := ["_law_d", "_law_most", "_law_clauses", "_law_names_here", "_law_some", "_law_wanted", "_law_k", "_law_clause_here"]
theorem scRules5 : FnScope nRl5 ["_law_d", "_law_most", "_law_clauses"] (defScope sRules5) := C8.fnScope_by (by decide +kernel)
def spRules5 (K : PySem.W.Frag) (G : List Addr) (L : List (Addr × Str)) : Sp := fun vs H Q _ => ∃ (ρ : Rid) (m n : Nat), vs = [.ref ρ.r, .int (m : Nat), .int (n : Nat)] ∧ Row K H ρ ∧ TBS G L H ∧ 0 < m ∧ m ≤ 8 ∧ n ≤ 40 ∧
  ∀ (ns : List Str) (cd : List PyData) (p x l : Addr) (lx : List V) (H' : Hp), 0 < ns.length → ns.length ≤ m → NmsP ns → (∀ d ∈ cd, ClD ns d) → cd.length ≤ n → legalD ns cd ≠ [] → Tp H' p [.ref x, .ref l] → RulesAt K H' x ns cd → Nw H l → H' l = some (.lst lx) → StsAt H' lx (legalD ns cd) →
    GoR G L ρ.r H H' → Row K H' ρ → Q (.ref p) H'
theorem ok_rules5 {f : Addr} {fd : FuncData} (F : Fun K "_law_rules" "_law_rules" sRules5 f fd) (zR : mg "range" = none) (zT : mg "tuple" = none) (zI : mg "int" = none) (NX : Fd CX0 P w K mg base "_law_next" 1 (spTaken K G L)) (NM : Fd CX0 P w K mg base "_law_names" 2 (spNames K G L))
    (PK : Fd CX0 P w K mg base "_law_pick" 2 (spPick K G L)) (AL : Fd CX0 P w K mg base "_law_all" 1 (spAll5 K G L)) (CL : Fd CX0 P w K mg base "_law_clause" 3 (spClause K G L)) (KE : Fd CX0 P w K mg base "_law_keeps" 1 (spKeeps K)) (M : Mkr P w K mg base G L) (LG : Fd CX0 P w K mg base "_law_legal" 2 (spLegal5 K G L)) :
    FnOk P w K mg base CX0 6 f fd ["_law_d", "_law_most", "_law_clauses"] (spRules5 K G L) := by
  refine F.ok scRules5 (fun vs H Q E h => ?_) (fun cdv A outer s H vs Q E hr h => ?_)
  · obtain ⟨r, m, n, e, _⟩ := h
    rw [e]
    rfl
  · obtain ⟨ρ, m, n, e, hR, ht, m0, m8, n40, q⟩ := h
    subst e
    refine ⟨_, pss_cons (ps_par (i := 3) (j := 4) rfl scRules5.nd rfl rfl (by decide) rfl rfl (pa_cons (pe_fd (E := E0) NM hr pass0 (pa_cons (pv 0) (pa_cons (pv 1) pa_nil))) (pa_cons (pe_lst pa_nil) pa_nil)) rfl)
      (pss_cons (ps_set (i := 5) scRules5.nd rfl (Or.inl rfl) (pe_fd (E := E0) PK hr pass0 (pa_cons (pv 0) (pa_cons (pe_fd (E := E0) AL hr pass0 (pa_cons (pv 3) pa_nil)) pa_nil))))
      (pss_cons (ps_for PassesOwn.never rfl (pi_range1 rfl zR (pa_cons (pe_fd (E := E0) NX hr pass0 (pa_cons (pv 0) (pa_cons (pe_op op_add (pv 2) pe_int) pa_nil))) pa_nil)) (pg_name (i := 6) scRules5.nd rfl (.inl rfl))
        (pss_cons (ps_set (i := 7) scRules5.nd rfl (Or.inl rfl) (pe_fd (E := E0) CL hr pass0 (pa_cons (pv 0) (pa_cons (pv 3) pa_nil))))
        (pss_one (ps_set (i := 4) scRules5.nd rfl (Or.inl rfl) (pe_op op_cat (pv 4) (pe_op op_rep (pe_lst (pa_cons (pv 7) pa_nil)) (pe_callTy c_int rfl zI boot_int (pa_cons (pe_fd (E := E0) KE hr pass0 (pa_cons (pv 7) (pa_cons (pv 5) pa_nil))) pa_nil))))))))
      (pss_one (ps_ret (pe_tup (pa_cons (pe_rules (E := E0) M hr passN (pa_cons (pv 3) (pa_cons (pe_callTy c_tup rfl zT (by decide +kernel) (pa_cons (pv 4) pa_nil)) pa_nil))) (pa_cons (pe_fd (E := E0) LG hr pass0 (pa_cons (pv 3) (pa_cons (pv 4) pa_nil))) pa_nil))))))), ?_⟩
    refine r_seq (r_par ?_)
    repeat walk_at "rd"
    refine ⟨ρ, m, rfl, hR, m0, by omega, fun ns T H1 n0 nm hns hT g1 hR1 => ?_⟩
    have hn8 : ns.length ≤ 8 := by omega
    have ht1 := g1.2 ht
    repeat walk_at "rd"
    refine ⟨Nat.zero_le _, fun D hD => ?_⟩
    generalize hH : upd H1 D _ = H2; obtain ⟨k2, eD⟩ := new_facts hH hD; clear hH
    have g2 : Go G L H1 H2 := Go.same k2
    refine ⟨.ref T, .ref D, rfl, ?_⟩
    refine r_seq ?_
    repeat walk_at "rd"
    refine ⟨T, ns, rfl, hT.tp.kt g2.kt, hn8, fun l xs H3 nl g3 hl3 hxs3 => ?_⟩
    have hR2 := hR1.go g2
    have nlr : l ≠ ρ.r := by
      obtain ⟨zs, z⟩ := hR2.lst
      exact nl.lst z
    have nDr : D ≠ ρ.r := by
      obtain ⟨zs, z⟩ := hR1.lst
      exact (ne_of_none z hD).symm
    have g13 : Go G L H1 H3 := g2.trans g3
    have hR3 := hR1.go g13
    have hxl := hxs3.len
    have hap := allD_pos hn8
    have hal := allD_len (by omega : ns.length ≤ 10)
    repeat walk_at "rd"
    refine ⟨ρ, l, xs, rfl, hR3, by omega, by omega, fun H' h => ?_, fun i0 v0 H4 e0 g4 hR4 => ?_⟩
    · rcases h with rfl | h
      · exact .inl (.of hl3)
      · exact .inl (.of (h.lst nlr hl3))
    obtain ⟨S, s0, hs0, rfl, hS3⟩ := sts_get hxs3 e0
    have hS4 := hS3.kt (hR3.kt g4)
    have hs0m := List.mem_of_getElem? hs0
    have hs0sub := allD_sub (by omega : ns.length ≤ 10) hs0m
    have hnok : ∀ z ∈ ns, PyData.strOk z = true := fun z hz => (hns.all hz).2.1
    have g14 : GoR G L ρ.r H1 H4 := g13.toR.trans g4
    have hT4 := hT.tp.kt (hR1.kt g14)
    have hNT4 := hT.kt (hR1.kt g14)
    have eD4 : H4 D = some (.lst []) := g4.lst nDr (g3.lst eD)
    have gH4 := g1.trans g14
    clear hl3 hxs3 hS3 hR3 hR2 g13 eD g2 g3 k2 nl
    repeat walk_at "rd"
    refine forRg (fun nn H0 => nn ≤ n ∧ GoR G L ρ.r H4 H0 ∧ Row K H0 ρ) (fun R z => ?_) (fun nn H0 ⟨hn0, g0, hR0⟩ => ⟨by omega, fun i σ H' => ∃ (D' : Addr) (x6 x7 : Option V) (ys : List V) (cd : List PyData), σ = [some (.ref ρ.r), some (.int (m : Nat)), some (.int (n : Nat)), some (.ref T), some (.ref D'), some (.ref S), x6, x7] ∧ GoR G L ρ.r H4 H' ∧ Row K H' ρ ∧ H' D' = some (.lst ys) ∧ Ims H' ys cd ∧ (∀ d ∈ cd, ClD ns d) ∧ (∀ d ∈ cd, brk (s0.map PyData.str) d = false) ∧ cd.length ≤ i ∧ D' ≠ ρ.r, ?_, ?_, ?_⟩)
    · repeat walk_at "rd"
      refine r_taken hR4 (by omega) (by omega) fun v H5 hv g5 hR5 => ?_
      exact z v H5 ⟨by omega, g5, hR5⟩
    · exact ⟨D, none, none, [], [], rfl, g0, hR0, g0.lst nDr eD4, .nil, fun d hd => (by cases hd), fun d hd => (by cases hd), Nat.le_refl _, nDr⟩
    · rintro i σ H' hi ⟨D', x6, x7, ys, cd, rfl, g, hR', eD', hys, hcl, hbr, hcl2, nD'⟩
      refine r_gN ?_
      refine r_seq ?_
      repeat walk_at "rd"
      refine ⟨ρ, T, ns, rfl, hR', hT4.kt (hR4.kt g), List.length_pos_iff.mp n0, by omega, fun v d H5 hd him g5 hR5 => ?_⟩
      obtain ⟨w', a', b', rfl, hw', ha', hb'⟩ := hd
      refine r_gN ?_
      repeat walk_at "rd"
      refine ⟨by show 1 ≤ sizeLine; decide, fun p6 hp6 => ?_⟩
      generalize hH : upd H5 p6 _ = H6; obtain ⟨k6, e6⟩ := new_facts hH hp6; clear hH
      have g6 : Go G L H5 H6 := Go.same k6
      have hR6 := hR5.go g6
      have g46 : GoR G L ρ.r H4 H6 := (g.trans g5).trans g6.toR
      have hS6 := hS4.kt (hR4.kt g46)
      have him6 := him.kt (kp_kt k6)
      repeat walk_at "rd"
      refine ⟨.ref S, v, s0.map PyData.str, w', .str a', .str b', rfl, .tup hS6.seq (dps_strs _), him6.dp, lv_strs fun z hz => hnok z (hs0sub.subset hz), lv_str (hnok a' ha'), lv_str (hnok b' hb'), ?_⟩
      have eD6 : H6 D' = some (.lst ys) := k6 _ _ (g5.lst nD' eD')
      have hys6 := (hys.kt (hR'.kt g5)).kt (kp_kt k6)
      have hyl := hys6.length
      cases hb : holdsD (s0.map PyData.str) w' (.str a') (.str b') with
      | true =>
        repeat walk_at "rd"
        refine ⟨p6, 1, [v], rfl, rfl, e6, by decide, by decide, by show 1 ≤ sizeLine; decide, fun p7 hp7 => ?_⟩
        generalize hH : upd H6 p7 _ = H7; obtain ⟨k7, e7⟩ := new_facts hH hp7; clear hH
        refine r_cat (k7 _ _ eD6) e7 (by show ys.length + 1 ≤ 5000; omega) fun p8 H8 k8 n8 e8 => ?_
        have g68 : Go G L H6 H8 := (Go.same k7).trans (Go.same k8)
        refine r_gN ⟨p8, _, _, ys ++ [v], cd ++ [.tuple [.str w', .str a', .str b']], rfl, g46.trans g68.toR, hR6.go g68, e8, ?_, ?_, ?_, ?_, ?_⟩
        · exact (hys6.kt g68.kt).app (.cons (him6.kt g68.kt) .nil)
        · intro d hd
          rcases List.mem_append.mp hd with z | z
          · exact hcl d z
          · rw [List.mem_singleton.mp z]
            exact ⟨w', a', b', rfl, hw', ha', hb'⟩
        · intro d hd
          rcases List.mem_append.mp hd with z | z
          · exact hbr d z
          · rw [List.mem_singleton.mp z]
            show (!holdsD (s0.map PyData.str) w' (.str a') (.str b')) = false
            rw [hb]
            rfl
        · rw [List.length_append]
          show cd.length + 1 ≤ i + 1
          omega
        · obtain ⟨zs, z⟩ := (hR6.go (Go.same (G := G) (L := L) k7)).lst
          exact (ne_of_none z n8).symm
      | false =>
        repeat walk_at "rd"
        refine ⟨p6, 0, [v], rfl, rfl, e6, by decide, by decide, by show 0 ≤ sizeLine; decide, fun p7 hp7 => ?_⟩
        generalize hH : upd H6 p7 _ = H7; obtain ⟨k7, e7⟩ := new_facts hH hp7; clear hH
        refine r_cat (k7 _ _ eD6) e7 (by show ys.length + 0 ≤ 5000; omega) fun p8 H8 k8 n8 e8 => ?_
        have g68 : Go G L H6 H8 := (Go.same k7).trans (Go.same k8)
        refine r_gN ⟨p8, _, _, ys, cd, rfl, g46.trans g68.toR, hR6.go g68, ?_, hys6.kt g68.kt, hcl, hbr, by omega, ?_⟩
        · rw [e8]
          show some (HO.lst (ys ++ [])) = _
          rw [List.append_nil]
        · obtain ⟨zs, z⟩ := (hR6.go (Go.same (G := G) (L := L) k7)).lst
          exact (ne_of_none z n8).symm
    · rintro σ H' ⟨D', x6, x7, ys, cd, rfl, g, hR', eD', hys, hcl, hbr, hcl2, nD'⟩
      repeat walk_at "rd"
      refine r_tupL2 eD' fun U H6 k6 hU => ?_
      have g6 : Go G L H' H6 := Go.same k6
      have g46 := g.trans g6.toR
      have gH6 := gH4.trans g46
      have okR := hns.okR n0 (by omega) hcl (by omega)
      have hrb : rulesBad (.tuple (ns.map PyData.str)) (.tuple cd) = none := by
        have z := okR.rb fun d hd => (hcl d hd).ok
        rw [if_pos (by omega : cd.length ≤ 40)] at z
        exact z
      have lvcd : lv 8 (.tuple cd) = true := lv_up (n := 7) (lv_tup fun d hd => cl_lv hnok (hcl d hd)) (by decide)
      have hT6 := hT4.kt (hR4.kt g46)
      have hys6 := hys.kt (kp_kt k6)
      repeat walk_at "rd"
      refine mk_rulesR (dn := .tuple (ns.map PyData.str)) (dc := .tuple cd) (.tup hT6.seq (dps_strs _)) (.tup hU.seq hys6.dp) (okN_of (hns.okNb (by omega))) ⟨lvcd, fun ds e => by cases e; omega⟩ (gH6.2 ht) hrb fun x dx H7 g7 hx => ?_
      have RA7 : RulesAt K H7 x ns cd := ⟨dx, T, U, ys, hx, (hNT4.kt (hR4.kt g46)).kt g7.kt, hU.tp.kt g7.kt, hys6.kt g7.kt⟩
      repeat walk_at "rd"
      refine ⟨T, D', true, ns, cd, ys, rfl, hT6.kt g7.kt, g7.lst (k6 _ _ eD'), hys6.kt g7.kt, hn8, hnok, hcl, by omega, fun l2 lx H8 nl2 g8 hl8 hlx8 => ?_⟩
      repeat walk_at "rd"
      refine ⟨by show 2 ≤ sizeLine; decide, fun p9 hp9 => ?_⟩
      generalize hH : upd H8 p9 _ = H9; obtain ⟨k9, e9⟩ := new_facts hH hp9; clear hH
      have g79 : Go G L H7 H9 := g8.trans (Go.same k9)
      have hR7 := (hR'.go g6).go g7
      have nl2r : l2 ≠ ρ.r := by
        obtain ⟨zs, z⟩ := hR7.lst
        exact nl2.lst z
      have gH7 := gH6.trans g7.toR
      refine q ns cd p9 x l2 lx H9 n0 nm hns hcl (by omega) (fun e => ?_) (.inl e9) (RA7.kt g79.kt) (Nw.back gH7 nl2 nl2r) (k9 _ _ hl8) (hlx8.kt (kp_kt k9)) (gH7.trans g79.toR) (hR7.go g79)
      have z : s0 ∈ legalD ns cd := legal_iff.mpr ⟨hs0m, hbr⟩
      rw [e] at z
      cases z
end
section
variable {P : Program} {w : World} {K : PySem.W.Frag} {mg : Str → Option Value} {base : Heap} {G : List Addr} {L : List (Addr × Str)}
theorem r_isB {H : Hp} {Q : VK} {v : V} {n m : String} {b : Bool} (h : Kd K H v n) (e : (n == m || (n == "bool" && m == "int")) = b) (hm : m ∈ ["bool", "int", "str", "tuple", "list"]) (q : Q (.bl b) H) : rIsi K [v, .ty m] H Q := r_isi h hm (by rw [e]; exact q)
theorem scLike : FnScope ["_law_found", "_law_due", "_law_k"] ["_law_found", "_law_due"] (defScope sLike) := C8.fnScope_by (by decide +kernel)
theorem isSeq_of1 {n : String} (h : n ∈ ["NoneType", "bool", "int", "str", "tuple", "list"]) (c : (n == "tuple" || (n == "bool" && "tuple" == "int")) = true) : isSeq n = true := by
  have key : ∀ n ∈ ["NoneType", "bool", "int", "str", "tuple", "list"], (n == "tuple" || (n == "bool" && "tuple" == "int")) = true → isSeq n = true := by decide +kernel
  exact key n h c
theorem isSeq_of2 {n : String} (h : n ∈ ["NoneType", "bool", "int", "str", "tuple", "list"]) (c : (n == "list" || (n == "bool" && "list" == "int")) = true) : isSeq n = true := by
  have key : ∀ n ∈ ["NoneType", "bool", "int", "str", "tuple", "list"], (n == "list" || (n == "bool" && "list" == "int")) = true → isSeq n = true := by decide +kernel
  exact key n h c
theorem ok_like {f : Addr} {fd : FuncData} (F : Fun K "_law_like" "_law_like" sLike f fd) (hm : mg "_law_like" = some (.ref f)) (b : Binds K fd ["_law_found", "_law_due"] []) (zI : mg "isinstance" = none) (zT : mg "tuple" = none) (zl : mg "list" = none) (zL : mg "len" = none) (zR : mg "range" = none) (zB : mg "bool" = none) (zi : mg "int" = none) (zs : mg "str" = none) :
    ∀ n : Nat, FnOk P w K mg base CX0 (n + 1) f fd ["_law_found", "_law_due"] (spAlike K G L n) := by
  intro n
  induction n with
  | zero =>
    refine F.ok (k := 0) scLike (fun vs H Q E h => ?_) (fun cdv A outer s H vs Q E hr h => ?_)
    · obtain ⟨x, y, d, m, e, _⟩ := h
      cases e
    · obtain ⟨x, y, d, m, e, _⟩ := h
      cases e
  | succ n ih =>
    have C : Fd CX0 P w K mg base "_law_like" (n + 1) (spAlike K G L n) := .mk' F hm b ih
    refine F.ok (k := n + 1) scLike (fun vs H Q E h => ?_) (fun cdv A outer s H vs Q E hr h => ?_)
    · obtain ⟨x, y, d, m, _, e, _⟩ := h
      rw [e]
      rfl
    · obtain ⟨x, y, d, m, en, e, hx2, hy2, hl, hm7, q⟩ := h
      cases en
      subst e
      refine ⟨_, pss_cons (ps_if (PW.pt (pw_or (pt_val (pe_callB call_isi rfl zI boot_isinstance (pa_cons (pv 1) (pa_cons (pe_bltn (v := .ty "tuple") rfl zT (by decide +kernel) rfl) pa_nil))))
          (pw_or1 (pt_val (pe_callB call_isi rfl zI boot_isinstance (pa_cons (pv 1) (pa_cons (pe_bltn (v := .ty "list") rfl zl (by decide +kernel) rfl) pa_nil)))))))
          (pss_cons (ps_if (pt_cmpR op_ne (pe_callB call_isi rfl zI boot_isinstance (pa_cons (pv 0) (pa_cons (pe_bltn (v := .ty "tuple") rfl zT (by decide +kernel) rfl) pa_nil))) (pe_callB call_isi rfl zI boot_isinstance (pa_cons (pv 1) (pa_cons (pe_bltn (v := .ty "tuple") rfl zT (by decide +kernel) rfl) pa_nil))) (nomark _))
            (pss_one (ps_ret pe_bl)) pss_nil)
          (pss_cons (ps_if (PW.pt (pw_or (pt_cmpR op_ne (pe_callB call_isi rfl zI boot_isinstance (pa_cons (pv 0) (pa_cons (pe_bltn (v := .ty "list") rfl zl (by decide +kernel) rfl) pa_nil))) (pe_callB call_isi rfl zI boot_isinstance (pa_cons (pv 1) (pa_cons (pe_bltn (v := .ty "list") rfl zl (by decide +kernel) rfl) pa_nil))) (nomark _))
              (pw_or1 (pt_cmpR op_ne (pe_callB c_len rfl zL boot_len (pa_cons (pv 0) pa_nil)) (pe_callB c_len rfl zL boot_len (pa_cons (pv 1) pa_nil)) (nomark _)))))
            (pss_one (ps_ret pe_bl)) pss_nil)
          (pss_one (ps_ret (pe_cmpR (op_eqD (u64 hr)) (pe_lc (own := [("_law_k", 2)]) (g := gName 2) rfl scLike.nd (pi_range1 rfl zR (pa_cons (pe_callB c_len rfl zL boot_len (pa_cons (pv 1) pa_nil)) pa_nil))
              (blkOk_by (own := [("_law_k", 2)]) (N := ["_law_found", "_law_due", "_law_k"]) (sc := defScope sLike) (by decide +kernel))
              (fun _ _ _ _ _ => pg_name (i := 2) scLike.nd rfl (.inl rfl))
              (fun _ _ _ _ _ => pts_one (pt_not (pt_val (pe_fd (E := E0) C hr pass0 (pa_cons (pe_ix (r := rIx K) ix_seq (pv 0) (pv 2) (fun _ _ => rfl)) (pa_cons (pe_ix (r := rIx K) ix_seq (pv 1) (pv 2) (fun _ _ => rfl)) pa_nil)) (Nat.le_refl _)))))
              (fun _ _ _ _ _ => pv 2)) (pe_lst pa_nil) rfl))))) pss_nil)
        (pss_cons (ps_if (pt_cmpR op_ne (pe_callB call_isi rfl zI boot_isinstance (pa_cons (pv 0) (pa_cons (pe_bltn (v := .ty "bool") rfl zB (by decide +kernel) rfl) pa_nil))) (pe_callB call_isi rfl zI boot_isinstance (pa_cons (pv 1) (pa_cons (pe_bltn (v := .ty "bool") rfl zB (by decide +kernel) rfl) pa_nil))) (nomark _))
          (pss_one (ps_ret pe_bl)) pss_nil)
        (pss_cons (ps_if (PW.pt (pw_or (pt_cmpR op_ne (pe_callB call_isi rfl zI boot_isinstance (pa_cons (pv 0) (pa_cons (pe_bltn (v := .ty "int") rfl zi (by decide +kernel) rfl) pa_nil))) (pe_callB call_isi rfl zI boot_isinstance (pa_cons (pv 1) (pa_cons (pe_bltn (v := .ty "int") rfl zi (by decide +kernel) rfl) pa_nil))) (nomark _))
            (pw_or1 (pt_cmpR op_ne (pe_callB call_isi rfl zI boot_isinstance (pa_cons (pv 0) (pa_cons (pe_bltn (v := .ty "str") rfl zs (by decide +kernel) rfl) pa_nil))) (pe_callB call_isi rfl zI boot_isinstance (pa_cons (pv 1) (pa_cons (pe_bltn (v := .ty "str") rfl zs (by decide +kernel) rfl) pa_nil))) (nomark _)))))
          (pss_one (ps_ret pe_bl)) pss_nil)
        (pss_one (ps_ret (pe_cmpR (op_eqD (u64 hr)) (pv 0) (pv 1) rfl))))), ?_⟩
      repeat walk_at "rd"
      refine r_isi (m := "tuple") (Dp.kd hy2) (by decide) ?_
      repeat walk_at "rd"
      refine r_if (fun c => ?_) (fun c => ?_)
      · have hq : isSeq (tyOf d) = true := isSeq_of1 (Dp.kd hy2).1 c
        repeat walk_at "rd"
        refine r_isi (m := "tuple") (Dp.kd hx2) (by decide) ?_
        repeat walk_at "rd"
        refine r_isi (m := "tuple") (Dp.kd hy2) (by decide) ?_
        repeat walk_at "rd"
        refine r_ne rfl ?_
        rw [decide_eq_true rfl]
        repeat walk_at "rd"
        refine r_isi (m := "list") (Dp.kd hx2) (by decide) ?_
        repeat walk_at "rd"
        refine r_isi (m := "list") (Dp.kd hy2) (by decide) ?_
        repeat walk_at "rd"
        refine r_ne rfl ?_
        rw [decide_eq_true rfl]
        repeat walk_at "rd"
        obtain ⟨m', ds, rfl, hd, hlen, hall⟩ := ln_seq hl hq
        obtain ⟨px, xs, rfl, sx, dx⟩ := dp_seq hx2 hd
        obtain ⟨py, ys, rfl, sy, dy⟩ := dp_seq hy2 hd
        have hlx := Dps.length dx
        have hly := Dps.length dy
        refine ⟨px, xs, rfl, sx, ?_⟩
        repeat walk_at "rd"
        refine ⟨py, ys, rfl, sy, ?_⟩
        repeat walk_at "rd"
        refine r_ne rfl ?_
        rw [decide_eq_true (by rw [hlx, hly])]
        repeat walk_at "rd"
        refine lcR (n := ys.length) (H0 := H) (fun R z => r_cb (r_cons (r_var (v := .ref py) rfl (r_nil ⟨py, ys, rfl, sy, z⟩)))) (by omega) (fun D j H' => Go G L H H' ∧ H' D = some (.lst [])) ?_ ?_ ?_
        · intro D hD
          exact ⟨Go.new hD, upd_same⟩
        · rintro D j H3 hD hj ⟨g3, e3⟩
          refine r_gN ⟨rfl, ?_⟩
          have hix : ∀ (p : Addr) (zs : List V) (z : V) (R : VK), (SqL K H3 p zs ∨ SqT K H3 p zs) → zs[j]? = some z → R z H3 → rIx K (.ref p) (.int (j : Nat)) H3 R := fun p zs z R hs hz hq => by
            rcases hs with h | h
            · exact .inl (r_ixL h (atI_nat hz) hq)
            · exact .inr (.inl (r_ixT h (atI_nat hz) hq))
          have hjx : j < xs.length := by omega
          obtain ⟨d1, h1, h2⟩ := Dps.get dx (List.getElem?_eq_getElem hjx)
          obtain ⟨d2, h3, h4⟩ := Dps.get dy (List.getElem?_eq_getElem hj)
          have e12 : d2 = d1 := Option.some.inj (h3.symm.trans h1)
          subst e12
          repeat walk_at "rd"
          refine hix px xs xs[j] _ (sq_go sx g3.1) (List.getElem?_eq_getElem hjx) ?_
          repeat walk_at "rd"
          refine hix py ys ys[j] _ (sq_go sy g3.1) (List.getElem?_eq_getElem hj) ?_
          repeat walk_at "rd"
          refine ⟨_, _, d2, m', rfl, rfl, Dp.go g3.1 h2, Dp.go g3.1 h4, hall d2 (List.mem_of_getElem? h1), by omega, fun H4 g4 => ?_⟩
          repeat walk_at "rd"
          exact ⟨g3.trans g4, g4.lst e3⟩
        · rintro D H3 hD ⟨g3, e3⟩
          repeat walk_at "rd"
          refine ⟨Nat.zero_le _, fun p4 hp4 => ?_⟩
          have g4 : Go G L H3 (upd H3 p4 (.lst [])) := Go.new hp4
          refine r_eqD (.lst (.of (g4.lst e3)) .nil) (.lst (.of upd_same) .nil) (by decide) (by decide) ?_
          have z := q _ (g3.trans g4)
          exact z
      · repeat walk_at "rd"
        refine r_isi (m := "list") (Dp.kd hy2) (by decide) ?_
        repeat walk_at "rd"
        refine r_if (fun c2 => ?_) (fun c2 => ?_)
        · have hq : isSeq (tyOf d) = true := isSeq_of2 (Dp.kd hy2).1 c2
          repeat walk_at "rd"
          refine r_isi (m := "tuple") (Dp.kd hx2) (by decide) ?_
          repeat walk_at "rd"
          refine r_isi (m := "tuple") (Dp.kd hy2) (by decide) ?_
          repeat walk_at "rd"
          refine r_ne rfl ?_
          rw [decide_eq_true rfl]
          repeat walk_at "rd"
          refine r_isi (m := "list") (Dp.kd hx2) (by decide) ?_
          repeat walk_at "rd"
          refine r_isi (m := "list") (Dp.kd hy2) (by decide) ?_
          repeat walk_at "rd"
          refine r_ne rfl ?_
          rw [decide_eq_true rfl]
          repeat walk_at "rd"
          obtain ⟨m', ds, rfl, hd, hlen, hall⟩ := ln_seq hl hq
          obtain ⟨px, xs, rfl, sx, dx⟩ := dp_seq hx2 hd
          obtain ⟨py, ys, rfl, sy, dy⟩ := dp_seq hy2 hd
          have hlx := Dps.length dx
          have hly := Dps.length dy
          refine ⟨px, xs, rfl, sx, ?_⟩
          repeat walk_at "rd"
          refine ⟨py, ys, rfl, sy, ?_⟩
          repeat walk_at "rd"
          refine r_ne rfl ?_
          rw [decide_eq_true (by rw [hlx, hly])]
          repeat walk_at "rd"
          refine lcR (n := ys.length) (H0 := H) (fun R z => r_cb (r_cons (r_var (v := .ref py) rfl (r_nil ⟨py, ys, rfl, sy, z⟩)))) (by omega) (fun D j H' => Go G L H H' ∧ H' D = some (.lst [])) ?_ ?_ ?_
          · intro D hD
            exact ⟨Go.new hD, upd_same⟩
          · rintro D j H3 hD hj ⟨g3, e3⟩
            refine r_gN ⟨rfl, ?_⟩
            have hix : ∀ (p : Addr) (zs : List V) (z : V) (R : VK), (SqL K H3 p zs ∨ SqT K H3 p zs) → zs[j]? = some z → R z H3 → rIx K (.ref p) (.int (j : Nat)) H3 R := fun p zs z R hs hz hq => by
              rcases hs with h | h
              · exact .inl (r_ixL h (atI_nat hz) hq)
              · exact .inr (.inl (r_ixT h (atI_nat hz) hq))
            have hjx : j < xs.length := by omega
            obtain ⟨d1, h1, h2⟩ := Dps.get dx (List.getElem?_eq_getElem hjx)
            obtain ⟨d2, h3, h4⟩ := Dps.get dy (List.getElem?_eq_getElem hj)
            have e12 : d2 = d1 := Option.some.inj (h3.symm.trans h1)
            subst e12
            repeat walk_at "rd"
            refine hix px xs xs[j] _ (sq_go sx g3.1) (List.getElem?_eq_getElem hjx) ?_
            repeat walk_at "rd"
            refine hix py ys ys[j] _ (sq_go sy g3.1) (List.getElem?_eq_getElem hj) ?_
            repeat walk_at "rd"
            refine ⟨_, _, d2, m', rfl, rfl, Dp.go g3.1 h2, Dp.go g3.1 h4, hall d2 (List.mem_of_getElem? h1), by omega, fun H4 g4 => ?_⟩
            repeat walk_at "rd"
            exact ⟨g3.trans g4, g4.lst e3⟩
          · rintro D H3 hD ⟨g3, e3⟩
            repeat walk_at "rd"
            refine ⟨Nat.zero_le _, fun p4 hp4 => ?_⟩
            have g4 : Go G L H3 (upd H3 p4 (.lst [])) := Go.new hp4
            refine r_eqD (.lst (.of (g4.lst e3)) .nil) (.lst (.of upd_same) .nil) (by decide) (by decide) ?_
            have z := q _ (g3.trans g4)
            exact z
        · repeat walk_at "rd"
          refine r_isi (m := "bool") (Dp.kd hx2) (by decide) ?_
          repeat walk_at "rd"
          refine r_isi (m := "bool") (Dp.kd hy2) (by decide) ?_
          repeat walk_at "rd"
          refine r_ne rfl ?_
          rw [decide_eq_true rfl]
          repeat walk_at "rd"
          refine r_isi (m := "int") (Dp.kd hx2) (by decide) ?_
          repeat walk_at "rd"
          refine r_isi (m := "int") (Dp.kd hy2) (by decide) ?_
          repeat walk_at "rd"
          refine r_ne rfl ?_
          rw [decide_eq_true rfl]
          repeat walk_at "rd"
          refine r_isi (m := "str") (Dp.kd hx2) (by decide) ?_
          repeat walk_at "rd"
          refine r_isi (m := "str") (Dp.kd hy2) (by decide) ?_
          repeat walk_at "rd"
          refine r_ne rfl ?_
          rw [decide_eq_true rfl]
          repeat walk_at "rd"
          refine r_eqD hx2 hy2 (lv_up (ln_lv _ _ hl) (by omega)) (lv_up (ln_lv _ _ hl) (by omega)) ?_
          rw [PySem.SeqAt.eqv_refl d (lv_ok _ _ (ln_lv _ _ hl)).1]
          exact q _ (Go.refl H)
end
structure Rz5 (K : PySem.W.Frag) (mg : Str → Option Value) : Prop where
  zI : mg "isinstance" = none
  zV : mg "ValueError" = none
  gS : mg "StepError" = some (.ref (He.ga K "StepError"))
  gC : ∀ x ∈ kinds5, mg x = some (.ref (He.ga K x))
  ec : ∀ x ∈ kinds5, ExcC K (He.ga K x)
  xm : ∀ x ∈ kinds5, PySem.W.exmOne K (.ref (He.ga K x)) (.ref (He.ga K "StepError")) = some true
  kv : ∀ x ∈ kinds5, PySem.W.kitOne K (.ref (He.ga K x)) (.type "ValueError") = some true
  kt : ∀ x ∈ kinds5, ∀ y ∈ kinds5, PySem.W.kitOne K (.ref (He.ga K x)) (.ref (He.ga K y)) = some (decide (x = y))
  xf : ∀ x ∈ kinds5, fldOf x ≠ [] → XfC K (He.ga K x)
  nf : ∀ x ∈ kinds5, ∀ f ∈ fldOf x, PySem.W.findIn K (.ref (He.ga K x)) f = some none
/-- the fields, as data -/
def FldAt (d : Option Addr) (H : Hp) : List Str → List PyData → Prop
  | [], ds => ds = []
  | f :: fs, ds => ∃ dd kv v e es, ds = e :: es ∧ d = some dd ∧ H dd = some (.xd kv) ∧ kv.lookup f = some v ∧ Im H v e ∧ FldAt d H fs es
def Told5 (K : PySem.W.Frag) (cls : Value) (d : Option Addr) (H : Hp) (D : PyData) : Prop := ∃ x ds, x ∈ kinds5 ∧ cls = .ref (He.ga K x) ∧ D = .tuple (.str "error" :: .str x :: ds) ∧ FldAt d H (fldOf x) ds ∧ (d = none ∨ ∃ dd fs, d = some dd ∧ H dd = some (.xd fs))
def hits5 (x : Str) : List Bool := kinds5.map fun y => decide (x = y)
theorem hits5_one : ∀ x ∈ kinds5, (hits5 x).count true = 1 := by decide +kernel
theorem hits5_at : ∀ x ∈ kinds5, (hits5 x)[kinds5.idxOf x]? = some true ∧ ∀ m < kinds5.idxOf x, (hits5 x)[m]? = some false := by decide +kernel
theorem kinds5_at : ∀ x ∈ kinds5, kinds5[kinds5.idxOf x]? = some x ∧ kinds5.idxOf x < 19 := by decide +kernel
theorem kind_cases : ∀ x ∈ kinds5, (fldOf x = (["part", "index"] : List Str) ∧ kinds5.idxOf x = 0) ∨ (fldOf x = (["index", "clause"] : List Str) ∧ kinds5.idxOf x = 1) ∨ (fldOf x = (["row", "word"] : List Str) ∧ kinds5.idxOf x = 2) ∨ (fldOf x = (["name"] : List Str) ∧ kinds5.idxOf x = 3) ∨ (fldOf x = (["offset"] : List Str) ∧ kinds5.idxOf x = 4) ∨
    (fldOf x = (["index"] : List Str) ∧ 5 ≤ kinds5.idxOf x ∧ kinds5.idxOf x < 9) ∨ (fldOf x = ([] : List Str) ∧ 9 ≤ kinds5.idxOf x) := by decide +kernel
theorem nth_ne {j : Nat} {n : Int} (h : (j : Int) ≠ n) : decide (V.int (j : Int) = V.int n) = false := decide_eq_false fun e => h (V.int.inj e)
theorem nth_eq {j : Nat} {n : Int} (h : (j : Int) = n) : decide (V.int (j : Int) = V.int n) = true := decide_eq_true (by rw [h])
/-- what _law_told makes of a call: its value, or what it raised -/
def TR5 (K : PySem.W.Frag) (G : List Addr) (L : List (Addr × Str)) : (XK → Hp → VK → Prop) → Hp → VK → Prop := fun tl H Q => tl (fun cls d H' => ∃ D, Told5 K cls d H' D ∧ ∀ v H2, Go G L H' H2 → Im H2 v D → Q v H2) H Q
section
variable {G : List Addr} {L : List (Addr × Str)}
abbrev nTold : List Str := ["_law_work", "_law_e", "_law_some", "_law_terms", "_law_k", "_law_head"]
theorem scTold : FnScope nTold ["_law_work"] (defScope sTold) := C8.fnScope_by (by decide +kernel)
theorem r_is5 {K : PySem.W.Frag} {H : Hp} {Q : VK} {mg : Str → Option Value} {x y : Str} {d : Option Addr} {a : Addr} (R : Rz5 K mg) (hx : x ∈ kinds5) (hy : y ∈ kinds5) (hd : d = none ∨ ∃ dd fs, d = some dd ∧ H dd = some (.xd fs)) (q : Q (.bl (decide (x = y))) H) : rIsG K (.ref (He.ga K x)) d a [.ref a, .ref (He.ga K y)] H Q :=
  ⟨_, rfl, R.ec x hx, ⟨_, _, _, rfl, fun u h => h, R.kt x hx y hy, q⟩, hd⟩
theorem r_append2 {H : Hp} {Q : VK} {p : Addr} {xs ys : List V} {y : V} (hp : H p = some (.lst xs)) (hl : xs.length ≤ 5000) (e : xs ++ [y] = ys) (q : ∀ H1, H1 = upd H p (.lst ys) → Q .non H1) : rAppend (.ref p) [y] H Q := by
  subst e
  exact r_append hp hl (q _ rfl)
set_option maxHeartbeats 4000000 in
theorem told5_gives {X : Cx} {g : Addr} {cdg : Value} (R : Rz5 X.K X.mg) : GivesQ X nTold "_law_told" (defScope sTold) g cdg (defBody sTold) "_law_work" (TR5 X.K G L) := by
  intro f pre s H Q tl act hc h
  have gC : ∀ x, x ∈ kinds5 → X.mg x = some (.ref (He.ga X.K x)) := R.gC
  refine ⟨_, pss_one (ps_try_as (i := 1) (X := (cxOf C8.CX0 X.prog X.w X.K X.mg X.base nTold "_law_told" (defScope sTold) g cdg X.A X.stack s H C8.E0).nox) (c := .ref (He.ga X.K "StepError"))
      (tb := fun W D σ H => ∃ Ech : XK, (∀ cls d σ' H', Ech cls d H' → W cls d σ' H') ∧ σ[0]? = some (some (.ref f)) ∧ pre H ∧ tl Ech H D.rt)
      rfl rfl scTold.nd rfl rfl ⟨rfl, by decide, .inl R.gS⟩ L2.takes0 (fun W pn xe tk _ => ?_)
      (fun a oe cls d pn hz hf => pss_len (n := 6) rfl (pss_cons (ps_set (i := 2) scTold.nd rfl (Or.inl rfl) (pe_lst (pa_cons (pe_callB (call_isG hz hf) rfl R.zI boot_isinstance (pa_cons (pv 1) (pa_cons (pe_glob (v := .ref (He.ga X.K "InvalidRules")) rfl (gC "InvalidRules" (by decide)) rfl) pa_nil))) (pa_cons (pe_callB (call_isG hz hf) rfl R.zI boot_isinstance (pa_cons (pv 1) (pa_cons (pe_glob (v := .ref (He.ga X.K "IllegalStep")) rfl (gC "IllegalStep" (by decide)) rfl) pa_nil))) (pa_cons (pe_callB (call_isG hz hf) rfl R.zI boot_isinstance (pa_cons (pv 1) (pa_cons (pe_glob (v := .ref (He.ga X.K "NotationError")) rfl (gC "NotationError" (by decide)) rfl) pa_nil))) pa_nil)))))
        (pss_cons (ps_set (i := 2) scTold.nd rfl (Or.inl rfl) (pe_op op_cat (pv 2) (pe_lst (pa_cons (pe_callB (call_isG hz hf) rfl R.zI boot_isinstance (pa_cons (pv 1) (pa_cons (pe_glob (v := .ref (He.ga X.K "UnknownSwitch")) rfl (gC "UnknownSwitch" (by decide)) rfl) pa_nil))) (pa_cons (pe_callB (call_isG hz hf) rfl R.zI boot_isinstance (pa_cons (pv 1) (pa_cons (pe_glob (v := .ref (He.ga X.K "DecodeError")) rfl (gC "DecodeError" (by decide)) rfl) pa_nil))) (pa_cons (pe_callB (call_isG hz hf) rfl R.zI boot_isinstance (pa_cons (pv 1) (pa_cons (pe_glob (v := .ref (He.ga X.K "InvalidState")) rfl (gC "InvalidState" (by decide)) rfl) pa_nil))) pa_nil))))))
        (pss_cons (ps_set (i := 2) scTold.nd rfl (Or.inl rfl) (pe_op op_cat (pv 2) (pe_lst (pa_cons (pe_callB (call_isG hz hf) rfl R.zI boot_isinstance (pa_cons (pv 1) (pa_cons (pe_glob (v := .ref (He.ga X.K "IllegalState")) rfl (gC "IllegalState" (by decide)) rfl) pa_nil))) (pa_cons (pe_callB (call_isG hz hf) rfl R.zI boot_isinstance (pa_cons (pv 1) (pa_cons (pe_glob (v := .ref (He.ga X.K "InvalidStates")) rfl (gC "InvalidStates" (by decide)) rfl) pa_nil))) (pa_cons (pe_callB (call_isG hz hf) rfl R.zI boot_isinstance (pa_cons (pv 1) (pa_cons (pe_glob (v := .ref (He.ga X.K "InvalidOperation")) rfl (gC "InvalidOperation" (by decide)) rfl) pa_nil))) pa_nil))))))
        (pss_cons (ps_set (i := 2) scTold.nd rfl (Or.inl rfl) (pe_op op_cat (pv 2) (pe_lst (pa_cons (pe_callB (call_isG hz hf) rfl R.zI boot_isinstance (pa_cons (pv 1) (pa_cons (pe_glob (v := .ref (He.ga X.K "InvalidClause")) rfl (gC "InvalidClause" (by decide)) rfl) pa_nil))) (pa_cons (pe_callB (call_isG hz hf) rfl R.zI boot_isinstance (pa_cons (pv 1) (pa_cons (pe_glob (v := .ref (He.ga X.K "UnknownClause")) rfl (gC "UnknownClause" (by decide)) rfl) pa_nil))) (pa_cons (pe_callB (call_isG hz hf) rfl R.zI boot_isinstance (pa_cons (pv 1) (pa_cons (pe_glob (v := .ref (He.ga X.K "NoWay")) rfl (gC "NoWay" (by decide)) rfl) pa_nil))) pa_nil))))))
        (pss_cons (ps_set (i := 2) scTold.nd rfl (Or.inl rfl) (pe_op op_cat (pv 2) (pe_lst (pa_cons (pe_callB (call_isG hz hf) rfl R.zI boot_isinstance (pa_cons (pv 1) (pa_cons (pe_glob (v := .ref (He.ga X.K "NoGoal")) rfl (gC "NoGoal" (by decide)) rfl) pa_nil))) (pa_cons (pe_callB (call_isG hz hf) rfl R.zI boot_isinstance (pa_cons (pv 1) (pa_cons (pe_glob (v := .ref (He.ga X.K "TooManyClauses")) rfl (gC "TooManyClauses" (by decide)) rfl) pa_nil))) (pa_cons (pe_callB (call_isG hz hf) rfl R.zI boot_isinstance (pa_cons (pv 1) (pa_cons (pe_glob (v := .ref (He.ga X.K "DifferentNames")) rfl (gC "DifferentNames" (by decide)) rfl) pa_nil))) pa_nil))))))
        (pss_cons (ps_set (i := 2) scTold.nd rfl (Or.inl rfl) (pe_op op_cat (pv 2) (pe_lst (pa_cons (pe_callB (call_isG hz hf) rfl R.zI boot_isinstance (pa_cons (pv 1) (pa_cons (pe_glob (v := .ref (He.ga X.K "TooManySwitches")) rfl (gC "TooManySwitches" (by decide)) rfl) pa_nil))) (pa_cons (pe_callB (call_isG hz hf) rfl R.zI boot_isinstance (pa_cons (pv 1) (pa_cons (pe_glob (v := .ref (He.ga X.K "LastSwitch")) rfl (gC "LastSwitch" (by decide)) rfl) pa_nil))) (pa_cons (pe_callB (call_isG hz hf) rfl R.zI boot_isinstance (pa_cons (pv 1) (pa_cons (pe_glob (v := .ref (He.ga X.K "InvalidName")) rfl (gC "InvalidName" (by decide)) rfl) pa_nil))) pa_nil))))))
        (pss_cons (ps_expr (pe_bmU (X := (cxOf C8.CX0 X.prog X.w X.K X.mg X.base nTold "_law_told" (defScope sTold) g cdg X.A X.stack s H C8.E0).nox) (r := rAppend) PySem.F.plainAttrs_list PySem.F.slot_list_append PySem.F.type_list_append mt_append (pv 2) (pa_cons (pe_callB (call_isG hz hf) rfl R.zI boot_isinstance (pa_cons (pv 1) (pa_cons (pe_glob (v := .ref (He.ga X.K "InvalidCount")) rfl (gC "InvalidCount" (by decide)) rfl) pa_nil))) pa_nil)))
        (pss_cons (ps_set (i := 3) scTold.nd rfl (Or.inl rfl) (pe_lst (pa_cons pe_str (pa_cons pe_str (pa_cons pe_str (pa_cons pe_str (pa_cons pe_str (pa_cons pe_str pa_nil))))))))
        (pss_cons (ps_set (i := 3) scTold.nd rfl (Or.inl rfl) (pe_op op_cat (pv 3) (pe_lst (pa_cons pe_str (pa_cons pe_str (pa_cons pe_str (pa_cons pe_str (pa_cons pe_str pa_nil))))))))
        (pss_cons (ps_set (i := 3) scTold.nd rfl (Or.inl rfl) (pe_op op_cat (pv 3) (pe_lst (pa_cons pe_str (pa_cons pe_str (pa_cons pe_str (pa_cons pe_str (pa_cons pe_str (pa_cons pe_str pa_nil)))))))))
        (pss_cons (ps_set (i := 3) scTold.nd rfl (Or.inl rfl) (pe_op op_cat (pv 3) (pe_lst (pa_cons pe_str (pa_cons pe_str pa_nil)))))
        (pss_cons (ps_set (i := 4) scTold.nd rfl (Or.inl rfl) (pe_ifExp (PW.pt (pw_and (pt_cmpR op_eq (pe_bmU (X := (cxOf C8.CX0 X.prog X.w X.K X.mg X.base nTold "_law_told" (defScope sTold) g cdg X.A X.stack s H C8.E0).nox) (r := rCntB X.K) PySem.F.plainAttrs_list PySem.F.slot_list_count PySem.F.type_list_count mt_lcountB (pv 2) (pa_cons pe_bl pa_nil)) pe_int (nomark _)) (pw_and1 (pt_val (pe_callB (call_isG hz hf) rfl R.zI boot_isinstance (pa_cons (pv 1) (pa_cons (pe_bltn (v := .ty "ValueError") rfl R.zV (by decide +kernel) rfl) pa_nil))))))) (pe_bmU (X := (cxOf C8.CX0 X.prog X.w X.K X.mg X.base nTold "_law_told" (defScope sTold) g cdg X.A X.stack s H C8.E0).nox) (r := rIndex X.K) PySem.F.plainAttrs_list PySem.F.slot_list_index PySem.F.type_list_index mt_index (pv 2) (pa_cons pe_bl pa_nil)) pe_int))
        (pss_cons (ps_set (i := 5) scTold.nd rfl (Or.inl rfl) (pe_tup (pa_cons pe_str (pa_cons (pe_ifExp (pt_cmpR op_lt (pv 4) pe_int (nomark _)) (pe_ix (r := rIxL X.K) ix_list (pv 3) (pv 4) (fun _ _ => rfl)) pe_str) pa_nil))))
        (pss_cons (ps_if (pt_cmpR op_eq (pv 4) pe_int (nomark _)) (pss_one (ps_ret (pe_op (r := rCatA X.K) op_catA (pv 5) (pe_tup (pa_cons (pe_xfG hz hf (pv 1)) (pa_cons (pe_xfG hz hf (pv 1)) pa_nil)))))) pss_nil)
        (pss_cons (ps_if (pt_cmpR op_eq (pv 4) pe_int (nomark _)) (pss_one (ps_ret (pe_op (r := rCatA X.K) op_catA (pv 5) (pe_tup (pa_cons (pe_xfG hz hf (pv 1)) (pa_cons (pe_xfG hz hf (pv 1)) pa_nil)))))) pss_nil)
        (pss_cons (ps_if (pt_cmpR op_eq (pv 4) pe_int (nomark _)) (pss_one (ps_ret (pe_op (r := rCatA X.K) op_catA (pv 5) (pe_tup (pa_cons (pe_xfG hz hf (pv 1)) (pa_cons (pe_xfG hz hf (pv 1)) pa_nil)))))) pss_nil)
        (pss_cons (ps_if (pt_cmpR op_eq (pv 4) pe_int (nomark _)) (pss_one (ps_ret (pe_op (r := rCatA X.K) op_catA (pv 5) (pe_tup (pa_cons (pe_xfG hz hf (pv 1)) pa_nil))))) pss_nil)
        (pss_cons (ps_if (pt_cmpR op_eq (pv 4) pe_int (nomark _)) (pss_one (ps_ret (pe_op (r := rCatA X.K) op_catA (pv 5) (pe_tup (pa_cons (pe_xfG hz hf (pv 1)) pa_nil))))) pss_nil)
        (pss_one (ps_ret (pe_op (r := rCatA X.K) op_catA (pv 5) (pe_ifExp (pt_cmpR op_lt (pv 4) pe_int (nomark _)) (pe_tup (pa_cons (pe_xfG hz hf (pv 1)) pa_nil)) (pe_tup pa_nil))))))))))))))))))))))))), ?_⟩
  · refine ⟨fun pins s' σ H' D I h' => ?_⟩
    obtain ⟨Ech, hW, h1, h2, h3⟩ := h'
    exact (pss_one (ps_ret (act W pn xe Ech _ _ tk hW))).run pins s' σ H' D I ⟨h1, h2, h3⟩
  · refine ⟨_, fun cls d σ' H' h' => ?_, rfl, hc, h⟩
    obtain ⟨D, td, qD⟩ := h'
    obtain ⟨x, ds, hx, rfl, rfl, hfl, hd⟩ := td
    refine ⟨true, R.xm x hx, fun _ a ha hlen => ?_, fun z => by cases z⟩
    have hlen' : σ'.length = 6 := by
      rw [List.length_set] at hlen
      exact hlen
    obtain ⟨s0, s1, s2, s3, s4, s5, rfl⟩ : ∃ s0 s1 s2 s3 s4 s5, σ' = [s0, s1, s2, s3, s4, s5] := by
      match σ', hlen' with
      | [s0, s1, s2, s3, s4, s5], _ => exact ⟨s0, s1, s2, s3, s4, s5, rfl⟩
    clear hlen hlen'
    have gd : ∀ H1, Go G L H' H1 → (d = none ∨ ∃ dd fs, d = some dd ∧ H1 dd = some (.xd fs)) := fun H1 g => by
      rcases hd with z | ⟨dd, fs, z1, z2⟩
      · exact .inl z
      · exact .inr ⟨dd, fs, z1, g.1 dd _ z2 fun ps q => by cases q⟩
    have k0 : Kp H' H' := fun _ _ e => e
    repeat walk_at "rd"
    refine r_is5 R hx (by decide) (gd _ (Go.same k0)) ?_
    repeat walk_at "rd"
    refine r_is5 R hx (by decide) (gd _ (Go.same k0)) ?_
    repeat walk_at "rd"
    refine r_is5 R hx (by decide) (gd _ (Go.same k0)) ?_
    repeat walk_at "rd"
    refine ⟨(by show 3 ≤ sizeLine; decide), fun q0 hq0 => ?_⟩
    generalize hH : upd H' q0 _ = A0; obtain ⟨l0, f0⟩ := new_facts hH hq0; clear hH
    have k0a : Kp H' A0 := kp_t k0 l0
    repeat walk_at "rd"
    refine r_is5 R hx (by decide) (gd _ (Go.same k0a)) ?_
    repeat walk_at "rd"
    refine r_is5 R hx (by decide) (gd _ (Go.same k0a)) ?_
    repeat walk_at "rd"
    refine r_is5 R hx (by decide) (gd _ (Go.same k0a)) ?_
    repeat walk_at "rd"
    refine ⟨(by show 3 ≤ sizeLine; decide), fun q1 hq1 => ?_⟩
    generalize hH : upd A0 q1 _ = A1; obtain ⟨l1, f1⟩ := new_facts hH hq1; clear hH
    have k1a : Kp H' A1 := kp_t k0a l1
    refine r_cat (l1 _ _ f0) f1 (by show 6 ≤ 5000; decide) fun p1 B1 m1 n1 e1 => ?_
    have k1b : Kp H' B1 := kp_t k1a m1
    repeat walk_at "rd"
    refine r_is5 R hx (by decide) (gd _ (Go.same k1b)) ?_
    repeat walk_at "rd"
    refine r_is5 R hx (by decide) (gd _ (Go.same k1b)) ?_
    repeat walk_at "rd"
    refine r_is5 R hx (by decide) (gd _ (Go.same k1b)) ?_
    repeat walk_at "rd"
    refine ⟨(by show 3 ≤ sizeLine; decide), fun q2 hq2 => ?_⟩
    generalize hH : upd B1 q2 _ = A2; obtain ⟨l2, f2⟩ := new_facts hH hq2; clear hH
    have k2a : Kp H' A2 := kp_t k1b l2
    refine r_cat (l2 _ _ e1) f2 (by show 9 ≤ 5000; decide) fun p2 B2 m2 n2 e2 => ?_
    have k2b : Kp H' B2 := kp_t k2a m2
    repeat walk_at "rd"
    refine r_is5 R hx (by decide) (gd _ (Go.same k2b)) ?_
    repeat walk_at "rd"
    refine r_is5 R hx (by decide) (gd _ (Go.same k2b)) ?_
    repeat walk_at "rd"
    refine r_is5 R hx (by decide) (gd _ (Go.same k2b)) ?_
    repeat walk_at "rd"
    refine ⟨(by show 3 ≤ sizeLine; decide), fun q3 hq3 => ?_⟩
    generalize hH : upd B2 q3 _ = A3; obtain ⟨l3, f3⟩ := new_facts hH hq3; clear hH
    have k3a : Kp H' A3 := kp_t k2b l3
    refine r_cat (l3 _ _ e2) f3 (by show 12 ≤ 5000; decide) fun p3 B3 m3 n3 e3 => ?_
    have k3b : Kp H' B3 := kp_t k3a m3
    repeat walk_at "rd"
    refine r_is5 R hx (by decide) (gd _ (Go.same k3b)) ?_
    repeat walk_at "rd"
    refine r_is5 R hx (by decide) (gd _ (Go.same k3b)) ?_
    repeat walk_at "rd"
    refine r_is5 R hx (by decide) (gd _ (Go.same k3b)) ?_
    repeat walk_at "rd"
    refine ⟨(by show 3 ≤ sizeLine; decide), fun q4 hq4 => ?_⟩
    generalize hH : upd B3 q4 _ = A4; obtain ⟨l4, f4⟩ := new_facts hH hq4; clear hH
    have k4a : Kp H' A4 := kp_t k3b l4
    refine r_cat (l4 _ _ e3) f4 (by show 15 ≤ 5000; decide) fun p4 B4 m4 n4 e4 => ?_
    have k4b : Kp H' B4 := kp_t k4a m4
    repeat walk_at "rd"
    refine r_is5 R hx (by decide) (gd _ (Go.same k4b)) ?_
    repeat walk_at "rd"
    refine r_is5 R hx (by decide) (gd _ (Go.same k4b)) ?_
    repeat walk_at "rd"
    refine r_is5 R hx (by decide) (gd _ (Go.same k4b)) ?_
    repeat walk_at "rd"
    refine ⟨(by show 3 ≤ sizeLine; decide), fun q5 hq5 => ?_⟩
    generalize hH : upd B4 q5 _ = A5; obtain ⟨l5, f5⟩ := new_facts hH hq5; clear hH
    have k5a : Kp H' A5 := kp_t k4b l5
    refine r_cat (l5 _ _ e4) f5 (by show 18 ≤ 5000; decide) fun p5 B5 m5 n5 e5 => ?_
    have k5b : Kp H' B5 := kp_t k5a m5
    repeat walk_at "rd"
    refine ⟨.inl ⟨rfl, _, SqL.of e5⟩, ?_⟩
    repeat walk_at "rd"
    refine r_is5 R hx (by decide) (gd _ (Go.same k5b)) ?_
    repeat walk_at "rd"
    refine r_append2 e5 (by show 18 ≤ 5000; decide) (ys := (hits5 x).map V.bl) rfl fun C0 hC0 => ?_
    have nP : H' p5 = none := by
      cases hz : H' p5 with
      | none => rfl
      | some o =>
        have z := k5a _ _ hz
        rw [n5] at z
        cases z
    have g6 : Go G L H' C0 := by
      rw [hC0]
      exact (Go.same k5b).updNew nP e5
    have e6 : C0 p5 = some (.lst ((hits5 x).map V.bl)) := by
      rw [hC0]
      exact upd_same
    clear hC0 e5 n5 k5a k5b nP
    repeat walk_at "rd"
    refine ⟨(by show 6 ≤ sizeLine; decide), fun r0 hr0 => ?_⟩
    generalize hH : upd C0 r0 _ = C1; obtain ⟨j1, t1⟩ := new_facts hH hr0; clear hH
    have e6a := j1 _ _ e6
    have g7 : Go G L H' C1 := g6.trans (Go.same j1)
    repeat walk_at "rd"
    refine ⟨(by show 5 ≤ sizeLine; decide), fun r2 hr2 => ?_⟩
    generalize hH : upd C1 r2 _ = C2; obtain ⟨j2, t2⟩ := new_facts hH hr2; clear hH
    refine r_cat (j2 _ _ t1) t2 (by show 11 ≤ 5000; decide) fun u3 C3 j3 _ t3 => ?_
    have e6b := j3 _ _ (j2 _ _ e6a)
    have g8 : Go G L H' C3 := (g7.trans (Go.same j2)).trans (Go.same j3)
    repeat walk_at "rd"
    refine ⟨(by show 6 ≤ sizeLine; decide), fun r4 hr4 => ?_⟩
    generalize hH : upd C3 r4 _ = C4; obtain ⟨j4, t4⟩ := new_facts hH hr4; clear hH
    refine r_cat (j4 _ _ t3) t4 (by show 17 ≤ 5000; decide) fun u5 C5 j5 _ t5 => ?_
    have e6c := j5 _ _ (j4 _ _ e6b)
    have g9 : Go G L H' C5 := (g8.trans (Go.same j4)).trans (Go.same j5)
    repeat walk_at "rd"
    refine ⟨(by show 2 ≤ sizeLine; decide), fun r6 hr6 => ?_⟩
    generalize hH : upd C5 r6 _ = C6; obtain ⟨j6, t6⟩ := new_facts hH hr6; clear hH
    refine r_cat (j6 _ _ t5) t6 (by show 19 ≤ 5000; decide) fun u7 C7 j7 _ t7 => ?_
    have e6d := j7 _ _ (j6 _ _ e6c)
    have g10 : Go G L H' C7 := (g9.trans (Go.same j6)).trans (Go.same j7)
    have eT : C7 u7 = some (.lst (kinds5.map V.str)) := t7
    clear t1 t2 t3 t4 t5 t6 t7 e6 e6a e6b e6c
    obtain ⟨i1, i2⟩ := hits5_at x hx
    obtain ⟨i3, i4⟩ := kinds5_at x hx
    repeat walk_at "rd"
    refine ⟨.inl ⟨rfl, _, SqL.of e6d⟩, ?_⟩
    repeat walk_at "rd"
    refine ⟨p5, hits5 x, true, rfl, rfl, .of e6d, ?_⟩
    rw [hits5_one x hx]
    repeat walk_at "rd"
    refine r_eq rfl ?_
    rw [show decide (V.int ((1 : Nat) : Int) = V.int 1) = true from decide_eq_true rfl]
    repeat walk_at "rd"
    refine ⟨_, rfl, R.ec x hx, ⟨.ty "ValueError", .type "ValueError", true, rfl, fun u h => h, R.kv x hx, ?_⟩, gd _ g10⟩
    repeat walk_at "rd"
    refine ⟨.inl ⟨rfl, _, SqL.of e6d⟩, ?_⟩
    repeat walk_at "rd"
    refine ⟨p5, (hits5 x).map V.bl, .bl true, kinds5.idxOf x, .bl true, rfl, rfl, .of e6d, rfl, ?_, by rw [List.getElem?_map, i1]; rfl, rfl, fun m z' hm hz => ?_, ?_⟩
    · rw [List.all_eq_true]
      intro z hz
      obtain ⟨b, _, e⟩ := List.mem_map.mp hz
      rw [← e]
      rfl
    · rw [List.getElem?_map, i2 m hm] at hz
      rw [← Option.some.inj hz]
      rfl
    · repeat walk_at "rd"
      refine r_if (fun _ => ?_) (fun c => absurd (of_decide_eq_false c) (by omega))
      repeat walk_at "rd"
      refine r_ixL (.of eT) (v := .str x) (atI_nat (by rw [List.getElem?_map, i3]; rfl)) ?_
      repeat walk_at "rd"
      refine ⟨(by show 2 ≤ sizeLine; decide), fun ph hph => ?_⟩
      generalize hH : upd C7 ph _ = C8; obtain ⟨j8, t8⟩ := new_facts hH hph; clear hH
      have g11 : Go G L H' C8 := g10.trans (Go.same j8)
      clear eT e6d i1 i2 i3
      have fin : ∀ (vs : List V) (es : List PyData) (pt : Addr) (C9 : Hp), Kp C8 C9 → C9 pt = some (.tup vs) → Ims C9 vs es → vs ≠ [] → vs.length ≤ 5 → ds = es → rCatA X.K (.ref ph) (.ref pt) C9 Q := fun vs es pt C9 k e im hne hl he => by
        subst he
        refine ⟨ph, pt, [.str "error", .str x], vs, rfl, rfl, .of (k _ _ t8), .of e, ?_, fun h => (by cases h), fun _ h => absurd h hne, fun _ _ pr hpr => ?_⟩
        · rw [sizeLine_eq]
          show 2 + vs.length ≤ _
          omega
        generalize hH : upd C9 pr _ = C10; obtain ⟨j10, t10⟩ := new_facts hH hpr; clear hH
        exact qD (.ref pr) C10 ((g11.trans (Go.same k)).trans (Go.same j10)) (.tup (.inl t10) (.cons (.str _) (.cons (.str _) (im.kt (kp_kt j10)))))
      repeat walk_at "rd"
      rcases kind_cases x hx with ⟨hf, hj⟩ | ⟨hf, hj⟩ | ⟨hf, hj⟩ | ⟨hf, hj⟩ | ⟨hf, hj⟩ | ⟨hf, hj, hj2⟩ | ⟨hf, hj⟩
      · rw [hf] at hfl
        obtain ⟨dd, kv0, v0, e0, es0, rfl, rfl, x0, k0, im0, hfl⟩ := hfl
        obtain ⟨dd1, kv1, v1, e1, es1, rfl, ed, x1, k1, im1, hfl⟩ := hfl
        obtain rfl : dd = dd1 := Option.some.inj ed
        have hfl0 : _ = [] := hfl
        subst hfl0
        clear gd
        refine r_eq rfl ?_
        rw [nth_eq (by omega)]
        repeat walk_at "rd"
        refine r_xf (R.xf x hx (by rw [hf]; decide)) (R.nf x hx "part" (by rw [hf]; decide)) (fun R z => ⟨_, rfl, z⟩) (g11.1 dd _ x0 fun ps q => by cases q) k0 ?_
        repeat walk_at "rd"
        refine r_xf (R.xf x hx (by rw [hf]; decide)) (R.nf x hx "index" (by rw [hf]; decide)) (fun R z => ⟨_, rfl, z⟩) (g11.1 dd _ x1 fun ps q => by cases q) k1 ?_
        repeat walk_at "rd"
        refine ⟨(by show 2 ≤ sizeLine; decide), fun pt hpt => ?_⟩
        generalize hH : upd C8 pt _ = C9; obtain ⟨j9, t9⟩ := new_facts hH hpt; clear hH
        exact fin [v0, v1] [e0, e1] pt C9 j9 t9 (.cons (im0.kt (g11.trans (Go.same (G := G) (L := L) j9)).kt) (.cons (im1.kt (g11.trans (Go.same (G := G) (L := L) j9)).kt) .nil)) (by simp) (by show 2 ≤ 5; decide) rfl
      · rw [hf] at hfl
        obtain ⟨dd, kv0, v0, e0, es0, rfl, rfl, x0, k0, im0, hfl⟩ := hfl
        obtain ⟨dd1, kv1, v1, e1, es1, rfl, ed, x1, k1, im1, hfl⟩ := hfl
        obtain rfl : dd = dd1 := Option.some.inj ed
        have hfl0 : _ = [] := hfl
        subst hfl0
        clear gd
        refine r_eq rfl ?_
        rw [nth_ne (by omega)]
        repeat walk_at "rd"
        refine r_eq rfl ?_
        rw [nth_eq (by omega)]
        repeat walk_at "rd"
        refine r_xf (R.xf x hx (by rw [hf]; decide)) (R.nf x hx "index" (by rw [hf]; decide)) (fun R z => ⟨_, rfl, z⟩) (g11.1 dd _ x0 fun ps q => by cases q) k0 ?_
        repeat walk_at "rd"
        refine r_xf (R.xf x hx (by rw [hf]; decide)) (R.nf x hx "clause" (by rw [hf]; decide)) (fun R z => ⟨_, rfl, z⟩) (g11.1 dd _ x1 fun ps q => by cases q) k1 ?_
        repeat walk_at "rd"
        refine ⟨(by show 2 ≤ sizeLine; decide), fun pt hpt => ?_⟩
        generalize hH : upd C8 pt _ = C9; obtain ⟨j9, t9⟩ := new_facts hH hpt; clear hH
        exact fin [v0, v1] [e0, e1] pt C9 j9 t9 (.cons (im0.kt (g11.trans (Go.same (G := G) (L := L) j9)).kt) (.cons (im1.kt (g11.trans (Go.same (G := G) (L := L) j9)).kt) .nil)) (by simp) (by show 2 ≤ 5; decide) rfl
      · rw [hf] at hfl
        obtain ⟨dd, kv0, v0, e0, es0, rfl, rfl, x0, k0, im0, hfl⟩ := hfl
        obtain ⟨dd1, kv1, v1, e1, es1, rfl, ed, x1, k1, im1, hfl⟩ := hfl
        obtain rfl : dd = dd1 := Option.some.inj ed
        have hfl0 : _ = [] := hfl
        subst hfl0
        clear gd
        refine r_eq rfl ?_
        rw [nth_ne (by omega)]
        repeat walk_at "rd"
        refine r_eq rfl ?_
        rw [nth_ne (by omega)]
        repeat walk_at "rd"
        refine r_eq rfl ?_
        rw [nth_eq (by omega)]
        repeat walk_at "rd"
        refine r_xf (R.xf x hx (by rw [hf]; decide)) (R.nf x hx "row" (by rw [hf]; decide)) (fun R z => ⟨_, rfl, z⟩) (g11.1 dd _ x0 fun ps q => by cases q) k0 ?_
        repeat walk_at "rd"
        refine r_xf (R.xf x hx (by rw [hf]; decide)) (R.nf x hx "word" (by rw [hf]; decide)) (fun R z => ⟨_, rfl, z⟩) (g11.1 dd _ x1 fun ps q => by cases q) k1 ?_
        repeat walk_at "rd"
        refine ⟨(by show 2 ≤ sizeLine; decide), fun pt hpt => ?_⟩
        generalize hH : upd C8 pt _ = C9; obtain ⟨j9, t9⟩ := new_facts hH hpt; clear hH
        exact fin [v0, v1] [e0, e1] pt C9 j9 t9 (.cons (im0.kt (g11.trans (Go.same (G := G) (L := L) j9)).kt) (.cons (im1.kt (g11.trans (Go.same (G := G) (L := L) j9)).kt) .nil)) (by simp) (by show 2 ≤ 5; decide) rfl
      · rw [hf] at hfl
        obtain ⟨dd, kv0, v0, e0, es0, rfl, rfl, x0, k0, im0, hfl⟩ := hfl
        have hfl0 : _ = [] := hfl
        subst hfl0
        clear gd
        refine r_eq rfl ?_
        rw [nth_ne (by omega)]
        repeat walk_at "rd"
        refine r_eq rfl ?_
        rw [nth_ne (by omega)]
        repeat walk_at "rd"
        refine r_eq rfl ?_
        rw [nth_ne (by omega)]
        repeat walk_at "rd"
        refine r_eq rfl ?_
        rw [nth_eq (by omega)]
        repeat walk_at "rd"
        refine r_xf (R.xf x hx (by rw [hf]; decide)) (R.nf x hx "name" (by rw [hf]; decide)) (fun R z => ⟨_, rfl, z⟩) (g11.1 dd _ x0 fun ps q => by cases q) k0 ?_
        repeat walk_at "rd"
        refine ⟨(by show 1 ≤ sizeLine; decide), fun pt hpt => ?_⟩
        generalize hH : upd C8 pt _ = C9; obtain ⟨j9, t9⟩ := new_facts hH hpt; clear hH
        exact fin [v0] [e0] pt C9 j9 t9 (.cons (im0.kt (g11.trans (Go.same (G := G) (L := L) j9)).kt) .nil) (by simp) (by show 1 ≤ 5; decide) rfl
      · rw [hf] at hfl
        obtain ⟨dd, kv0, v0, e0, es0, rfl, rfl, x0, k0, im0, hfl⟩ := hfl
        have hfl0 : _ = [] := hfl
        subst hfl0
        clear gd
        refine r_eq rfl ?_
        rw [nth_ne (by omega)]
        repeat walk_at "rd"
        refine r_eq rfl ?_
        rw [nth_ne (by omega)]
        repeat walk_at "rd"
        refine r_eq rfl ?_
        rw [nth_ne (by omega)]
        repeat walk_at "rd"
        refine r_eq rfl ?_
        rw [nth_ne (by omega)]
        repeat walk_at "rd"
        refine r_eq rfl ?_
        rw [nth_eq (by omega)]
        repeat walk_at "rd"
        refine r_xf (R.xf x hx (by rw [hf]; decide)) (R.nf x hx "offset" (by rw [hf]; decide)) (fun R z => ⟨_, rfl, z⟩) (g11.1 dd _ x0 fun ps q => by cases q) k0 ?_
        repeat walk_at "rd"
        refine ⟨(by show 1 ≤ sizeLine; decide), fun pt hpt => ?_⟩
        generalize hH : upd C8 pt _ = C9; obtain ⟨j9, t9⟩ := new_facts hH hpt; clear hH
        exact fin [v0] [e0] pt C9 j9 t9 (.cons (im0.kt (g11.trans (Go.same (G := G) (L := L) j9)).kt) .nil) (by simp) (by show 1 ≤ 5; decide) rfl
      · rw [hf] at hfl
        obtain ⟨dd, kv0, v0, e0, es0, rfl, rfl, x0, k0, im0, hfl⟩ := hfl
        have hfl0 : _ = [] := hfl
        subst hfl0
        clear gd
        refine r_eq rfl ?_
        rw [nth_ne (by omega)]
        repeat walk_at "rd"
        refine r_eq rfl ?_
        rw [nth_ne (by omega)]
        repeat walk_at "rd"
        refine r_eq rfl ?_
        rw [nth_ne (by omega)]
        repeat walk_at "rd"
        refine r_eq rfl ?_
        rw [nth_ne (by omega)]
        repeat walk_at "rd"
        refine r_eq rfl ?_
        rw [nth_ne (by omega)]
        repeat walk_at "rd"
        refine r_if (fun _ => ?_) (fun c => absurd (of_decide_eq_false c) (by omega))
        repeat walk_at "rd"
        refine r_xf (R.xf x hx (by rw [hf]; decide)) (R.nf x hx "index" (by rw [hf]; decide)) (fun R z => ⟨_, rfl, z⟩) (g11.1 dd _ x0 fun ps q => by cases q) k0 ?_
        repeat walk_at "rd"
        refine ⟨(by show 1 ≤ sizeLine; decide), fun pt hpt => ?_⟩
        generalize hH : upd C8 pt _ = C9; obtain ⟨j9, t9⟩ := new_facts hH hpt; clear hH
        exact fin [v0] [e0] pt C9 j9 t9 (.cons (im0.kt (g11.trans (Go.same (G := G) (L := L) j9)).kt) .nil) (by simp) (by show 1 ≤ 5; decide) rfl
      · rw [hf] at hfl
        have hfl0 : ds = [] := hfl
        subst hfl0
        refine r_eq rfl ?_
        rw [nth_ne (by omega)]
        repeat walk_at "rd"
        refine r_eq rfl ?_
        rw [nth_ne (by omega)]
        repeat walk_at "rd"
        refine r_eq rfl ?_
        rw [nth_ne (by omega)]
        repeat walk_at "rd"
        refine r_eq rfl ?_
        rw [nth_ne (by omega)]
        repeat walk_at "rd"
        refine r_eq rfl ?_
        rw [nth_ne (by omega)]
        repeat walk_at "rd"
        refine r_if (fun c => absurd (of_decide_eq_true c) (by omega)) (fun _ => ?_)
        repeat walk_at "rd"
        refine ⟨(by show 0 ≤ sizeLine; decide), fun pt hpt => ?_⟩
        generalize hH : upd C8 pt _ = C9; obtain ⟨j9, t9⟩ := new_facts hH hpt; clear hH
        refine ⟨ph, pt, [.str "error", .str x], [], rfl, rfl, .of (j9 _ _ t8), .of t9, by show 2 ≤ sizeLine; decide, fun h => (by cases h), fun _ _ => ?_, fun _ h => absurd rfl h⟩
        exact qD (.ref ph) C9 (g11.trans (Go.same j9)) (.tup (.inl (j9 _ _ t8)) (.cons (.str _) (.cons (.str _) .nil)))
end
section
variable {P : Program} {w : World} {K : PySem.W.Frag} {mg : Str → Option Value} {base : Heap} {G : List Addr} {L : List (Addr × Str)}
abbrev nBrk5 : List Str := ["_law_rules_here", "_law_state", "_law_found", "_law_k"]
theorem scBroken5 : FnScope nBrk5 ["_law_rules_here", "_law_state"] (defScope sBroken5) := C8.fnScope_by (by decide +kernel)
/-- the first broken clause's number, or None -/
def brkV : List Nat → V
  | [] => .non
  | j :: _ => .int (j : Nat)
def spBroken5 (K : PySem.W.Frag) (G : List Addr) (L : List (Addr × Str)) : Sp := fun vs H Q _ => ∃ (x sa : Addr) (ns : List Str) (cd : List PyData) (s : List Str), vs = [.ref x, .ref sa] ∧ RulesAt K H x ns cd ∧ (∀ d ∈ cd, ClD ns d) ∧ cd.length ≤ 100 ∧ (∀ y ∈ ns, PyData.strOk y = true) ∧ Tp H sa (s.map V.str) ∧ (∀ y ∈ s, PyData.strOk y = true) ∧
  ∀ H', Go G L H H' → Q (brkV (brokenFrom (s.map PyData.str) 0 cd)) H'
theorem ok_broken5 {f : Addr} {fd : FuncData} (F : Fun K "_law_broken" "_law_broken" sBroken5 f fd) (zR : mg "range" = none) (zL : mg "len" = none) (KE : Fd CX0 P w K mg base "_law_keeps" 1 (spKeeps K)) (FL : Fp P w K mg base "clauses" "_clauses") : FnOk P w K mg base CX0 3 f fd ["_law_rules_here", "_law_state"] (spBroken5 K G L) := by
  refine F.ok scBroken5 (fun vs H Q E h => ?_) (fun cdv A outer s H vs Q E hr h => ?_)
  · obtain ⟨x, sa, ns, cd, s, e, _⟩ := h
    rw [e]
    rfl
  · obtain ⟨x, sa, ns, cd, st, e, hR, hcl, hl, hno, hs, hso, q⟩ := h
    subst e
    refine ⟨_, pss_cons (ps_setLc (i := 2) (own := [("_law_k", 3)]) (g := gName 3) rfl scBroken5.nd rfl rfl (sw_true rfl rfl rfl rfl) (pi_range1 rfl zR (pa_cons (pe_callB (r := cLen K) c_len rfl zL boot_len (pa_cons (pe_fp FL hr (pv 0)) pa_nil)) pa_nil))
      (blkOk_by (own := [("_law_k", 3)]) (N := nBrk5) (sc := defScope sBroken5) (by decide +kernel)) (fun _ _ _ _ _ => pg_name (i := 3) scBroken5.nd rfl (.inl rfl))
      (fun _ _ _ _ _ => pts_one (pt_not (pt_val (pe_fd (E := E0) KE hr pass0 (pa_cons (pe_ix (r := rIxT K) (ta := tProp (cR K) (getSp (cR K) "_clauses") [] E0 (tVar 0)) ix_tup (pe_fp FL hr (pv 0)) (pv 3) (fun _ _ => rfl)) (pa_cons (pv 1) pa_nil)))))) (fun _ _ _ _ _ => pv 3))
      (pss_one (ps_ret (pe_ifExp (pt_cmpR (op_neD (u64 hr)) (pv 2) (pe_lst pa_nil) rfl) (pe_ix (r := rIxL K) ix_list (pv 2) pe_int (fun _ _ => rfl)) pe_non))), ?_⟩
    repeat walk_at "rd"
    refine lcR (n := cd.length) (H0 := H) (fun R z => r_cb (r_cons (r_pclauses (fun R z => ⟨_, rfl, z⟩) hR fun ac xs hac hxs => r_nil ⟨ac, xs, rfl, .inr hac.seq, (by rw [hxs.length]; exact z)⟩))) (by omega) (fun D2 j H' => Go G L H H' ∧ H' D2 = some (.lst (((List.range j).filter fun k => match cd[k]? with | some d => brk (st.map PyData.str) d | none => false).map fun (i : Nat) => V.int (i : Nat)))) ?_ ?_ ?_
    · intro D2 hD2
      exact ⟨Go.new hD2, upd_same⟩
    · rintro D2 j H' hD2 hj ⟨g', e2⟩
      obtain ⟨w', a', b', hd', hw', ha', hb'⟩ := hcl cd[j] (List.getElem_mem _)
      have hd2 : cd[j]? = some (.tuple [.str w', .str a', .str b']) := by rw [List.getElem?_eq_getElem hj, hd']
      refine r_gN ⟨rfl, ?_⟩
      repeat walk_at "rd"
      refine r_pclauses (fun R z => ⟨_, rfl, z⟩) (hR.kt g'.kt) fun ac xs hac hxs => ?_
      have hxl := hxs.length
      have hjx : j < xs.length := by omega
      obtain ⟨dy, hdy, hy⟩ := hxs.get (List.getElem?_eq_getElem hjx)
      obtain rfl : dy = .tuple [.str w', .str a', .str b'] := Option.some.inj (hdy.symm.trans hd2)
      repeat walk_at "rd"
      refine r_ixT hac.seq (atI_nat (List.getElem?_eq_getElem hjx)) ?_
      repeat walk_at "rd"
      refine ⟨.ref sa, _, st.map PyData.str, w', .str a', .str b', rfl, .tup (hs.kt g'.kt).seq (dps_strs _), hy.dp, lv_strs hso, lv_str (hno a' ha'), lv_str (hno b' hb'), ?_⟩
      repeat walk_at "rd"
      have er : (List.range (j + 1)).filter (fun k => match cd[k]? with | some d => brk (st.map PyData.str) d | none => false) = if brk (st.map PyData.str) (.tuple [.str w', .str a', .str b']) = true then (List.range j).filter (fun k => match cd[k]? with | some d => brk (st.map PyData.str) d | none => false) ++ [j] else (List.range j).filter (fun k => match cd[k]? with | some d => brk (st.map PyData.str) d | none => false) := by
        rw [List.range_succ, List.filter_append, List.filter_cons, List.filter_nil, hd2]
        by_cases cc : brk (st.map PyData.str) (.tuple [.str w', .str a', .str b']) = true
        · rw [if_pos cc, if_pos cc]
        · rw [if_neg cc, if_neg cc, List.append_nil]
      refine r_if (fun cc => ?_) (fun cc => ?_)
      · have c2 : brk (st.map PyData.str) (.tuple [.str w', .str a', .str b']) = true := cc
        repeat walk_at "rd"
        refine ⟨_, e2, ?_, g'.updNew hD2 e2, ?_⟩
        · rw [List.length_map]
          refine Nat.lt_of_le_of_lt (List.length_filter_le _ _) ?_
          rw [List.length_range, sizeLine_eq]
          omega
        · rw [upd_same, er, if_pos c2, List.map_append]
          rfl
      · have c2 : brk (st.map PyData.str) (.tuple [.str w', .str a', .str b']) = false := cc
        exact ⟨g', by rw [er, if_neg (by rw [c2]; decide)]; exact e2⟩
    · rintro D2 H' hD2 ⟨g', e2⟩
      have eb : ((List.range cd.length).filter fun k => match cd[k]? with | some d => brk (st.map PyData.str) d | none => false) = brokenFrom (st.map PyData.str) 0 cd := by
        have e0 : ∀ l : List Nat, l.map (fun x => 0 + x) = l := fun l => by simp
        rw [broken_range]
        exact (e0 _).symm
      rw [eb] at e2
      generalize hbl : brokenFrom (st.map PyData.str) 0 cd = bl at e2 q
      have hbn : bl.length ≤ 100 := by
        rw [← hbl]
        exact Nat.le_trans (broken_len _ _ _) hl
      repeat walk_at "rd"
      refine ⟨Nat.zero_le _, fun p3 hp3 => ?_⟩
      generalize hH : upd H' p3 _ = H3; obtain ⟨k3, e3⟩ := new_facts hH hp3; clear hH
      have hints : Ims H3 (bl.map fun (i : Nat) => V.int (i : Nat)) (bl.map fun i => PyData.int (i : Nat)) := ims_ints bl
      refine r_neD (d := .list (bl.map fun i => PyData.int (i : Nat))) (e := .list []) (.lst (.of (k3 _ _ e2)) hints.dp) (.lst (.of e3) .nil) ?_ (by decide) ?_
      · refine lv_lst fun d hd => ?_
        obtain ⟨i, _, rfl⟩ := List.mem_map.mp hd
        rfl
      rw [eqv_nilL]
      have gF : Go G L H H3 := g'.trans (Go.same k3)
      cases bl with
      | nil =>
        repeat walk_at "rd"
        exact q H3 gF
      | cons j rest =>
        have en : decide ((j :: rest).map (fun i => PyData.int (i : Nat)) = []) = false := decide_eq_false (by simp)
        rw [en]
        repeat walk_at "rd"
        refine r_ixL (.of (k3 _ _ e2)) (atI_nat (j := 0) rfl) ?_
        exact q H3 gF
end
abbrev sErr5 (i : Nat) : Stmt := inClass (top5 i) 0
section
variable {P : Program} {w : World} {K : PySem.W.Frag} {mg : Str → Option Value} {base : Heap} {G : List Addr} {L : List (Addr × Str)}
theorem num_len : ∀ k < 100, (Str.ofString (toString ((k : Nat) : Int))).length ≤ 2 := by decide +kernel
theorem j_fmtJ {σ : L2.St} {H : Hp} {i k : Nat} {acc : Str} {ts : List TE} {Q : Str → Hp → Prop} (hv : σ[i]? = some (some (.int (k : Nat)))) (hk : k ≤ 99) (ha : acc.length ≤ 500) (q : ∀ out : Str, out.length ≤ acc.length + 2 → tJs ts out σ H Q) : tJs (tFmt (tVar i) :: ts) acc σ H Q := by
  obtain ⟨h1, h2⟩ := num_small k hk
  have h4 := num_len k (by omega)
  have h3 : (acc ++ Str.ofString (toString ((k : Nat) : Int))).length ≤ acc.length + 2 := by rw [len_app]; omega
  exact ⟨.int (k : Nat), hv, .inr ⟨_, rfl, h2, _, rfl, Nat.le_trans h3 (by rw [sizeLine_eq]; omega), q _ h3⟩⟩
theorem scUS : FnScope ["self", "name"] ["self", "name"] (defScope (sErr5 iUS)) := C8.fnScope_by (by decide +kernel)
theorem scST : FnScope ["self", "index", "clause"] ["self", "index", "clause"] (defScope (sErr5 iST)) := C8.fnScope_by (by decide +kernel)
def spUS (K : PySem.W.Frag) (C : Addr) : Sp := fun vs H Q _ => ∃ a v, vs = [.ref a, v] ∧ H a = some (exo a C none) ∧
  ∀ d, H d = none → d ≠ a → Q .non (upd (upd H d (exd d [("name", v)])) a (exo a C (some d)))
def spST (K : PySem.W.Frag) (C : Addr) : Sp := fun vs H Q _ => ∃ a, ∃ i j : Nat, vs = [.ref a, .int (i : Nat), .int (j : Nat)] ∧ H a = some (exo a C none) ∧ i ≤ 99 ∧ j ≤ 99 ∧
  ∀ d, H d = none → d ≠ a → Q .non (upd (upd (upd H d (exd d [("index", .int (i : Nat))])) a (exo a C (some d))) d (exd d [("clause", .int (j : Nat)), ("index", .int (i : Nat))]))
theorem ok_US {f C S : Addr} {fd : FuncData} (F : Fun K "__init__" "UnknownSwitch.__init__" (sErr5 iUS) f fd) (B : BaseC K mg S) (T : OexC K C) (n2 : PySem.W.findIn K (.ref C) "name" = some none) : FnOk P w K mg base CX0 1 f fd ["self", "name"] (spUS K C) := by
  refine F.ok scUS (fun vs H Q E h => ?_) (fun cdv A outer s H vs Q E hr h => ?_)
  · obtain ⟨a, i, e, _⟩ := h
    rw [e]
    rfl
  · obtain ⟨a, v, e, ha, q⟩ := h
    subst e
    refine ⟨_, pss_cons (ps_expr (pe_baseinit rfl B.g B.rd B.fv (pa_cons (pv 0) (pa_cons pe_str pa_nil))))
      (pss_one (ps_ost (pv 0) (pv 1))), ?_⟩
    refine r_seq (r_drop (r_cons (r_var (v := .ref a) rfl (r_cons (r_c (r_nil ?_))))))
    refine ⟨a, C, [_], rfl, (by show 1 ≤ 1000; decide), T, ha, ?_⟩
    repeat walk_at "rd"
    exact r_ostV (y := v) (a := a) rfl rfl T n2 (.inl ⟨ha, fun d hd hne => q d hd hne⟩)
theorem ok_ST {f C S : Addr} {fd : FuncData} (F : Fun K "__init__" "IllegalStep.__init__" (sErr5 iST) f fd) (B : BaseC K mg S) (T : OexC K C) (n1 : PySem.W.findIn K (.ref C) "index" = some none) (n2 : PySem.W.findIn K (.ref C) "clause" = some none) : FnOk P w K mg base CX0 1 f fd ["self", "index", "clause"] (spST K C) := by
  refine F.ok scST (fun vs H Q E h => ?_) (fun cdv A outer s H vs Q E hr h => ?_)
  · obtain ⟨a, i, j, e, _⟩ := h
    rw [e]
    rfl
  · obtain ⟨a, i, j, e, ha, hi, hj, q⟩ := h
    subst e
    refine ⟨_, pss_cons (ps_expr (pe_baseinit rfl B.g B.rd B.fv (pa_cons (pv 0) (pa_cons (pe_joined (.cons pe_str (.cons (pe_fmt (pv 1)) (.cons pe_str (.cons (pe_fmt (pv 2)) .nil))))) pa_nil))))
      (pss_cons (ps_ost (pv 0) (pv 1)) (pss_one (ps_ost (pv 0) (pv 2)))), ?_⟩
    refine r_seq (r_drop (r_cons (r_var (v := .ref a) rfl (r_cons ?_))))
    refine j_str (by decide) (j_fmtJ (k := i) rfl hi (by decide) fun out ho => ?_)
    have ho' : out.length ≤ 100 := Nat.le_trans ho (by decide)
    have ho2 : (out ++ (" breaks clause " : Str)).length ≤ 200 := by
      rw [len_app, show ((" breaks clause " : Str)).length = 15 from by decide +kernel]
      omega
    refine j_str (Nat.le_trans ho2 (by rw [sizeLine_eq]; decide)) (j_fmtJ (k := j) rfl hj (Nat.le_trans ho2 (by decide)) fun out2 _ => ?_)
    refine j_nil (r_nil ?_)
    refine ⟨a, C, [.str out2], rfl, (by show 1 ≤ 1000; decide), T, ha, ?_⟩
    repeat walk_at "rd"
    refine r_ostV (y := .int (i : Nat)) (a := a) rfl rfl T n1 (.inl ⟨ha, fun d hd hne => ?_⟩)
    exact r_ostV (y := .int (j : Nat)) (a := a) rfl rfl T n2 (.inr ⟨d, _, upd_same, by rw [upd_ne hne, upd_same], (by show 1 ≤ 900; decide), q d hd hne⟩)
end
section
variable {P : Program} {w : World} {K : PySem.W.Frag} {mg : Str → Option Value} {base : Heap} {G : List Addr} {L : List (Addr × Str)}
theorem mkUS_fin {x : Str} {Q : XK} {u : V} {H1 : Hp} (h : ∀ d Hx, (∀ b o, H1 b = some o → Hx b = some o) → Hx d = some (.xd [("name", u)]) → Q (.ref (He.ga K x)) (some d) Hx) :
    [u].length ≤ 1000 ∧ ∀ a, H1 a = none → spUS K (He.ga K x) (.ref a :: ([u] ++ [])) (upd H1 a (exo a (He.ga K x) none))
      (fun v H2 => v = .non ∧ ∃ (d : Addr) (fs : List (Str × V)), H2 a = some (exo a (He.ga K x) (some d)) ∧ H2 d = some (exd d fs) ∧ H1 d = none ∧ Q (.ref (He.ga K x)) (some d) (upd (del H2 a) d (.xd fs))) (fun _ _ _ => False) := by
  refine ⟨(by show 1 ≤ 1000; decide), fun a ha => ⟨a, u, rfl, upd_same, fun d hd hne => ?_⟩⟩
  have hd' : H1 d = none := by
    rw [upd_ne hne] at hd
    exact hd
  refine ⟨rfl, d, _, upd_same, by rw [upd_ne hne, upd_same], hd', h d _ ?_ upd_same⟩
  intro b o e
  have nd := ne_of_none e hd'
  have na := ne_of_none e ha
  rw [upd_ne nd, del_ne na, upd_ne na, upd_ne nd, upd_ne na]
  exact e
theorem mkST_fin {x : Str} {Q : XK} {i j : Nat} {H1 : Hp} (hi : i ≤ 99) (hj : j ≤ 99) (h : ∀ d Hx, (∀ b o, H1 b = some o → Hx b = some o) → Hx d = some (.xd [("clause", .int (j : Nat)), ("index", .int (i : Nat))]) → Q (.ref (He.ga K x)) (some d) Hx) :
    [V.int (i : Nat), V.int (j : Nat)].length ≤ 1000 ∧ ∀ a, H1 a = none → spST K (He.ga K x) (.ref a :: ([V.int (i : Nat), V.int (j : Nat)] ++ [])) (upd H1 a (exo a (He.ga K x) none))
      (fun v H2 => v = .non ∧ ∃ (d : Addr) (fs : List (Str × V)), H2 a = some (exo a (He.ga K x) (some d)) ∧ H2 d = some (exd d fs) ∧ H1 d = none ∧ Q (.ref (He.ga K x)) (some d) (upd (del H2 a) d (.xd fs))) (fun _ _ _ => False) := by
  refine ⟨(by show 2 ≤ 1000; decide), fun a ha => ⟨a, i, j, rfl, upd_same, hi, hj, fun d hd hne => ?_⟩⟩
  have hd' : H1 d = none := by
    rw [upd_ne hne] at hd
    exact hd
  refine ⟨rfl, d, _, ?_, upd_same, hd', h d _ ?_ upd_same⟩
  · rw [upd_ne hne.symm, upd_same]
  · intro b o e
    have nd := ne_of_none e hd'
    have na := ne_of_none e ha
    rw [upd_ne nd, del_ne na, upd_ne nd, upd_ne na, upd_ne nd, upd_ne na]
    exact e
theorem scChkSwitch : FnScope ["names", "name"] ["names", "name"] (defScope sChkSwitch) := C8.fnScope_by (by decide +kernel)
def spChkSwitch (K : PySem.W.Frag) (G : List Addr) (L : List (Addr × Str)) : Sp := fun vs H Q E => ∃ (an : Addr) (v : V) (ns : List Str) (d : PyData), vs = [.ref an, v] ∧ Tp H an (ns.map V.str) ∧ Dp K H v d ∧ lv 8 d = true ∧ (∀ z ∈ ns, PyData.strOk z = true) ∧
  (inD d (ns.map PyData.str) = false → ∀ dd H', (∀ b o, H b = some o → H' b = some o) → H' dd = some (.xd [("name", v)]) → E (.ref (He.ga K "UnknownSwitch")) (some dd) H') ∧ (∀ z, d = .str z → z ∈ ns → Q .non H)
theorem ok_chkSwitch {f : Addr} {fd : FuncData} (F : Fun K "check_switch" "check_switch" sChkSwitch f fd) (T : Err P w K mg base "UnknownSwitch" (spUS K (He.ga K "UnknownSwitch"))) : FnOk P w K mg base (L2.CX P w) 3 f fd ["names", "name"] (spChkSwitch K G L) := by
  refine F.okX scChkSwitch (fun vs H Q E h => ?_) (fun cdv A outer s H vs Q E hr h => ?_)
  · obtain ⟨an, v, ns, d, e, _⟩ := h
    rw [e]
    rfl
  · obtain ⟨an, v, ns, d, e, hn, hd, l8, hok, qE, q⟩ := h
    subst e
    refine ⟨_, pss_one (ps_if (pt_cmpR (op_notInT (u65 hr)) (pv 1) (pv 0) rfl) (pss_one (ps_raise rfl (takes_of rfl rfl rfl rfl) (pmk_err T hr (pa_cons (pv 1) pa_nil)))) pss_nil), ?_⟩
    repeat walk_at "rd"
    refine r_ninT (ds := ns.map PyData.str) hd (.tup hn.seq (dps_strs ns)) l8 (lv_strs hok) ?_
    repeat walk_at "rd"
    refine r_if (fun c => ?_) (fun c => ?_)
    · have c' : inD d (ns.map PyData.str) = false := by simpa using c
      repeat walk_at "rd"
      refine r_mk ?_
      repeat walk_at "rd"
      exact mkUS_fin fun dd Hx k hx => qE c' dd Hx k hx
    · have c' : inD d (ns.map PyData.str) = true := by simpa using c
      obtain ⟨z, hz, hm⟩ := inD_str c'
      exact q z hz hm
abbrev nSw : List Str := ["names", "state", "changes", "name"]
theorem scSwitched : FnScope nSw ["names", "state", "changes"] (defScope sSwitched) := C8.fnScope_by (by decide +kernel)
def spSwitched (K : PySem.W.Frag) (G : List Addr) (L : List (Addr × Str)) : Sp := fun vs H Q _ => ∃ (an sa ca : Addr) (ns s cs : List Str), vs = [.ref an, .ref sa, .ref ca] ∧ Tp H an (ns.map V.str) ∧ Tp H sa (s.map V.str) ∧ Tp H ca (cs.map V.str) ∧ ns.length ≤ 60 ∧ (∀ y ∈ ns, PyData.strOk y = true) ∧ (∀ y ∈ s, PyData.strOk y = true) ∧ (∀ y ∈ cs, PyData.strOk y = true) ∧
  ∀ T H', Go G L H H' → NT H' T ((ns.filter fun o => decide (o ∈ s) != decide (o ∈ cs)).map V.str) → Q (.ref T) H'
theorem ok_switched {f : Addr} {fd : FuncData} (F : Fun K "switched" "switched" sSwitched f fd) (zT : mg "tuple" = none) : FnOk P w K mg base CX0 1 f fd ["names", "state", "changes"] (spSwitched K G L) := by
  refine F.ok scSwitched (fun vs H Q E h => ?_) (fun cdv A outer s H vs Q E hr h => ?_)
  · obtain ⟨an, sa, ca, ns, s, cs, e, _⟩ := h
    rw [e]
    rfl
  · obtain ⟨an, sa, ca, ns, st, cs, e, hn, hs, hc, hl, hno, hso, hco, q⟩ := h
    subst e
    refine ⟨_, pss_one (ps_ret (pe_callTy c_tup rfl zT (by decide +kernel) (pa_cons (pe_lc (own := [("name", 3)]) (g := gName 3) rfl scSwitched.nd (pi_tup (pv 0))
      (blkOk_by (own := [("name", 3)]) (N := nSw) (sc := defScope sSwitched) (by decide +kernel)) (fun _ _ _ _ _ => pg_name (i := 3) scSwitched.nd rfl (.inl rfl))
      (fun _ _ _ _ _ => pts_one (pt_cmpR op_ne (pe_cmpR (r := rInT K id) (op_inT (u65 hr)) (pv 3) (pv 1) rfl) (pe_cmpR (r := rInT K id) (op_inT (u65 hr)) (pv 3) (pv 2) rfl) rfl)) (fun _ _ _ _ _ => pv 3)) pa_nil))), ?_⟩
    repeat walk_at "rd"
    refine lcT (a := an) (xs := ns.map V.str) (fun R z => ⟨_, rfl, z⟩) hn.seq (fun D j H2 => Go G L H H2 ∧ H2 D = some (.lst (((ns.take j).filter fun o => decide (o ∈ st) != decide (o ∈ cs)).map V.str))) ?_ ?_ ?_ ?_
    · intro D hD
      exact ⟨Go.new hD, upd_same⟩
    · rintro D j H2 hD _ ⟨g2, _⟩
      exact (hn.kt g2.kt).seq
    · rintro D j y H2 hD hy ⟨g2, eD⟩
      rw [List.getElem?_map] at hy
      cases hz : ns[j]? with
      | none => rw [hz] at hy; cases hy
      | some o =>
        rw [hz] at hy
        obtain rfl : y = .str o := (Option.some.inj hy).symm
        have hom := List.mem_of_getElem? hz
        refine r_gN ⟨rfl, ?_⟩
        repeat walk_at "rd"
        refine ⟨.str o, st.map PyData.str, .str o, .tup (hs.kt g2.kt).seq (dps_strs _), shaped_of (n := 1) (d := .str o) (hno o hom), shaped_of (n := 2) (lv_strs hso), ?_⟩
        rw [in_strs]
        repeat walk_at "rd"
        refine ⟨.str o, cs.map PyData.str, .str o, .tup (hc.kt g2.kt).seq (dps_strs _), shaped_of (n := 1) (d := .str o) (hno o hom), shaped_of (n := 2) (lv_strs hco), ?_⟩
        rw [in_strs]
        refine r_ne rfl ?_
        have ec : (!decide (V.bl (id (decide (o ∈ st))) = V.bl (id (decide (o ∈ cs))))) = (decide (o ∈ st) != decide (o ∈ cs)) := by
          cases decide (o ∈ st) <;> cases decide (o ∈ cs) <;> rfl
        rw [ec]
        repeat walk_at "rd"
        have hyl : ((ns.take j).filter fun o => decide (o ∈ st) != decide (o ∈ cs)).length ≤ 60 := by
          refine Nat.le_trans (List.length_filter_le _ _) ?_
          rw [List.length_take]
          omega
        refine r_if (fun cc => ?_) (fun cc => ?_)
        · repeat walk_at "rd"
          refine ⟨_, eD, by rw [List.length_map, sizeLine_eq]; omega, g2.updNew hD eD, ?_⟩
          rw [upd_same, filter_take hz, if_pos cc, List.map_append]
          rfl
        · exact ⟨g2, by rw [filter_take hz, cc, if_neg Bool.false_ne_true]; exact eD⟩
    · rintro D H2 hD ⟨g2, eD⟩
      rw [List.length_map, List.take_length] at eD
      repeat walk_at "rd"
      refine r_tupL2 eD fun T H3 k3 hT => ?_
      exact q T H3 (g2.trans (Go.same k3)) hT
end
theorem r_gp {t : TS} {D : GEnds} {ys : List V} {σ : L2.St} {H : Hp} (h : t (D.at ys) σ H) : tPlain t D ys σ H := h
theorem gforE {K : PySem.W.Frag} {ta : TE} {g : TG} {tb : TGn} {D : GEnds} {ys : List V} {σ : L2.St} {H : Hp} (good : Addr → List V → Hp → Prop) (he : ∀ R : VK, (∀ a xs H0, good a xs H0 → SqL K H0 a xs → R (.ref a) H0) → ta σ H R)
    (body : ∀ a xs H0, good a xs H0 → SqL K H0 a xs ∧ ∃ Pv : Nat → List V → L2.St → Hp → Prop, Pv 0 ys σ H0 ∧ (∀ i ys σ H, i ≤ xs.length → Pv i ys σ H → SqL K H a xs) ∧
      (∀ i x T ys σ H, xs[i]? = some x → H T = none → Pv i ys σ H → g (.ref T) σ (upd H T (.tup [.int (i : Nat), x])) fun σ2 H2 => tb { D with nx := Pv (i + 1), ct := Pv (i + 1), bk := D.nx } ys σ2 H2) ∧ (∀ ys σ H, Pv xs.length ys σ H → D.nx ys σ H)) : tGFor (iEnum K (tCons ta tNil)) g tb D ys σ H := by
  refine he _ fun a xs H0 hg hq => ?_
  obtain ⟨_, Pv, h0, hG, hs, hd⟩ := body a xs H0 hg
  refine ⟨a, xs, rfl, hq, gfor_it walk_enum Pv h0 hG ?_ hd⟩
  rintro i x ys σ H1 H2 hi p ⟨T, x1, y, ev, hT, eH, e1, e2⟩
  cases e1
  rw [ev, eH]
  exact hs i y T ys σ H1 e2 hT p
section
variable {P : Program} {w : World} {K : PySem.W.Frag} {mg : Str → Option Value} {base : Heap} {G : List Addr} {L : List (Addr × Str)}
theorem swD_sub (ns s : List Str) (z : Str) : (swD ns s z).Sublist ns := List.filter_sublist
/-- the states up to the first error, and what it tells -/
def wayS (ns : List Str) (cd : List PyData) : List Str → List PyData → List (List Str)
  | _, [] => []
  | s, .str z :: ds => if z ∈ ns then (match brokenFrom ((swD ns s z).map PyData.str) 0 cd with
    | [] => swD ns s z :: wayS ns cd (swD ns s z) ds
    | _ => []) else []
  | _, _ => []
abbrev nOw : List Str := ["rules", "start", "way", "state", "index", "name", "broken"]
theorem gscOnWay : GScope nOw ["rules", "start", "way"] (defScope sOnWay) := ⟨rfl, rfl, rfl, by decide +kernel, rfl, by decide +kernel, by decide +kernel⟩
def spOnWay (K : PySem.W.Frag) (G : List Addr) (L : List (Addr × Str)) : SpG := fun vs H Q E => ∃ (x wa : Addr) (v : V) (b : Bool) (ns : List Str) (cd : List PyData) (d : PyData) (xs : List V) (ds : List PyData), vs = [.ref x, v, .ref wa] ∧ RulesAt K H x ns cd ∧ OkR ns cd ∧ ns.length ≤ 10 ∧ Dp K H v d ∧ lv 7 d = true ∧ (∀ sd, d = .tuple sd → sd.length ≤ 60) ∧
  Sq2 H b wa xs ∧ Ims H xs ds ∧ (∀ d ∈ ds, lv 7 d = true) ∧ ds.length ≤ 99 ∧
  (∀ i, stateBad ns d = some i → ∀ cls dd H', Go G L H H' → Told K cls dd H' (invD i) → E cls dd H') ∧
  (∀ sd, d = .tuple sd → stateBad ns d = none → ∀ j rest, brokenFrom sd 0 cd = j :: rest → ∀ cls dd H', Go G L H H' → Told K cls dd H' (illD j) → E cls dd H') ∧
  (∀ sd, d = .tuple sd → stateBad ns d = none → brokenFrom sd 0 cd = [] → ∃ S s, v = .ref S ∧ sd = s.map PyData.str ∧ Tp H S (s.map V.str) ∧ s.Sublist ns ∧
    (∀ D, wayE ns cd 0 s ds = some D → ∀ cls dd H', Go G L H H' → Told K cls dd H' D → E cls dd H') ∧ (wayE ns cd 0 s ds = none → ∀ ys H', Go G L H H' → StsAt H' ys (wayS ns cd s ds) → Q ys H'))
theorem ok_onWay {f : Addr} {fd : FuncData} (F : Fun K "states_on_way" "states_on_way" sOnWay f fd) (zE : mg "enumerate" = none) (zl : mg "list" = none) (CL : Fd (L2.CX P w) P w K mg base "check_legal" 5 (spChkLegal K G L)) (CS : Fd (L2.CX P w) P w K mg base "check_switch" 3 (spChkSwitch K G L)) (SW : Fd CX0 P w K mg base "switched" 1 (spSwitched K G L))
    (BR : Fm P w K mg base "broken_clauses" 4 (spBroken K G L)) (FN : Fp P w K mg base "names" "_names") (T : Err P w K mg base "IllegalStep" (spST K (He.ga K "IllegalStep"))) : GFn P w K mg base 7 f fd ["rules", "start", "way"] (spOnWay K G L) := by
  obtain ⟨oc, od, kV, doc, pm, an, cdv, ct, osl, efd, lk, hcd⟩ := F.ex
  subst efd
  refine gfn_of (k := 6) lk hcd gscOnWay (fun vs H Q E h => ?_) (fun A outer s H vs Q E pn hr h => ?_)
  · obtain ⟨x, wa, v, b, ns, cd, d, xs, ds, e, _⟩ := h
    rw [e]
    rfl
  · obtain ⟨x, wa, v, b, ns, cd, d, xs, ds, e, hR, ok, hlen, hd, l7, hd60, hwa, hxs, hds, hdl, qB, qI, q⟩ := h
    subst e
    refine ⟨_, gss_cons (gs_ps (ps_expr (pe_fd (E := E) CL hr (passes_call takes_gcx fun _ _ _ _ z => z) (pa_cons (pv 0) (pa_cons (pv 1) pa_nil)))))
      (gss_cons (gs_ps (ps_set (i := 3) gscOnWay.nd rfl (Or.inl rfl) (pv 1)))
      (gss_cons (gs_for (passes_of rfl) rfl (pi_enum rfl zE (pa_cons (pe_callTy c_list rfl zl (by decide +kernel) (pa_cons (pv 2) pa_nil)) pa_nil)) (pg_tup rfl (pgs_cons (pg_name (i := 4) gscOnWay.nd rfl (.inl rfl)) (pgs_cons (pg_name (i := 5) gscOnWay.nd rfl (.inl rfl)) pgs_nil)))
        (gss_cons (gs_ps (ps_expr (pe_fd (E := E) CS hr (passes_call takes_gcx fun _ _ _ _ z => z) (pa_cons (pe_fp FN hr (pv 0)) (pa_cons (pv 5) pa_nil)))))
        (gss_cons (gs_ps (ps_set (i := 3) gscOnWay.nd rfl (Or.inl rfl) (pe_fd (E := E0) SW hr pass0 (pa_cons (pe_fp FN hr (pv 0)) (pa_cons (pv 3) (pa_cons (pe_tup (pa_cons (pv 5) pa_nil)) pa_nil))))))
        (gss_cons (gs_ps (ps_set (i := 6) gscOnWay.nd rfl (Or.inl rfl) (pe_fm (E := E) BR hr (pv 0) (passes_call takes_gcx fun _ _ _ _ z => z) (pa_cons (pv 3) pa_nil))))
        (gss_cons (gs_ps (ps_if (pt_truth (pv 6) (by intro _; rfl)) (pss_one (ps_raise rfl takes_gcx (pmk_err T hr (pa_cons (pv 4) (pa_cons (pe_ix ix_list (pv 6) pe_int (fun _ _ => rfl)) pa_nil))))) pss_nil))
        (gss_cons (gs_yield (pv 3)) gss_nil)))))) gss_nil)), ?_⟩
    refine r_gthen (r_gp ?_)
    repeat walk_at "rd"
    refine ⟨x, v, ns, cd, d, rfl, hR, ok, hd, l7, hd60, qB, qI, fun sd ed hb hbr H1 g1 => ?_⟩
    obtain ⟨S0, s0, rfl, rfl, hS0, hsub0, qE, qN⟩ := q sd ed hb hbr
    dsimp only [GEnds.at]
    refine r_gthen (r_gp ?_)
    repeat walk_at "rd"
    dsimp only [GEnds.at]
    refine r_gthen (gforE (fun a zs H0 => Go G L H H0 ∧ H0 a = some (.lst zs) ∧ Ims H0 zs ds) (fun R z => ?_) ?_)
    · repeat walk_at "rd"
      refine ⟨wa, xs, rfl, (hwa.go g1).any, fun l hl => ?_⟩
      generalize hH : upd H1 l _ = H2; obtain ⟨k2, e2⟩ := new_facts hH hl; clear hH
      have g2 : Go G L H H2 := g1.trans (Go.same k2)
      exact z l xs H2 ⟨g2, e2, hxs.kt g2.kt⟩ (.of e2)
    · rintro a zs H0 ⟨g0, ha, hzs⟩
      have hzl : zs.length = ds.length := hzs.length
      refine ⟨.of ha, fun i ys σ H' => ∃ (S : Addr) (s : List Str) (x4 x5 x6 : Option V) (done : List (List Str)), σ = [some (.ref x), some (.ref S0), some (.ref wa), some (.ref S), x4, x5, x6] ∧ Go G L H0 H' ∧ Tp H' S (s.map V.str) ∧ s.Sublist ns ∧ StsAt H' ys done ∧ done.length = i ∧
        wayS ns cd s0 ds = done ++ wayS ns cd s (ds.drop i) ∧ wayE ns cd 0 s0 ds = wayE ns cd i s (ds.drop i), ?_, ?_, ?_, ?_⟩
      · exact ⟨S0, s0, none, none, none, [], rfl, Go.refl H0, hS0.kt g0.kt, hsub0, .nil, rfl, rfl, rfl⟩
      · rintro i ys σ H' _ ⟨S, s, x4, x5, x6, done, rfl, g, _⟩
        exact .of (g.lst ha)
      · rintro i y T2 ys σ H' ey hT2 ⟨S, s, x4, x5, x6, done, rfl, g, hS, hsub, hys, hdn, eS, eE⟩
        obtain ⟨dy, hdy, hy⟩ := hzs.get ey
        have hil := (List.getElem?_eq_some_iff.mp hdy).1
        have hdrop : ds.drop i = dy :: ds.drop (i + 1) := by
          obtain ⟨hl1, e1⟩ := List.getElem?_eq_some_iff.mp hdy
          rw [← e1]
          exact List.drop_eq_getElem_cons hl1
        rw [hdrop] at eS eE
        have hdm := List.mem_of_getElem? hdy
        refine r_pair (.of upd_same) ?_
        generalize hH : upd H' T2 _ = H2; obtain ⟨k2, e2⟩ := new_facts hH hT2; clear hH
        have g02 : Go G L H0 H2 := g.trans (Go.same k2)
        have gH2 := g0.trans g02
        have hR2 := hR.kt gH2.kt
        have hy2 := hy.kt g02.kt
        have hS2 := hS.kt (kp_kt k2)
        have hys2 := hys.kt (kp_kt k2)
        clear hS hys hdrop e2 k2 g
        dsimp only
        refine r_gthen (r_gp ?_)
        repeat walk_at "rd"
        refine r_pnames (fun R z => ⟨_, rfl, z⟩) hR2 fun an han => ?_
        repeat walk_at "rd"
        refine ⟨an, y, ns, dy, rfl, han.tp, hy2.dp, lv_up (n := 7) (hds dy hdm) (by decide), ok.gs.1, fun hno dd Hx k hx => ?_, fun z ez hz => ?_⟩
        · refine qE (.tuple [.str "switch", dy]) ?_ _ _ Hx (gH2.trans (Go.same k)) (.switch hx (hy2.kt (kp_kt k)))
          rw [eE]
          cases dy with
          | str z =>
            have hz : ¬ z ∈ ns := by
              rw [inD_strs] at hno
              exact of_decide_eq_false hno
            show (if z ∈ ns then _ else _) = _
            rw [if_neg hz]
          | _ => rfl
        · subst ez
          cases hy2
          dsimp only [GEnds.at]
          refine r_gthen (r_gp ?_)
          repeat walk_at "rd"
          refine r_pnames (fun R z => ⟨_, rfl, z⟩) hR2 fun an2 han2 => ?_
          repeat walk_at "rd"
          refine ⟨by show 1 ≤ sizeLine; decide, fun p3 hp3 => ?_⟩
          generalize hH : upd H2 p3 _ = H3; obtain ⟨k3, e3⟩ := new_facts hH hp3; clear hH
          repeat walk_at "rd"
          have hsok : ∀ y ∈ s, PyData.strOk y = true := fun y hy => ok.gs.1 y (hsub.subset hy)
          refine ⟨an2, S, p3, ns, s, [z], rfl, han2.tp.kt (kp_kt k3), hS2.kt (kp_kt k3), .inl e3, by omega, ok.gs.1, hsok, fun y hy => (by rw [List.mem_singleton.mp hy]; exact ok.gs.1 z hz), fun S4 H4 g4 hS4 => ?_⟩
          have g24 : Go G L H2 H4 := (Go.same k3).trans g4
          have gH4 := gH2.trans g24
          have hR4 := hR.kt gH4.kt
          have hys4 := hys2.kt g24.kt
          have hsub4 : (swD ns s z).Sublist ns := swD_sub ns s z
          have hS4' : NT H4 S4 ((swD ns s z).map V.str) := hS4
          dsimp only [GEnds.at]
          refine r_gthen (r_gp ?_)
          repeat walk_at "rd"
          refine r_fm (x := x) (fun R z => ⟨_, rfl, z⟩) hR4 (fun _ _ => rfl) ?_
          repeat walk_at "rd"
          obtain ⟨l7', hl60'⟩ := strs_lv ok.gs hsub4
          refine ⟨x, .ref S4, ns, cd, .tuple ((swD ns s z).map PyData.str), rfl, hR4, ok, .tup hS4'.seq (dps_strs _), l7', hl60', fun k hk => (by rw [st_none hsub4] at hk; cases hk), fun sd ed _ H5 l5 _ g5 hl5 => ?_⟩
          cases ed
          have gH5 := gH4.trans g5
          dsimp only [GEnds.at]
          refine r_gthen (r_gp ?_)
          repeat walk_at "rd"
          refine ⟨_, .inl ⟨_, .of hl5, rfl⟩, ?_⟩
          cases hbr5 : brokenFrom ((swD ns s z).map PyData.str) 0 cd with
          | nil =>
            rw [hbr5] at hl5
            repeat walk_at "rd"
            dsimp only [GEnds.at]
            have hys5 := hys4.kt g5.kt
            have hyl : ys.length = i := by
              have z := hys5.len
              rw [hdn] at z
              exact z
            refine r_gthen (r_gy (by rw [sizeLine_eq]; omega) ?_)
            repeat walk_at "rd"
            have hS5 := hS4'.tp.kt g5.kt
            refine r_g0 ⟨S4, swD ns s z, _, _, _, done ++ [swD ns s z], rfl, g02.trans (g24.trans g5), hS5, hsub4, StsAt.snoc hys5 hS5, by rw [List.length_append, hdn]; rfl, ?_, ?_⟩
            · rw [eS]
              show done ++ (if z ∈ ns then _ else _) = _
              rw [if_pos hz, hbr5, List.append_assoc]
              rfl
            · rw [eE]
              show (if z ∈ ns then _ else _) = _
              rw [if_pos hz, hbr5]
          | cons j rest =>
            rw [hbr5] at hl5
            rw [if_pos (by rfl)]
            repeat walk_at "rd"
            refine r_mk ?_
            repeat walk_at "rd"
            refine r_ixL (i := 0) (.of hl5) (v := .int (j : Nat)) (atI_nat (j := 0) rfl) ?_
            repeat walk_at "rd"
            have hj := broken_lt ((swD ns s z).map PyData.str) cd 0 j (by rw [hbr5]; exact List.mem_cons_self)
            have hcl := ok.cl
            refine mkST_fin (by omega) (by omega) fun dd Hx k hx => ?_
            refine qE (.tuple [.str "step", .int (i : Nat), .int (j : Nat)]) ?_ _ _ Hx (gH5.trans (Go.same k)) (.step hx)
            rw [eE]
            show (if z ∈ ns then _ else _) = _
            rw [if_pos hz, hbr5]
      · rintro ys σ H' ⟨S, s, x4, x5, x6, done, rfl, g, hS, hsub, hys, hdn, eS, eE⟩
        rw [hzl, List.drop_length] at eS eE
        have eS' : wayS ns cd s0 ds = done := by
          rw [eS]
          cases s <;> simp [wayS]
        refine r_g0 (qN ?_ ys H' (g0.trans g) (by rw [eS']; exact hys))
        rw [eE]
        rfl
end
/-- one of these errors -/
def EOf (K : PySem.W.Frag) (ks : List Str) (E : XK) : XK := fun cls d H => (∃ x, x ∈ ks ∧ cls = .ref (He.ga K x)) ∧ E cls d H
/-- none of these is a StopIteration -/
def NoSt (K : PySem.W.Frag) (ks : List Str) : Prop := ∀ x ∈ ks, PySem.W.subIn K (.ref (He.ga K x)) (.type "StopIteration") = some false
theorem NoSt.stop {K : PySem.W.Frag} {ks : List Str} (h : NoSt K ks) (E : XK) : NoStop K (EOf K ks E) := fun cls d H z => by
  obtain ⟨⟨x, hx, rfl⟩, _⟩ := z
  exact h x hx
section
variable {P : Program} {w : World} {K : PySem.W.Frag} {mg : Str → Option Value} {base : Heap} {G : List Addr} {L : List (Addr × Str)}
def diffB (ss cs : List PyData) (o : Str) : Bool := inD (.str o) ss != inD (.str o) cs
abbrev nDf : List Str := ["names", "state", "other", "name"]
theorem scDiffering : FnScope nDf ["names", "state", "other"] (defScope sDiffering) := C8.fnScope_by (by decide +kernel)
def spDiffering (K : PySem.W.Frag) (G : List Addr) (L : List (Addr × Str)) : Sp := fun vs H Q _ => ∃ (an : Addr) (sv ov : V) (ns : List Str) (ss cs : List PyData), vs = [.ref an, sv, ov] ∧ Tp H an (ns.map V.str) ∧ Dp K H sv (.tuple ss) ∧ Dp K H ov (.tuple cs) ∧ ns.length ≤ 60 ∧ (∀ y ∈ ns, PyData.strOk y = true) ∧ lv 8 (.tuple ss) = true ∧ lv 8 (.tuple cs) = true ∧
  ∀ l H', Nw H l → Go G L H H' → H' l = some (.lst ((ns.filter (diffB ss cs)).map V.str)) → Q (.ref l) H'
theorem ok_differing {f : Addr} {fd : FuncData} (F : Fun K "differing" "differing" sDiffering f fd) : FnOk P w K mg base CX0 1 f fd ["names", "state", "other"] (spDiffering K G L) := by
  refine F.ok scDiffering (fun vs H Q E h => ?_) (fun cdv A outer s H vs Q E hr h => ?_)
  · obtain ⟨an, sv, ov, ns, ss, cs, e, _⟩ := h
    rw [e]
    rfl
  · obtain ⟨an, sv, ov, ns, ss, cs, e, hn, hs, hc, hl, hno, l1, l2, q⟩ := h
    subst e
    refine ⟨_, pss_one (ps_ret (pe_lc (own := [("name", 3)]) (g := gName 3) rfl scDiffering.nd (pi_tup (pv 0))
      (blkOk_by (own := [("name", 3)]) (N := nDf) (sc := defScope sDiffering) (by decide +kernel)) (fun _ _ _ _ _ => pg_name (i := 3) scDiffering.nd rfl (.inl rfl))
      (fun _ _ _ _ _ => pts_one (pt_cmpR op_ne (pe_cmpR (r := rInT K id) (op_inT (u65 hr)) (pv 3) (pv 1) rfl) (pe_cmpR (r := rInT K id) (op_inT (u65 hr)) (pv 3) (pv 2) rfl) rfl)) (fun _ _ _ _ _ => pv 3))), ?_⟩
    repeat walk_at "rd"
    refine lcT (a := an) (xs := ns.map V.str) (fun R z => ⟨_, rfl, z⟩) hn.seq (fun D j H2 => Go G L H H2 ∧ H2 D = some (.lst (((ns.take j).filter (diffB ss cs)).map V.str))) ?_ ?_ ?_ ?_
    · intro D hD
      exact ⟨Go.new hD, upd_same⟩
    · rintro D j H2 hD _ ⟨g2, _⟩
      exact (hn.kt g2.kt).seq
    · rintro D j y H2 hD hy ⟨g2, eD⟩
      rw [List.getElem?_map] at hy
      cases hz : ns[j]? with
      | none => rw [hz] at hy; cases hy
      | some o =>
        rw [hz] at hy
        obtain rfl : y = .str o := (Option.some.inj hy).symm
        have hom := List.mem_of_getElem? hz
        refine r_gN ⟨rfl, ?_⟩
        repeat walk_at "rd"
        refine r_inT (.str o) (Dp.go g2.1 hs) (lv_str (hno o hom)) l1 ?_
        repeat walk_at "rd"
        refine r_inT (.str o) (Dp.go g2.1 hc) (lv_str (hno o hom)) l2 ?_
        refine r_ne rfl ?_
        have ec : (!decide (V.bl (inD (.str o) ss) = V.bl (inD (.str o) cs))) = diffB ss cs o := by
          show _ = (inD (.str o) ss != inD (.str o) cs)
          cases inD (.str o) ss <;> cases inD (.str o) cs <;> rfl
        rw [ec]
        repeat walk_at "rd"
        have hyl : ((ns.take j).filter (diffB ss cs)).length ≤ 60 := by
          refine Nat.le_trans (List.length_filter_le _ _) ?_
          rw [List.length_take]
          omega
        refine r_if (fun cc => ?_) (fun cc => ?_)
        · repeat walk_at "rd"
          refine ⟨_, eD, by rw [List.length_map, sizeLine_eq]; omega, g2.updNew hD eD, ?_⟩
          rw [upd_same, filter_take hz, if_pos cc, List.map_append]
          rfl
        · exact ⟨g2, by rw [filter_take hz, cc, if_neg Bool.false_ne_true]; exact eD⟩
    · rintro D H2 hD ⟨g2, eD⟩
      rw [List.length_map, List.take_length] at eD
      exact q D H2 (.of hD) g2 eD
def legalB (ns : List Str) (cd : List PyData) : PyData → Bool
  | .tuple ds => (stateBad ns (.tuple ds)).isNone && decide (brokenFrom ds 0 cd = [])
  | _ => false
def items : PyData → List PyData
  | .tuple ds => ds
  | _ => []
/-- the i-th entry is a legal state, one change behind the one ahead -/
def okD (ns : List Str) (cd ds : List PyData) (i : Nat) : Bool := match ds[i]? with
  | none => true
  | some d => legalB ns cd d && (decide (i = 0) || decide ((ns.filter (diffB (items (ds.getD (i - 1) .none)) (items d))).length = 1))
end
theorem r_tM1 {r : V → List V → Hp → VK → Prop} {to te : TE} {σ : L2.St} {H : Hp} {Q : VK} (h : to σ H fun x H1 => (∃ a, x = .str a) ∧ te σ H1 fun y H2 => r x [y] H2 Q) : tM1 r to te σ H Q := h
local macro_rules | `(tactic| walk_at "rs") => `(tactic| first | (with_reducible refine r_tM1 ?_) | (with_reducible refine r_u1 ?_) | walk_at "rd")
section
variable {P : Program} {w : World} {K : PySem.W.Frag} {mg : Str → Option Value} {base : Heap} {G : List Addr} {L : List (Addr × Str)}
theorem RowsW.snoc {D p : Addr} {H : Hp} {o : HO} {xs : List V} {wss : List (List Str)} {ws : List Str} (h : RowsW D H xs wss) (n : p ≠ D) (e : H p = some (.lst (ws.map V.str))) : RowsW D (upd H D o) (xs ++ [.ref p]) (wss ++ [ws]) := by
  have hl := h.1
  refine ⟨by rw [List.length_append, List.length_append, h.1]; rfl, fun i x ex => ?_⟩
  by_cases c : i < xs.length
  · rw [List.getElem?_append_left c] at ex
    obtain ⟨q, vs, h1, h2, h3, h4⟩ := h.2 i x ex
    exact ⟨q, vs, h1, by rw [List.getElem?_append_left (by rw [← h.1]; exact c)]; exact h2, h3, by rw [upd_ne h3]; exact h4⟩
  · rw [List.getElem?_append_right (by omega)] at ex
    have e0 : i - xs.length = 0 := by
      rcases Nat.eq_zero_or_pos (i - xs.length) with z | z
      · exact z
      · rw [List.getElem?_eq_none (by show 1 ≤ _; omega)] at ex
        cases ex
    rw [e0] at ex
    refine ⟨p, ws, (Option.some.inj ex).symm, ?_, n, by rw [upd_ne n]; exact e⟩
    rw [List.getElem?_append_right (by omega), ← h.1, e0]
    rfl
end
section
variable {P : Program} {w : World} {K : PySem.W.Frag} {mg : Str → Option Value} {base : Heap} {G : List Addr} {L : List (Addr × Str)}
end
section
variable {P : Program} {w : World} {K : PySem.W.Frag} {mg : Str → Option Value} {base : Heap} {G : List Addr} {L : List (Addr × Str)}
theorem LsAt.snoc {D : Addr} {H : Hp} {vs : List V} {ls : List (List Nat)} {p : Addr} {l : List Nat} (h : LsAt D H vs ls) (np : p ≠ D) (hp : H p = some (.lst (l.map fun i => V.int (i : Nat)))) : LsAt D H (vs ++ [V.ref p]) (ls ++ [l]) := ⟨by rw [List.length_append, List.length_append, h.1]; rfl, fun i v e => by
  by_cases hi : i < vs.length
  · rw [List.getElem?_append_left hi] at e
    obtain ⟨q, m, e1, e2⟩ := h.2 i v e
    exact ⟨q, m, by rw [List.getElem?_append_left (by rw [← h.1]; exact hi)]; exact e1, e2⟩
  · rw [List.getElem?_append_right (by omega)] at e
    have e0 : i - vs.length = 0 := by
      rcases Nat.eq_zero_or_pos (i - vs.length) with z | z
      · exact z
      · rw [List.getElem?_eq_none (by show 1 ≤ _; omega)] at e
        cases e
    rw [e0] at e
    cases e
    exact ⟨p, l, by rw [List.getElem?_append_right (by rw [← h.1]; omega), ← h.1, e0]; rfl, rfl, np, hp⟩⟩
theorem LsAt.dps {D : Addr} {H : Hp} : ∀ {vs : List V} {ls : List (List Nat)}, LsAt D H vs ls → DpAll K H vs (ls.map fun l => .list (l.map fun i => .int (i : Nat)))
  | [], [], _ => .nil
  | [], l :: ls, h => by have z := h.1; simp at z
  | v :: vs, [], h => by have z := h.1; simp at z
  | v :: vs, l :: ls, h => by
    obtain ⟨p, l', e1, rfl, _, e4⟩ := h.2 0 v rfl
    cases e1
    refine .cons (.lst (.of e4) (Ims.dp (ims_ints l))) (LsAt.dps (D := D) ⟨by have z := h.1; simpa using z, fun i x e => ?_⟩)
    obtain ⟨q, m, f1, f2⟩ := h.2 (i + 1) x (by simpa using e)
    exact ⟨q, m, by simpa using f1, f2⟩
end
section
variable {P : Program} {w : World} {K : PySem.W.Frag} {mg : Str → Option Value} {base : Heap} {G : List Addr} {L : List (Addr × Str)}
theorem told5_to {X : Cx} {g : Addr} {cdg : Value} {q : Str} (R : Rz5 X.K X.mg) : LamX.GivesTo X nTold "_law_told" (defScope sTold) g cdg (defBody sTold) "_law_work" q (TR5 X.K G L) :=
  fun f c' s H Q tl act hc h => told5_gives R f (fun H0 => H0 c' = some (LamX.CodeO c' q)) s H Q tl act hc h
structure TzD (K : PySem.W.Frag) (mg : Str → Option Value) : Prop where
  rz : Rz5 K mg
  ex : ∃ (g : Addr) (fd : FuncData), Fun K "_law_told" "_law_told" sTold g fd ∧ mg "_law_told" = some (.ref g) ∧ Binds K fd ["_law_work"] []
theorem pe_told {X : Cx} {c Pn : Addr} {k j : Nat} {params : Arguments} {body : Expr} {sc : Scope} {t : XK → TE} {p lpos pos : Pos} (C : TzD X.K X.mg) (TB : LamX.TabB X.base X.mg c Pn) (hcode : X.env.code = .ref c) (hr : Room j X.A) (Lm : LamX.LamS X.env.scope sc)
    (hbody : ∀ (A : Around) (outer : List Env) (s : Shared) (H : Hp) (E : XK) (f c' : Addr), Room k (A.deeper (LamX.lamEnv X sc s.heap.objs.size f c')) → PE (LamX.lamCx X A outer s H E sc f c') body (t E))
    (hk : k + 2 ≤ j := by decide) (hg : Gl X "_law_told" := by rfl) (hdef : defaultsOf params X.env = ([], []) := by rfl)
    (hbind : ∀ (q : Str) (cl : List (Str × Addr)) (pm cv ctv : Value), bindArgs (PySem.W.kla_fn "<lambda>" q params body sc cl pm cv ctv) ⟨[], []⟩ = pure [] := by intro _ _ _ _ _; rfl) :
    PE X (.Call (.Name "_law_told" p) [.Lambda params body sc lpos] [] pos) (tLamS Pn (X.env.qual ++ "<lambda>") (TR5 X.K G L) t) := by
  obtain ⟨g, fd, F, hm, b⟩ := C.ex
  obtain ⟨oc, od, kV, doc, pm, an, cdv, ct, osl, efd, lk, hcd⟩ := F.ex
  subst efd
  exact pe_lamS hg hm F.kp lk hcd b scTold rfl (.inl rfl) (told5_to C.rz) TB hcode (hr.mono hk) Lm hdef hbind hbody
theorem r_toldL {σ : L2.St} {H : Hp} {Q : VK} {Pn : Addr} {q : Str} {t : XK → TE} (A : Apart G L) (hp : (Pn, q) ∈ L) (ht : TBS G L H)
    (h : ∀ H1, Go G L H H1 → t (fun cls d H' => ∃ D, Told5 K cls d H' D ∧ ∀ v H2, Go G L H' H2 → Im H2 v D → Q v H2) σ H1 Q) : tLamS Pn q (TR5 K G L) t σ H Q :=
  ⟨ht.2 _ hp, fun H1 e ts => h H1 (Go.but A hp ht e ts)⟩
theorem pe_fdL {X : Cx} {A : Around} {outer : List Env} {s : Shared} {H : Hp} {E : XK} {sc : Scope} {fL c' : Addr} {j : Nat} {x : Str} {k : Nat} {sp : Sp} {e : Expr} {es : List Expr} {t : TA} {p pos : Pos} (c : Fd (L2.CX X.prog X.w) X.prog X.w X.K X.mg X.base x k sp) (hr : Room j (A.deeper (LamX.lamEnv X sc s.heap.objs.size fL c'))) (ha : PA (LamX.lamCx X A outer s H E sc fL c') (e :: es) t) (hk : k ≤ j := by decide) (hg : Gl (LamX.lamCx X A outer s H E sc fL c') x := by rfl)
    (hd : (x == ("__debug__" : Str)) = false := by decide) (he : starEach (e :: es) (LamX.lamCx X A outer s H E sc fL c').env = (false, eval e (LamX.lamCx X A outer s H E sc fL c').env) :: starEach es (LamX.lamCx X A outer s H E sc fL c').env := by rfl) (hpl : (backTo pos (starEach es (LamX.lamCx X A outer s H E sc fL c').env)).any (·.1) = false := by rfl) :
    PE (LamX.lamCx X A outer s H E sc fL c') (.Call (.Name x p) (e :: es) [] pos) (tCall sp [] E t) :=
  pe_fd (X := LamX.lamCx X A outer s H E sc fL c') c hr (passes_call (takes_of rfl rfl rfl rfl) fun _ _ _ _ z => z) ha hk hg hd he hpl
end
section
variable {P : Program} {w : World} {K : PySem.W.Frag} {mg : Str → Option Value} {base : Heap} {G : List Addr} {L : List (Addr × Str)}
end
local macro_rules | `(tactic| walk_at "rs") => `(tactic| first | (with_reducible refine r_tM1 ?_) | walk_at "rd")
section
variable {P : Program} {w : World} {K : PySem.W.Frag} {mg : Str → Option Value} {base : Heap} {G : List Addr} {L : List (Addr × Str)}
end
section
variable {G : List Addr} {L : List (Addr × Str)} {H H' : Hp} {r : Addr}
end
section
variable {P : Program} {w : World} {K : PySem.W.Frag} {mg : Str → Option Value} {base : Heap} {G : List Addr} {L : List (Addr × Str)}
end
local macro_rules | `(tactic| walk_at "rs") => `(tactic| first | (with_reducible refine r_tM1 ?_) | (with_reducible refine r_u1 ?_) | (with_reducible refine r_un ?_) | walk_at "rd")
def roN : List Str := ["_rules", "_state", "_goal", "_done", "_undone", "_is_open", "_kept_state", "_kept_done", "_kept_undone"]
structure RoC (K : PySem.W.Frag) (mg : Str → Option Value) : Prop where
  cl : Cls K (cO K)
  na : ∀ n ∈ roN, NoAttr K (cO K) n
  g : mg "Rollout" = some (.ref (cO K))
  ne : cR K ≠ cO K
section
variable {P : Program} {w : World} {K : PySem.W.Frag} {mg : Str → Option Value} {base : Heap} {G : List Addr} {L : List (Addr × Str)}
/-- a field is read -/
theorem r_ro {H : Hp} {Q : VK} {x : Addr} {f : Ro} {n : Str} {v : V} (R : RoC K mg) (h : RoAt K H x f) (q : Q v H) (hn : n ∈ roN := by decide) (hl : (rof f).lookup n = some v := by rfl) : rFld K n (.ref x) H Q := by
  obtain ⟨dx, h1⟩ := h
  exact ⟨x, _, dx, _, v, rfl, h1, R.cl, R.na n hn, hl, q⟩
end
local macro_rules | `(tactic| walk_at "rs") => `(tactic| first | (with_reducible refine r_tM1 ?_) | (with_reducible refine r_u1 ?_) | (with_reducible refine r_un ?_) | walk_at "rd")
section
variable {P : Program} {w : World} {K : PySem.W.Frag} {mg : Str → Option Value} {base : Heap} {G : List Addr} {L : List (Addr × Str)}
end
theorem r_sfl {K : PySem.W.Frag} {n : Str} {D : Ends} {σ : L2.St} {H : Hp} {ta tv : TE} (h : tv σ H fun y H1 => ta σ H1 fun x H2 => ∃ a C dx fs, x = .ref a ∧ H2 a = some (.ins C dx fs) ∧ Cls K C ∧ NoAttr K C n ∧ fs.length < 1000 ∧ D.nx σ (upd H2 a (.ins C dx (putF n y fs)))) : sFld K ta tv n D σ H := h
theorem r_soE {K : PySem.W.Frag} {mg : Str → Option Value} {G : List Addr} {L : List (Addr × Str)} {H : Hp} {x : Addr} {f : Ro} {n : Str} {v : V} {P : Hp → Prop} (R : RoC K mg) (h : RoAt K H x f) (f' : Ro) (q : ∀ H', GoR G L x H H' → RoAt K H' x f' → P H') (hn : n ∈ roN := by decide) (hl : putF n v (rof f) = rof f' := by rfl) :
    ∃ a C dx fs, V.ref x = .ref a ∧ H a = some (.ins C dx fs) ∧ Cls K C ∧ NoAttr K C n ∧ fs.length < 1000 ∧ P (upd H a (.ins C dx (putF n v fs))) := by
  obtain ⟨dx, h1⟩ := h
  refine ⟨x, _, dx, _, rfl, h1, R.cl, R.na n hn, (by show 9 < 1000; decide), ?_⟩
  rw [hl]
  exact q _ (GoR.ins h1) ⟨dx, upd_same⟩
local macro_rules | `(tactic| walk_at "rs") => `(tactic| first | (with_reducible refine r_tM1 ?_) | (with_reducible refine r_u1 ?_) | (with_reducible refine r_un ?_) | (with_reducible refine r_sfl ?_) | walk_at "rd")
section
variable {P : Program} {w : World} {K : PySem.W.Frag} {mg : Str → Option Value} {base : Heap} {G : List Addr} {L : List (Addr × Str)}
end
section
variable {P : Program} {w : World} {K : PySem.W.Frag} {mg : Str → Option Value} {base : Heap} {G : List Addr} {L : List (Addr × Str)} {H H' : Hp} {x : Addr} {f : Ro}
end
local macro_rules | `(tactic| walk_at "rs") => `(tactic| first | (with_reducible refine r_tM1 ?_) | (with_reducible refine r_u1 ?_) | (with_reducible refine r_un ?_) | (with_reducible refine r_sfl ?_) | walk_at "rd")
section
variable {P : Program} {w : World} {K : PySem.W.Frag} {mg : Str → Option Value} {base : Heap} {G : List Addr} {L : List (Addr × Str)} {H H' : Hp} {x : Addr} {f : Ro}
end
section
variable {P : Program} {w : World} {K : PySem.W.Frag} {mg : Str → Option Value} {base : Heap} {G : List Addr} {L : List (Addr × Str)}
end
section
variable {P : Program} {w : World} {K : PySem.W.Frag} {mg : Str → Option Value} {base : Heap} {G : List Addr} {L : List (Addr × Str)}
end
section
variable {P : Program} {w : World} {K : PySem.W.Frag} {mg : Str → Option Value} {base : Heap} {G : List Addr} {L : List (Addr × Str)}
end
section
variable {P : Program} {w : World} {K : PySem.W.Frag} {mg : Str → Option Value} {base : Heap} {G : List Addr} {L : List (Addr × Str)}
end
section
variable {X : Cx}
/-- an error that stops no walk -/
def noStp (K : PySem.W.Frag) (E : XK) : XK := fun cls d H => E cls d H ∧ PySem.W.subIn K cls (.type "StopIteration") = some false
theorem pe_lgdX {x : Str} {k j : Nat} {sp : SpG} {E : XK} {p pos p2 pos2 : Pos} {e : Expr} {es : List Expr} {t : TA} (c : Gd X.prog X.w X.K X.mg X.base x k sp) (hr : Room j X.A) (zl : X.mg "list" = none) (hx : Passes (L2.CX X.prog X.w) X (noStp X.K E)) (ha : PA X (e :: es) t) (hk : k + 3 ≤ j := by decide) (hg : Gl X x := by rfl) (hgl : Gl X "list" := by rfl)
    (hdb : (x == ("__debug__" : Str)) = false := by decide) (he : starEach (e :: es) X.env = (false, eval e X.env) :: starEach es X.env := by rfl) (hpl : (backTo pos (starEach es X.env)).any (·.1) = false := by rfl)
    (he2 : starEach [.Call (.Name x p) (e :: es) [] pos] X.env = (false, eval (.Call (.Name x p) (e :: es) [] pos) X.env) :: starEach [] X.env := by rfl) :
    PE X (.Call (.Name "list" p2) [.Call (.Name x p) (e :: es) [] pos] [] pos2) (tListG (tCallG sp [] (noStp X.K E) t)) := by
  obtain ⟨f, fd, ps, h1, h2, F, b⟩ := c.ex
  exact pe_listG (pgen_call F (hr.mono (by omega)) hg h1 h2 b .nil ha hdb he hpl) hx (fun _ _ _ h => h.2) (hr.mono hk) hgl zl (by decide +kernel) (by decide) (by decide) he2
theorem r_lgdX {K : PySem.W.Frag} {E : XK} {sp : SpG} {ta : TA} {σ : L2.St} {H : Hp} {Q : VK} (h : ta σ H fun vs H1 => sp (vs ++ []) H1 (fun out H2 => ∀ p, H2 p = none → Q (.ref p) (upd H2 p (.lst out))) (noStp K E)) : tListG (tCallG sp [] (noStp K E) ta) σ H Q := h
variable {A : Around} {outer : List Env} {s : Shared} {H : Hp} {E : XK} {sc : Scope} {fL c' : Addr} {j : Nat}
end
local macro_rules | `(tactic| walk_at "rs") => `(tactic| first | (with_reducible refine r_tM1 ?_) | (with_reducible refine r_u1 ?_) | (with_reducible refine r_un ?_) | (with_reducible refine r_sfl ?_) | (with_reducible refine r_lgdX ?_) | walk_at "rd")
section
variable {P : Program} {w : World} {K : PySem.W.Frag} {mg : Str → Option Value} {base : Heap} {G : List Addr} {L : List (Addr × Str)} {H H' : Hp} {x : Addr} {f : Ro}
abbrev nCh5 : List Str := ["self", "names", "states"]
theorem scChange : FnScope nCh5 ["self", "names"] (defScope (sO 5)) := C8.fnScope_by (by decide +kernel)
/-- a rollout's data are in order -/
structure RoGood (d : RoD) : Prop where
  ok : OkR d.ns d.cd
  n10 : d.ns.length ≤ 10
  sub : d.st.Sublist d.ns
  leg : brokenFrom (d.st.map PyData.str) 0 d.cd = []
/-- the state where a way ends -/
def endS (d : RoD) (cs : List Str) : List Str := ((wayS d.ns d.cd d.st (cs.map PyData.str)).getLast?).getD d.st
def chgD (d : RoD) (cs : List Str) : RoD := { d with st := endS d cs, dn := d.dn ++ cs, un := if cs = [] then d.un else [] }
theorem wayS_len {ns : List Str} {cd : List PyData} : ∀ {cs : List Str} {s : List Str} {i : Nat}, wayE ns cd i s (cs.map PyData.str) = none → (wayS ns cd s (cs.map PyData.str)).length = cs.length
  | [], s, i, _ => rfl
  | z :: cs, s, i, h => by
    simp only [List.map_cons] at h ⊢
    unfold wayE at h
    unfold wayS
    by_cases c : z ∈ ns
    · rw [if_pos c] at h ⊢
      cases e : brokenFrom ((swD ns s z).map PyData.str) 0 cd with
      | nil =>
        rw [e] at h
        simp only at h ⊢
        rw [List.length_cons, List.length_cons, wayS_len h]
      | cons j r => rw [e] at h; cases h
    · rw [if_neg c] at h
      cases h
theorem wayE_tag {ns : List Str} {cd : List PyData} : ∀ {cs : List Str} {s : List Str} {i : Nat} {D : PyData}, wayE ns cd i s (cs.map PyData.str) = some D → ∃ a r, D = .tuple (.str a :: r) ∧ (a = "step" ∨ a = "switch")
  | [], s, i, D, h => by cases h
  | z :: cs, s, i, D, h => by
    simp only [List.map_cons] at h
    unfold wayE at h
    by_cases c : z ∈ ns
    · rw [if_pos c] at h
      cases e : brokenFrom ((swD ns s z).map PyData.str) 0 cd with
      | nil =>
        rw [e] at h
        exact wayE_tag h
      | cons j r =>
        rw [e] at h
        exact ⟨_, _, (Option.some.inj h).symm, .inl rfl⟩
    · rw [if_neg c] at h
      exact ⟨_, _, (Option.some.inj h).symm, .inr rfl⟩
theorem told_tag {cls : Value} {dd : Option Addr} {H : Hp} {a : Str} {r : List PyData} (h : Told K cls dd H (.tuple (.str a :: r))) (ha : a = "step" ∨ a = "switch") : cls = .ref (He.ga K "IllegalStep") ∨ cls = .ref (He.ga K "UnknownSwitch") := by
  rcases h with ⟨_, p, i, e1, _, _, e4⟩ | ⟨_, i, e1, _, _, e4⟩ | ⟨e1, _, e4⟩ | ⟨e1, _, e4⟩ | ⟨e1, _, e4⟩ | ⟨_, i, e1, _, _, e4⟩ | ⟨_, i, j2, e1, _, _, e4⟩ | ⟨_, v, e, e1, _, _, _, e4⟩ | ⟨_, v, e, e1, _, _, _, e4⟩
  all_goals first
    | exact .inl e1
    | exact .inr e1
    | (rcases ha with rfl | rfl <;> exact absurd (PyData.str.inj (List.cons.inj (PyData.tuple.inj e4)).1) (by decide +kernel))
/-- neither error is a StopIteration -/
def NSt (K : PySem.W.Frag) : Prop := PySem.W.subIn K (.ref (He.ga K "IllegalStep")) (.type "StopIteration") = some false ∧ PySem.W.subIn K (.ref (He.ga K "UnknownSwitch")) (.type "StopIteration") = some false
def spChangeB (K : PySem.W.Frag) (G : List Addr) (L : List (Addr × Str)) : Sp := fun vs H Q E => ∃ (x p : Addr) (f : Ro) (d : RoD) (cs : List Str), vs = [.ref x, .ref p] ∧ RolAt K H x f d ∧ RoGood d ∧ Tp H p (cs.map V.str) ∧ (∀ z ∈ cs, PyData.strOk z = true) ∧ cs.length ≤ 99 ∧ d.dn.length ≤ 200 ∧
  (∀ D, wayE d.ns d.cd 0 d.st (cs.map PyData.str) = some D → ∀ cls dd H', Go G L H H' → Told K cls dd H' D → E cls dd H') ∧
  (wayE d.ns d.cd 0 d.st (cs.map PyData.str) = none → ∀ S f' H', GoR G L x H H' → f'.go = f.go → f'.op = f.op → f'.ks = f.ks → f'.kd = f.kd → f'.ku = f.ku → f'.st = .ref S → RolAt K H' x f' (chgD d cs) → Q (.ref S) H')
set_option maxHeartbeats 1000000 in
theorem ok_change {f : Addr} {fd : FuncData} (F : Fun K "change" "Rollout.change" (sO 5) f fd) (R : RoC K mg) (zl : mg "list" = none) (NS : NSt K) (OW : Gd P w K mg base "states_on_way" 7 (spOnWay K G L)) :
    FnR P w K mg base (L2.CX P w) 12 f (fun vs H Q E => ∃ ws rest, vs = ws ++ rest ∧ ws.length = 1 ∧ rest.length ≤ sizeLine ∧ ∀ p, H p = Option.none → spChangeB K G L (ws ++ [V.ref p]) (upd H p (.tup rest)) Q E) := by
  obtain ⟨oc, od, kV, doc, pm, an, cdv, ct, osl, efd, lk, hcd⟩ := F.ex
  subst efd
  refine StX.fn_star (k := 11) (ps := ["self"]) (pv := "names") lk hcd scChange StX.cxUp (fun us rest hu => ?_) (fun A outer s H vs Q E hr h => ?_)
  · exact StX.bind_star1 (B := fun us => bindArgs (PySem.W.fnOf "change" "Rollout.change" (defArgs (sO 5)) (defBody (sO 5)) (defScope (sO 5)) .none kV doc pm an cdv ct) ⟨us, []⟩) (fun a => rfl) (fun a r rs => rfl) us rest hu
  · obtain ⟨x, p, f, d, cs, e, hR, gd, hp, hok, hl, hl2, qE, q⟩ := h
    subst e
    refine ⟨_, pss_cons (ps_set (i := 2) scChange.nd rfl (Or.inl rfl) (pe_lgdX (E := E) OW hr zl (passes_call (takes_of rfl rfl rfl rfl) fun _ _ _ _ z => z.1) (pa_cons (pe_fld (pv 0) rfl) (pa_cons (pe_fld (pv 0) rfl) (pa_cons (pv 1) pa_nil)))))
(pss_cons (ps_if (pt_truth (pv 2) (by intro _; rfl))
  (pss_cons (ps_fld (pv 0) (pe_ix (r := rIxL K) ix_list (pv 2) (pe_un un_neg pe_int) (fun _ _ => rfl)) rfl)
  (pss_cons (ps_fld (pv 0) (pe_op (r := rCatA K) op_catA (pe_fld (pv 0) rfl) (pv 1)) rfl)
  (pss_one (ps_fld (pv 0) (pe_tup pa_nil) rfl)))) pss_nil)
(pss_one (ps_ret (pe_fld (pv 0) rfl)))), ?_⟩
    obtain ⟨h0, rr, S, D, U, e1, e2, e3, e4, hru, hS, hD, hU⟩ := hR
    repeat walk_at "rs"
    refine r_ro R h0 ?_
    rw [e1]
    repeat walk_at "rs"
    refine r_ro R h0 ?_
    rw [e2]
    repeat walk_at "rs"
    obtain ⟨l7, hl60⟩ := strs_lv gd.ok.gs gd.sub
    refine ⟨rr, p, .ref S, false, d.ns, d.cd, .tuple (d.st.map PyData.str), cs.map V.str, cs.map PyData.str, rfl, hru, gd.ok, gd.n10, .tup hS.seq (dps_strs _), l7, hl60, hp, ims_strs cs, fun d hd => ?_, by rw [List.length_map]; exact hl, fun i hi => (by rw [st_none gd.sub] at hi; cases hi), fun sd esd _ j rest hb' => (by cases esd; rw [gd.leg] at hb'; cases hb'), fun sd esd _ _ => ?_⟩
    · obtain ⟨z, hz, rfl⟩ := List.mem_map.mp hd
      exact lv_str (hok z hz)
    cases esd
    refine ⟨S, d.st, rfl, rfl, hS, gd.sub, fun D hD cls dd H' g hT => ⟨qE D hD cls dd H' g hT, ?_⟩, fun hnone ys H1 g1 hys p2 n2 => ?_⟩
    · obtain ⟨a, r, rfl, ha⟩ := wayE_tag hD
      rcases told_tag hT ha with rfl | rfl
      · exact NS.1
      · exact NS.2
    generalize hH : upd H1 p2 _ = H2
    obtain ⟨k2, e5⟩ := new_facts hH n2
    clear hH
    have g02 : Go G L H H2 := g1.trans (Go.same k2)
    have h2 := h0.go g02
    have hys2 : StsAt H2 ys (wayS d.ns d.cd d.st (cs.map PyData.str)) := hys.kt (Go.same (G := G) (L := L) k2).kt
    have hlen := wayS_len hnone
    replace q := q hnone
    refine r_gN ?_
    repeat walk_at "rs"
    have hyl : ys.length = cs.length := by rw [hys.len, hlen]
    refine ⟨!ys.isEmpty, .inl ⟨ys, .of e5, rfl⟩, ?_⟩
    by_cases hc : cs = []
    · subst hc
      obtain rfl : ys = [] := List.length_eq_zero_iff.mp hyl
      rw [show (!([] : List V).isEmpty) = false from rfl, if_neg Bool.false_ne_true]
      repeat walk_at "rs"
      refine r_ro R h2 ?_
      rw [e2]
      refine q S f H2 g02.toR rfl rfl rfl rfl rfl e2 ⟨h2, rr, S, D, U, e1, e2, e3, e4, hru.kt g02.kt, hS.kt g02.kt, ?_, hU.kt g02.kt⟩
      show Tp H2 D ((d.dn ++ []).map V.str)
      rw [List.append_nil]
      exact hD.kt g02.kt
    have hpos : 0 < ys.length := by
      rw [hyl]
      exact List.length_pos_iff.mpr hc
    have hne : ys ≠ [] := List.length_pos_iff.mp hpos
    rw [show (!ys.isEmpty) = true by cases ys with | nil => exact absurd rfl hne | cons _ _ => rfl, if_pos rfl]
    obtain ⟨yl, hy1, hy2⟩ : ∃ v, ys[ys.length - 1]? = some v ∧ atI ys (-1) = some v := by
      refine ⟨ys.getLast hne, ?_, ?_⟩
      · rw [List.getElem?_eq_getElem (by omega), List.getLast_eq_getElem]
      · have e := List.dropLast_concat_getLast hne
        have z := atI_last ys.dropLast (ys.getLast hne)
        rw [e] at z
        exact z
    obtain ⟨T, sl, hsl, rfl, hT⟩ := sts_get hys2 hy1
    have hend : endS d cs = sl := by
      unfold endS
      rw [List.getLast?_eq_getElem?, hlen, ← hyl, hsl]
      rfl
    repeat walk_at "rs"
    refine ⟨1, rfl, ?_⟩
    refine r_ixL (i := -1) (.of e5) hy2 ?_
    repeat walk_at "rs"
    refine r_soE (G := G) (L := L) R h2 { f with st := .ref T } fun H3 g3 h3 => ?_
    have t23 : TTp H2 H3 := fun a xs z => h2.tt g3 _ _ z
    have t03 : TTp H H3 := fun a xs z => h2.tt g3 _ _ (z.kt g02.kt)
    have g03 := g02.toR.trans g3
    repeat walk_at "rs"
    refine r_ro R h3 ?_
    show _
    repeat walk_at "rs"
    rw [show ({ f with st := .ref T } : Ro).dn = .ref D from e3]
    refine r_catT (xs := d.dn.map V.str) (ys := cs.map V.str) (t03 _ _ hD) (t03 _ _ hp) (by rw [List.length_map, List.length_map, sizeLine_eq]; omega) fun D' H4 k4 hD4 => ?_
    have g4 : Go G L H3 H4 := Go.same k4
    repeat walk_at "rs"
    refine r_soE (G := G) (L := L) R (h3.go g4) { f with st := .ref T, dn := .ref D' } fun H5 g5 h5 => ?_
    have t35 : TTp H3 H5 := fun a xs z => (h3.go g4).tt g5 _ _ (z.kt g4.kt)
    have hD5 := (h3.go g4).tt g5 _ _ hD4
    have g05 := (g03.trans g4.toR).trans g5
    repeat walk_at "rs"
    refine ⟨by show 0 ≤ sizeLine; decide, fun pB nB => ?_⟩
    generalize hH : upd _ pB _ = HB; obtain ⟨kB, eB⟩ := new_facts hH nB; clear hH
    have gB : Go G L H5 HB := Go.same kB
    repeat walk_at "rs"
    refine r_soE (G := G) (L := L) R (h5.go gB) { f with st := .ref T, dn := .ref D', un := .ref pB } fun H8 g8 h8 => ?_
    have t58 : TTp H5 H8 := fun a xs z => (h5.go gB).tt g8 _ _ (z.kt gB.kt)
    have g08 := (g05.trans gB.toR).trans g8
    repeat walk_at "rs"
    refine r_ro R h8 ?_
    refine q T { f with st := .ref T, dn := .ref D', un := .ref pB } H8 g08 rfl rfl rfl rfl rfl rfl ⟨h8, rr, T, D', pB, e1, rfl, rfl, rfl, h0.rules g08 R.ne hru, ?_, ?_, ?_⟩
    · show Tp H8 T ((endS d cs).map V.str)
      rw [hend]
      exact t58 _ _ (t35 _ _ (t23 _ _ hT))
    · show Tp H8 D' ((d.dn ++ cs).map V.str)
      rw [List.map_append]
      exact t58 _ _ hD5
    · show Tp H8 pB ((if cs = [] then d.un else []).map V.str)
      rw [if_neg hc]
      exact (h5.go gB).tt g8 _ _ (.inl eB)
end
local macro_rules | `(tactic| walk_at "rs") => `(tactic| first | (with_reducible refine r_tM1 ?_) | (with_reducible refine r_u1 ?_) | (with_reducible refine r_un ?_) | (with_reducible refine r_sfl ?_) | (with_reducible refine r_lgdX ?_) | walk_at "rd")
section
variable {P : Program} {w : World} {K : PySem.W.Frag} {mg : Str → Option Value} {base : Heap} {G : List Addr} {L : List (Addr × Str)} {H H' : Hp} {x : Addr} {f : Ro}
/-- a method with a star parameter -/
def spStar (sp : Sp) : Sp := fun vs H Q E => ∃ ws rest, vs = ws ++ rest ∧ ws.length = 1 ∧ rest.length ≤ sizeLine ∧ ∀ p, H p = Option.none → sp (ws ++ [V.ref p]) (upd H p (.tup rest)) Q E
structure FmS (P : Program) (w : World) (K : PySem.W.Frag) (mg : Str → Option Value) (base : Heap) (m : Str) (k : Nat) (sp : Sp) : Prop where
  ex : ∃ g, BMeth K (cO K) m g ∧ FnR P w K mg base (L2.CX P w) k g (spStar sp)
end
local macro_rules | `(tactic| walk_at "rs") => `(tactic| first | (with_reducible refine r_tM1 ?_) | (with_reducible refine r_u1 ?_) | (with_reducible refine r_un ?_) | (with_reducible refine r_sfl ?_) | walk_at "rd")
section
variable {P : Program} {w : World} {K : PySem.W.Frag} {mg : Str → Option Value} {base : Heap} {G : List Addr} {L : List (Addr × Str)} {H H' : Hp} {x : Addr} {f : Ro}
abbrev nOI : List Str := ["self", "rules", "state", "goal"]
theorem scOInit : FnScope nOI nOI (defScope (sO 0)) := C8.fnScope_by (by decide +kernel)
theorem r_soF {fs : List (Str × V)} {n : Str} {v : V} {P : Hp → Prop} (R : RoC K mg) (h : InsAt K H x fs) (fs' : List (Str × V)) (hl : fs.length < 1000) (q : ∀ H', GoR G L x H H' → InsAt K H' x fs' → P H') (hn : n ∈ roN := by decide) (he : putF n v fs = fs' := by rfl) :
    ∃ a C dx gs, V.ref x = .ref a ∧ H a = some (.ins C dx gs) ∧ Cls K C ∧ NoAttr K C n ∧ gs.length < 1000 ∧ P (upd H a (.ins C dx (putF n v gs))) := by
  obtain ⟨dx, h1⟩ := h
  refine ⟨x, _, dx, _, rfl, h1, R.cl, R.na n hn, hl, ?_⟩
  rw [he]
  exact q _ (GoR.ins h1) ⟨dx, upd_same⟩
def spOInit (K : PySem.W.Frag) (G : List Addr) (L : List (Addr × Str)) : Sp := fun vs H Q _ => ∃ (x rr S : Addr) (gv : V) (d : RoD), vs = [.ref x, .ref rr, .ref S, gv] ∧ InsAt K H x [] ∧ RulesAt K H rr d.ns d.cd ∧ Tp H S (d.st.map V.str) ∧ RoGood d ∧ d.dn = [] ∧ d.un = [] ∧
  (gv = .non ∨ ∃ (T : Addr) (gs : List Str), gv = .ref T ∧ Tp H T (gs.map V.str) ∧ gs.Sublist d.ns ∧ brokenFrom (gs.map PyData.str) 0 d.cd = []) ∧ ∀ f H', GoR G L x H H' → f.go = gv → f.op = .bl false → RolAt K H' x f d → Q .non H'
set_option maxHeartbeats 1000000 in
theorem ok_oinit {f : Addr} {fd : FuncData} (F : L2.FunD K "__init__" "Rollout.__init__" (defArgs (sO 0)) (defBody (sO 0)) (defScope (sO 0)) [] [("goal", .non)] f fd) (R : RoC K mg) (CHL : Fd (L2.CX P w) P w K mg base "check_legal" 5 (spChkLegal K G L)) :
    FnOk P w K mg base (L2.CX P w) 7 f fd nOI (spOInit K G L) := by
  refine F.ok (k := 6) scOInit (fun vs H Q E h => ?_) (fun cdv A outer s H vs Q E hr h => ?_)
  · obtain ⟨x, rr, S, gv, d, e, _⟩ := h
    rw [e]
    rfl
  · obtain ⟨x, rr, S, gv, d, e, hx, hru, hS, gd, ed, eu, hg, q⟩ := h
    subst e
    refine ⟨_, pss_cons (ps_expr (pe_fd (E := E) CHL hr (passes_call (takes_of rfl rfl rfl rfl) fun _ _ _ _ z => z) (pa_cons (pv 1) (pa_cons (pv 2) pa_nil))))
(pss_cons (ps_if (pt_cmpR op_notN (pv 3) pe_non (nomark _))
  (pss_one (ps_expr (pe_fd (E := E) CHL hr (passes_call (takes_of rfl rfl rfl rfl) fun _ _ _ _ z => z) (pa_cons (pv 1) (pa_cons (pv 3) pa_nil))))) pss_nil)
(pss_cons (ps_fld (pv 0) (pv 1) rfl)
(pss_cons (ps_fld (pv 0) (pv 2) rfl)
(pss_cons (ps_fld (pv 0) (pv 3) rfl)
(pss_cons (ps_fld (pv 0) (pe_tup pa_nil) rfl)
(pss_cons (ps_fld (pv 0) (pe_tup pa_nil) rfl)
(pss_cons (ps_fld (pv 0) pe_bl rfl)
(pss_cons (ps_fld (pv 0) (pv 2) rfl)
(pss_cons (ps_fld (pv 0) (pe_tup pa_nil) rfl)
(pss_one (ps_fld (pv 0) (pe_tup pa_nil) rfl))))))))))), ?_⟩
    have chk : ∀ {H0 : Hp} {T : Addr} {gs : List Str} {Q0 : VK} {E0 : XK}, RulesAt K H0 rr d.ns d.cd → Tp H0 T (gs.map V.str) → gs.Sublist d.ns → brokenFrom (gs.map PyData.str) 0 d.cd = [] → (∀ H', Go G L H0 H' → Q0 .non H') → spChkLegal K G L ([.ref rr, .ref T] ++ []) H0 Q0 E0 := fun {H0 T gs Q0 E0} h1 h2 h3 h4 h5 => by
      obtain ⟨l7, hl60⟩ := strs_lv gd.ok.gs h3
      exact ⟨rr, .ref T, d.ns, d.cd, .tuple (gs.map PyData.str), rfl, h1, gd.ok, .tup h2.seq (dps_strs _), l7, hl60, fun i hi => (by rw [st_none h3] at hi; cases hi), fun ds ed _ j rest hb => (by cases ed; rw [h4] at hb; cases hb), fun ds ed _ _ H' g => h5 H' g⟩
    repeat walk_at "rs"
    refine chk hru hS gd.sub gd.leg fun H1 g1 => ?_
    repeat walk_at "rs"
    refine ⟨rfl, _, rfl, ?_⟩
    have fin : ∀ H2, Go G L H H2 → (tSeq (sFld K (tVar 0) (tVar 1) "_rules") (tSeq (sFld K (tVar 0) (tVar 2) "_state") (tSeq (sFld K (tVar 0) (tVar 3) "_goal") (tSeq (sFld K (tVar 0) (tTup tNil) "_done") (tSeq (sFld K (tVar 0) (tTup tNil) "_undone") (tSeq (sFld K (tVar 0) (tC (.bl false)) "_is_open") (tSeq (sFld K (tVar 0) (tVar 2) "_kept_state") (tSeq (sFld K (tVar 0) (tTup tNil) "_kept_done") (sFld K (tVar 0) (tTup tNil) "_kept_undone"))))))))) { nx := fun _ H' => Q .non H', rt := Q } [some (.ref x), some (.ref rr), some (.ref S), some gv] H2 := fun H2 g2 => by
      have i2 := hx.go g2
      have r2 := hru.kt g2.kt
      have s2 := hS.kt g2.kt
      clear hx hru hS
      repeat walk_at "rs"
      refine r_soF (G := G) (L := L) R i2 [("_rules", .ref rr)] (by decide) fun H3 g3 i3 => ?_
      repeat walk_at "rs"
      refine r_soF (G := G) (L := L) R i3 [("_rules", .ref rr), ("_state", .ref S)] (by show 1 < 1000; decide) fun H4 g4 i4 => ?_
      repeat walk_at "rs"
      refine r_soF (G := G) (L := L) R i4 [("_rules", .ref rr), ("_state", .ref S), ("_goal", gv)] (by show 2 < 1000; decide) fun H5 g5 i5 => ?_
      repeat walk_at "rs"
      refine ⟨by show 0 ≤ sizeLine; decide, fun pA nA => ?_⟩
      generalize hH : upd _ pA _ = HA; obtain ⟨kA, eA⟩ := new_facts hH nA; clear hH
      have gA : Go G L H5 HA := Go.same kA
      repeat walk_at "rs"
      refine r_soF (G := G) (L := L) R (i5.go gA) [("_rules", .ref rr), ("_state", .ref S), ("_goal", gv), ("_done", .ref pA)] (by show 3 < 1000; decide) fun H6 g6 i6 => ?_
      repeat walk_at "rs"
      refine ⟨by show 0 ≤ sizeLine; decide, fun pB nB => ?_⟩
      generalize hH : upd _ pB _ = HB; obtain ⟨kB, eB⟩ := new_facts hH nB; clear hH
      have gB : Go G L H6 HB := Go.same kB
      repeat walk_at "rs"
      refine r_soF (G := G) (L := L) R (i6.go gB) [("_rules", .ref rr), ("_state", .ref S), ("_goal", gv), ("_done", .ref pA), ("_undone", .ref pB)] (by show 4 < 1000; decide) fun H7 g7 i7 => ?_
      repeat walk_at "rs"
      refine r_soF (G := G) (L := L) R i7 [("_rules", .ref rr), ("_state", .ref S), ("_goal", gv), ("_done", .ref pA), ("_undone", .ref pB), ("_is_open", .bl false)] (by show 5 < 1000; decide) fun H8 g8 i8 => ?_
      repeat walk_at "rs"
      refine r_soF (G := G) (L := L) R i8 [("_rules", .ref rr), ("_state", .ref S), ("_goal", gv), ("_done", .ref pA), ("_undone", .ref pB), ("_is_open", .bl false), ("_kept_state", .ref S)] (by show 6 < 1000; decide) fun H9 g9 i9 => ?_
      repeat walk_at "rs"
      refine ⟨by show 0 ≤ sizeLine; decide, fun pC nC => ?_⟩
      generalize hH : upd _ pC _ = HC; obtain ⟨kC, eC⟩ := new_facts hH nC; clear hH
      have gC : Go G L H9 HC := Go.same kC
      repeat walk_at "rs"
      refine r_soF (G := G) (L := L) R (i9.go gC) [("_rules", .ref rr), ("_state", .ref S), ("_goal", gv), ("_done", .ref pA), ("_undone", .ref pB), ("_is_open", .bl false), ("_kept_state", .ref S), ("_kept_done", .ref pC)] (by show 7 < 1000; decide) fun Ha ga ia => ?_
      repeat walk_at "rs"
      refine ⟨by show 0 ≤ sizeLine; decide, fun pD nD => ?_⟩
      generalize hH : upd _ pD _ = HD; obtain ⟨kD, eD⟩ := new_facts hH nD; clear hH
      have gD : Go G L Ha HD := Go.same kD
      repeat walk_at "rs"
      refine r_soF (G := G) (L := L) R (ia.go gD) (rof ⟨.ref rr, .ref S, gv, .ref pA, .ref pB, .bl false, .ref S, .ref pC, .ref pD⟩) (by show 8 < 1000; decide) fun Hb gb ib => ?_
      have t25 : TTp H2 H5 := fun a xs z => i4.tt g5 _ _ (i3.tt g4 _ _ (i2.tt g3 _ _ z))
      have t56 : TTp HA H6 := (i5.go gA).tt g6
      have t68 : TTp HB H8 := fun a xs z => i7.tt g8 _ _ ((i6.go gB).tt g7 _ _ z)
      have t8b : TTp H8 Hb := fun a xs z => (ia.go gD).tt gb _ _ (((i9.go gC).tt ga _ _ ((i8.tt g9 _ _ z).kt gC.kt)).kt gD.kt)
      have g2b : GoR G L x H2 Hb := (((((((((((g3.trans g4).trans g5).trans gA.toR).trans g6).trans gB.toR).trans g7).trans g8).trans g9).trans gC.toR).trans ga).trans gD.toR).trans gb
      have hS' : Tp Hb S (d.st.map V.str) := t8b _ _ (t68 _ _ ((t56 _ _ ((t25 _ _ s2).kt gA.kt)).kt gB.kt))
      have hA' : Tp Hb pA [] := t8b _ _ (t68 _ _ ((t56 _ _ (.inl eA)).kt gB.kt))
      have hB' : Tp Hb pB [] := t8b _ _ (t68 _ _ (.inl eB))
      refine q ⟨.ref rr, .ref S, gv, .ref pA, .ref pB, .bl false, .ref S, .ref pC, .ref pD⟩ Hb (g2.toR.trans g2b) rfl rfl ⟨ib, rr, S, pA, pB, rfl, rfl, rfl, rfl, i2.rules g2b R.ne r2, hS', ?_, ?_⟩
      · rw [ed]
        exact hA'
      · rw [eu]
        exact hB'
    rcases hg with rfl | ⟨T, gs, rfl, hT, hsub, hbr⟩
    · rw [if_neg (by decide)]
      exact fin H1 g1
    · rw [decide_eq_false (show ¬ (V.ref T = V.non) from fun z => by cases z), Bool.not_false, if_pos rfl]
      repeat walk_at "rs"
      refine chk (hru.kt g1.kt) (hT.kt g1.kt) hsub hbr fun H2 g2 => ?_
      exact fin H2 (g1.trans g2)
end
local macro_rules | `(tactic| walk_at "rs") => `(tactic| first | (with_reducible refine r_tM1 ?_) | (with_reducible refine r_u1 ?_) | (with_reducible refine r_un ?_) | (with_reducible refine r_sfl ?_) | walk_at "rd")
section
variable {P : Program} {w : World} {K : PySem.W.Frag} {mg : Str → Option Value} {base : Heap} {G : List Addr} {L : List (Addr × Str)} {H H' : Hp} {x : Addr} {f : Ro}
/-- a property of Rollout -/
structure FpO (P : Program) (w : World) (K : PySem.W.Frag) (mg : Str → Option Value) (base : Heap) (m : Str) (k : Nat) (sp : Sp) : Prop where
  c : Cls K (cO K)
  ex : ∃ (p g : Addr) (fd : FuncData), PropOf K (cO K) m p g ∧ FnOk P w K mg base CX0 k g fd ["self"] sp ∧ Binds K fd ["self"] []
theorem pe_fpO {X : Cx} {m : Str} {k j : Nat} {sp : Sp} {e : Expr} {pos : Pos} {ta : TE} (c : FpO X.prog X.w X.K X.mg X.base m k sp) (hr : Room j X.A) (he : PE X e ta) (hk : k + 1 ≤ j := by decide) (hab : attributeBase e m X.env (eval e X.env) = eval e X.env := by rfl) :
    PE X (.Attribute e m pos) (tProp (cO X.K) sp [] E0 ta) := by
  obtain ⟨p, g, fd, h1, F, b⟩ := c.ex
  exact pe_prop he c.c h1 F (hr.mono hk) b .nil pass0 hab
theorem r_fpO {σ : L2.St} {Q : VK} {sp : Sp} {ta : TE} (hx : ∀ R : VK, R (.ref x) H → ta σ H R) (h : RoAt K H x f) (q : sp [.ref x] H Q E0) : tProp (cO K) sp [] E0 ta σ H Q := by
  obtain ⟨dx, h1⟩ := h
  exact hx _ ⟨x, dx, _, rfl, h1, q⟩
theorem scGetO (i : Nat) (h : i = 1 ∨ i = 2) : FnScope ["self"] ["self"] (defScope (sO i)) := by
  rcases h with rfl | rfl <;> exact C8.fnScope_by (by decide +kernel)
theorem ok_state {g : Addr} {fd : FuncData} (F : Fun K "state" "Rollout.state" (sO 1) g fd) (R : RoC K mg) : FnOk P w K mg base CX0 1 g fd ["self"] (getSp (cO K) "_state") := by
  obtain ⟨oc, od, kV, doc, pm, an, cdv, ct, osl, efd, lk, hcd⟩ := F.ex
  subst efd
  exact fn_getter (f := "_state") lk hcd (scGetO 1 (.inl rfl)) rfl rfl R.cl (R.na _ (by decide))
theorem ok_target {g : Addr} {fd : FuncData} (F : Fun K "target" "Rollout.target" (sO 2) g fd) (R : RoC K mg) : FnOk P w K mg base CX0 1 g fd ["self"] (getSp (cO K) "_goal") := by
  obtain ⟨oc, od, kV, doc, pm, an, cdv, ct, osl, efd, lk, hcd⟩ := F.ex
  subst efd
  exact fn_getter (f := "_goal") lk hcd (scGetO 2 (.inr rfl)) rfl rfl R.cl (R.na _ (by decide))
theorem r_pstate {σ : L2.St} {Q : VK} {ta : TE} (hx : ∀ R : VK, R (.ref x) H → ta σ H R) (h : RoAt K H x f) (q : Q f.st H) : tProp (cO K) (getSp (cO K) "_state") [] E0 ta σ H Q := by
  obtain ⟨dx, h1⟩ := h
  exact hx _ ⟨x, dx, _, rfl, h1, x, dx, _, f.st, rfl, h1, rfl, q⟩
theorem r_ptarget {σ : L2.St} {Q : VK} {ta : TE} (hx : ∀ R : VK, R (.ref x) H → ta σ H R) (h : RoAt K H x f) (q : Q f.go H) : tProp (cO K) (getSp (cO K) "_goal") [] E0 ta σ H Q := by
  obtain ⟨dx, h1⟩ := h
  exact hx _ ⟨x, dx, _, rfl, h1, x, dx, _, f.go, rfl, h1, rfl, q⟩
theorem scHist : FnScope ["self"] ["self"] (defScope (sO 3)) := C8.fnScope_by (by decide +kernel)
def spHist (K : PySem.W.Frag) : Sp := fun vs H Q _ => ∃ (x : Addr) (f : Ro) (D : Addr) (dn : List Str), vs = [.ref x] ∧ RoAt K H x f ∧ f.dn = .ref D ∧ Tp H D (dn.map V.str) ∧ ∀ p, H p = none → Q (.ref p) (upd H p (.lst (dn.map V.str)))
theorem ok_hist {g : Addr} {fd : FuncData} (F : Fun K "history" "Rollout.history" (sO 3) g fd) (R : RoC K mg) (zl : mg "list" = none) : FnOk P w K mg base CX0 2 g fd ["self"] (spHist K) := by
  refine F.ok scHist (fun vs H Q E h => ?_) (fun cdv A outer s H vs Q E hr h => ?_)
  · obtain ⟨x, f, D, dn, e, _⟩ := h
    rw [e]
    rfl
  · obtain ⟨x, f, D, dn, e, h0, ed, hD, q⟩ := h
    subst e
    refine ⟨_, pss_one (ps_ret (pe_callTy (r := cList K) (T := "list") c_list rfl zl (by decide +kernel) (pa_cons (pe_fld (pv 0) rfl) pa_nil))), ?_⟩
    repeat walk_at "rs"
    refine r_ro R h0 ?_
    rw [ed]
    repeat walk_at "rs"
    exact ⟨D, _, rfl, .inr hD.seq, fun p hp => q p hp⟩
theorem scRem : FnScope ["self"] ["self"] (defScope (sO 4)) := C8.fnScope_by (by decide +kernel)
/-- Rollout(rules, state) -/
structure MkO (P : Program) (w : World) (K : PySem.W.Frag) (mg : Str → Option Value) (base : Heap) (G : List Addr) (L : List (Addr × Str)) : Prop where
  c : RoC K mg
  ex : ∃ (f : Addr) (fd : FuncData), Mk K (cO K) f ∧ FnOk P w K mg base (L2.CX P w) 7 f fd nOI (spOInit K G L) ∧ Binds K fd nOI [Value.none]
theorem pe_mkO {X : Cx} {E : XK} {j : Nat} {e : Expr} {es : List Expr} {p pos : Pos} {t : TA} (M : MkO X.prog X.w X.K X.mg X.base G L) (hr : Room j X.A) (hx : Passes (L2.CX X.prog X.w) X E) (ha : PA X (e :: es) t) (hk : 8 ≤ j := by decide) (hg : Gl X "Rollout" := by rfl)
    (he : starEach (e :: es) X.env = (false, eval e X.env) :: starEach es X.env := by rfl) (hpl : (backTo pos (starEach es X.env)).any (·.1) = false := by rfl) :
    PE X (.Call (.Name "Rollout" p) (e :: es) [] pos) (tMake (cO X.K) (spOInit X.K G L) [.non] E t) := by
  obtain ⟨f, fd, h1, F, b⟩ := M.ex
  exact pe_make h1 F (hr.mono hk) hg M.c.g b (.cons rfl .nil) hx ha (by decide) he hpl
end
local macro_rules | `(tactic| walk_at "rs") => `(tactic| first | (with_reducible refine r_tM1 ?_) | (with_reducible refine r_u1 ?_) | (with_reducible refine r_un ?_) | (with_reducible refine r_sfl ?_) | walk_at "rd")
section
variable {P : Program} {w : World} {K : PySem.W.Frag} {mg : Str → Option Value} {base : Heap} {G : List Addr} {L : List (Addr × Str)} {H H' : Hp} {x : Addr} {f : Ro}
abbrev nRs : List Str := ["cls", "rules", "state", "changes", "goal", "rollout"]
theorem scResumed : FnScope nRs ["cls", "rules", "state", "changes", "goal"] (defScope (sO 10)) := C8.fnScope_by (by decide +kernel)
/-- cls(rules, state, goal=goal) -/
structure MkOK (P : Program) (w : World) (K : PySem.W.Frag) (mg : Str → Option Value) (base : Heap) (G : List Addr) (L : List (Addr × Str)) : Prop where
  c : RoC K mg
  ex : ∃ (f : Addr) (fd : FuncData), Mk K (cO K) f ∧ FnOk P w K mg base (L2.CX P w) 7 f fd nOI (spOInit K G L) ∧ ∃ g, KBn K fd nOI 3 ["goal"] g (fun vs zs => vs ++ zs)
theorem go_new (nx : H x = none) (g : GoR G L x H H') : Go G L H H' := ⟨fun b o e n => g.1 b o (fun z => by rw [z, nx] at e; cases e) n e, g.2⟩
set_option maxHeartbeats 1000000 in
end
local macro_rules | `(tactic| walk_at "rs") => `(tactic| first | (with_reducible refine r_tM1 ?_) | (with_reducible refine r_u1 ?_) | (with_reducible refine r_un ?_) | walk_at "rd")
section
variable {P : Program} {w : World} {K : PySem.W.Frag} {mg : Str → Option Value} {base : Heap} {G : List Addr} {L : List (Addr × Str)}
/-- what the law makes of changes: the first error, in its words -/
def madeE (ns : List Str) (cd : List PyData) : Nat → List Str → List Str → Option PyData
  | _, _, [] => none
  | i, s, z :: cs => if z ∈ ns then (match brokenFrom ((swD ns s z).map PyData.str) 0 cd with
    | [] => madeE ns cd (i + 1) (swD ns s z) cs
    | j :: _ => some (.tuple [.str "error", .str "IllegalStep", .int (i : Nat), .int (j : Nat)])) else some (.tuple [.str "error", .str "UnknownSwitch", .str z])
theorem made_way {ns : List Str} {cd : List PyData} : ∀ {cs : List Str} {s : List Str} {i : Nat}, madeE ns cd i s cs = none ↔ wayE ns cd i s (cs.map PyData.str) = none
  | [], s, i => ⟨fun _ => rfl, fun _ => rfl⟩
  | z :: cs, s, i => by
    simp only [List.map_cons]
    unfold madeE wayE
    by_cases c : z ∈ ns
    · rw [if_pos c, if_pos c]
      cases e : brokenFrom ((swD ns s z).map PyData.str) 0 cd with
      | nil => exact made_way
      | cons j r => exact ⟨fun h => (by cases h), fun h => (by cases h)⟩
    · rw [if_neg c, if_neg c]
      exact ⟨fun h => (by cases h), fun h => (by cases h)⟩
theorem way_end {ns : List Str} {cd : List PyData} : ∀ {cs : List Str} {s : List Str} {i : Nat}, wayE ns cd i s (cs.map PyData.str) = none → ((wayS ns cd s (cs.map PyData.str)).getLast?).getD s = runS ns s cs ∧ (brokenFrom (s.map PyData.str) 0 cd = [] → brokenFrom ((runS ns s cs).map PyData.str) 0 cd = [])
  | [], s, i, _ => ⟨rfl, id⟩
  | z :: cs, s, i, h => by
    simp only [List.map_cons] at h ⊢
    unfold wayE at h
    unfold wayS
    by_cases c : z ∈ ns
    · rw [if_pos c] at h ⊢
      cases e : brokenFrom ((swD ns s z).map PyData.str) 0 cd with
      | nil =>
        rw [e] at h
        simp only at h ⊢
        obtain ⟨h1, h2⟩ := way_end h
        refine ⟨?_, fun _ => h2 e⟩
        show _ = runS ns (swD ns s z) cs
        rw [← h1]
        cases hw : wayS ns cd (swD ns s z) (cs.map PyData.str) with
        | nil => rfl
        | cons a l =>
          rw [List.getLast?_cons_cons]
          cases hl : (a :: l).getLast? with
          | none => simp at hl
          | some v => rfl
      | cons j r => rw [e] at h; cases h
    · rw [if_neg c] at h
      cases h
/-- the law's words and the exception's -/
theorem told_made {H : Hp} {cls : Value} {dd : Option Addr} {ns : List Str} {cd : List PyData} : ∀ {cs : List Str} {s : List Str} {i : Nat} {D : PyData}, wayE ns cd i s (cs.map PyData.str) = some D → Told K cls dd H D → ∃ E, madeE ns cd i s cs = some E ∧ Told5 K cls dd H E
  | [], s, i, D, h, _ => by cases h
  | z :: cs, s, i, D, h, hT => by
    simp only [List.map_cons] at h
    unfold wayE at h
    unfold madeE
    by_cases c : z ∈ ns
    · rw [if_pos c] at h ⊢
      cases e : brokenFrom ((swD ns s z).map PyData.str) 0 cd with
      | nil =>
        rw [e] at h
        exact told_made h hT
      | cons j r =>
        rw [e] at h
        obtain rfl := Option.some.inj h
        refine ⟨_, rfl, ?_⟩
        rcases hT with ⟨_, p, i, e1, _, _, e4⟩ | ⟨_, i, e1, _, _, e4⟩ | ⟨e1, _, e4⟩ | ⟨e1, _, e4⟩ | ⟨e1, _, e4⟩ | ⟨_, i, e1, _, _, e4⟩ | ⟨a, i2, j2, e1, e2, e3, e4⟩ | ⟨_, v, e, e1, _, _, _, e4⟩ | ⟨_, v, e, e1, _, _, _, e4⟩
        all_goals first | (exact absurd (PyData.str.inj (List.cons.inj (PyData.tuple.inj e4)).1) (by decide +kernel)) | skip
        simp only [PyData.tuple.injEq, List.cons.injEq, PyData.int.injEq, and_true, true_and] at e4
        obtain ⟨e5, e6⟩ := e4
        subst e1 e2 e5 e6
        exact ⟨"IllegalStep", [.int (i : Nat), .int (j : Nat)], by decide, rfl, rfl, (by show ∃ dd' kv v e es, _; exact ⟨a, _, _, _, _, rfl, rfl, e3, rfl, .int _, a, _, _, _, _, rfl, rfl, e3, rfl, .int _, rfl⟩), .inr ⟨a, _, rfl, e3⟩⟩
    · rw [if_neg c] at h ⊢
      obtain rfl := Option.some.inj h
      refine ⟨_, rfl, ?_⟩
      rcases hT with ⟨_, p, i, e1, _, _, e4⟩ | ⟨_, i, e1, _, _, e4⟩ | ⟨e1, _, e4⟩ | ⟨e1, _, e4⟩ | ⟨e1, _, e4⟩ | ⟨_, i, e1, _, _, e4⟩ | ⟨_, i2, j2, e1, e2, e3, e4⟩ | ⟨a, v, e, e1, e2, e3, him, e4⟩ | ⟨_, v, e, e1, _, _, _, e4⟩
      all_goals first | (exact absurd (PyData.str.inj (List.cons.inj (PyData.tuple.inj e4)).1) (by decide +kernel)) | skip
      simp only [PyData.tuple.injEq, List.cons.injEq, and_true, true_and] at e4
      subst e1 e2 e4
      exact ⟨"UnknownSwitch", [.str z], by decide, rfl, rfl, (by show ∃ dd' kv v e es, _; exact ⟨a, _, _, _, _, rfl, rfl, e3, rfl, him, rfl⟩), .inr ⟨a, _, rfl, e3⟩⟩
end
local macro_rules | `(tactic| walk_at "rs") => `(tactic| first | (with_reducible refine r_tM1 ?_) | (with_reducible refine r_u1 ?_) | (with_reducible refine r_un ?_) | walk_at "rd")
section
variable {P : Program} {w : World} {K : PySem.W.Frag} {mg : Str → Option Value} {base : Heap} {G : List Addr} {L : List (Addr × Str)}
end
section
variable {P : Program} {w : World} {K : PySem.W.Frag} {mg : Str → Option Value} {base : Heap} {G : List Addr} {L : List (Addr × Str)}
end
section
variable {P : Program} {w : World} {K : PySem.W.Frag} {mg : Str → Option Value} {base : Heap} {G : List Addr} {L : List (Addr × Str)}
end
section
variable {G : List Addr} {L : List (Addr × Str)}
theorem pe_toldV {X : Cx} {k j : Nat} {e : Expr} {te : TE} {p pos : Pos} (C : TzD X.K X.mg) (hr : Room j X.A) (he : PE X e te) (hk : k + 2 ≤ j := by decide) (hg : Gl X "_law_told" := by rfl)
    (hst : starEach [e] X.env = (false, eval e X.env) :: starEach [] X.env := by rfl) (hpl : (backTo pos (starEach [] X.env)).any (·.1) = false := by rfl) :
    PE X (.Call (.Name "_law_told" p) [e] [] pos) (tGive X k te (TR5 X.K G L)) := by
  obtain ⟨g, fd, F, hm, b⟩ := C.ex
  obtain ⟨oc, od, kV, doc, pm, an, cdv, ct, osl, efd, lk, hcd⟩ := F.ex
  subst efd
  exact pe_give hg hm F.kp lk hcd b scTold rfl (.inl rfl) (told5_gives C.rz) (hr.mono hk) he hst hpl
theorem pe_lamW0 {X : Cx} {c P : Addr} {ps : Arguments} {b : Expr} {sc : Scope} {pos : Pos} (TB : LamX.TabB X.base X.mg c P) (hcode : X.env.code = .ref c) (Lm : LamS1 X.N X.env.scope sc) (hdef : defaultsOf ps X.env = ([], []) := by rfl) :
    PE X (.Lambda ps b sc pos) (tLamV X ps b sc none P) := ⟨fun pins s σ H Q I h => (pe_lamV0 TB hcode (Lm.has I.ok) hdef).run pins s σ H Q I h⟩
theorem pe_lamW1 {X : Cx} {c P : Addr} {ps : Arguments} {b e : Expr} {sc : Scope} {pos : Pos} {i : Int} (TB : LamX.TabB X.base X.mg c P) (hcode : X.env.code = .ref c) (Lm : LamS1 X.N X.env.scope sc) (he : PE X e (tC (.int i))) (hd : ps.defaults = [e] := by rfl) (hk : ps.kw_defaults = [] := by rfl) :
    PE X (.Lambda ps b sc pos) (tLamV X ps b sc (some i) P) := ⟨fun pins s σ H Q I h => (pe_lamV1 TB hcode (Lm.has I.ok) hd hk he).run pins s σ H Q I h⟩
theorem r_lamV {X : Cx} {ps : Arguments} {b : Expr} {sc : Scope} {df : Option Int} {σ : L2.St} {H : Hp} {Q : VK} {Pn : Addr} {q : Str} (eq : X.env.qual ++ "<lambda>" = q) (A : Apart G L) (hp : (Pn, q) ∈ L) (ht : TBS G L H) (h : ∀ f c' H1, Go G L H H1 → LamAt X ps b sc df H1 f c' → Q (.ref f) H1) : tLamV X ps b sc df Pn σ H Q := by
  subst eq
  exact ⟨ht.2 _ hp, fun f c' H1 bt ts la _ => h f c' H1 (Go.but A hp ht bt ts) la⟩
theorem lamAt_go {X : Cx} {ps : Arguments} {b : Expr} {sc : Scope} {df : Option Int} {H H' : Hp} {f c' : Addr} (h : LamAt X ps b sc df H f c') (g : Go G L H H') : LamAt X ps b sc df H' f c' := h.kept fun d o n1 n2 e => g.kt d o n2 n1 e
end
section
end
/-- what _law_told wants of an error -/
def TE5 (K : PySem.W.Frag) (G : List Addr) (L : List (Addr × Str)) (Q : VK) : XK := fun cls d H' => ∃ D, Told5 K cls d H' D ∧ ∀ v H2, Go G L H' H2 → Im H2 v D → Q v H2
section
variable {G : List Addr} {L : List (Addr × Str)}
theorem pe_toldVB {X : Cx} {k j : Nat} {e : Expr} {te : TE} {p pos : Pos} {s0 : Shared} {H0 : Hp} {bs : Scope} {cl : List (Str × Addr)} {C0 : Addr} {fp : List Addr} {pz : List (Addr × Obj)} {σo : L2.St} (I0 : Inv X pz σo H0 s0) (off : CellsOff X fp) (C : TzD X.K X.mg) (hr : Room j X.A) (he : PE (cX X s0 H0 bs cl C0 fp) e te) (hk : k + 2 ≤ j := by decide) (hg : Gl (cX X s0 H0 bs cl C0 fp) "_law_told" := by rfl)
    (hst : starEach [e] (cX X s0 H0 bs cl C0 fp).env = (false, eval e (cX X s0 H0 bs cl C0 fp).env) :: starEach [] (cX X s0 H0 bs cl C0 fp).env := by rfl) (hpl : (backTo pos (starEach [] (cX X s0 H0 bs cl C0 fp).env)).any (·.1) = false := by rfl) :
    PE (cX X s0 H0 bs cl C0 fp) (.Call (.Name "_law_told" p) [e] [] pos) (tGiveO X σo k te (TR5 X.K G L)) := by
  obtain ⟨g, fd, F, hm, b⟩ := C.ex
  obtain ⟨oc, od, kV, doc, pm, an, cdv, ct, osl, efd, lk, hcd⟩ := F.ex
  subst efd
  exact pe_giveB I0 off hg hm F.kp lk hcd b scTold rfl (.inl rfl) (told5_gives C.rz) (hr.mono hk) he hst hpl
/-- a lambda given to a def that calls it -/
theorem give_at {X : Cx} {k : Nat} {TT : (XK → Hp → VK → Prop) → Hp → VK → Prop} {σ : L2.St} {H : Hp} {Q : VK} {ps : Arguments} {b : Expr} {sc : Scope} {df : Option Int} {f c' : Addr} (la : LamAt X ps b sc df H f c') (Lm : LamS1 X.N X.env.scope sc) (bd : LamBind ps b sc df) (t : XK → TE)
    (body : ∀ (A : Around) (outer : List Env) (s : Shared) (H : Hp) (E : XK) (f c' : Addr), Room k (A.deeper (LamX.lamEnv X sc s.heap.objs.size f c')) → PE (LamX.lamCx X A outer s H E sc f c') b (t E)) (h : TT (fun E H' Q' => t E σ H' Q') H Q) :
    ∃ (l : LamK X k) (g c0 : Addr), V.ref f = .ref g ∧ LamAt X l.ps l.b l.sc l.df H g c0 ∧ TT (fun E H' Q' => l.t E σ H' Q') H Q := ⟨⟨ps, b, sc, df, t, Lm, bd, body⟩, f, c', rfl, la, h⟩
theorem r_give {X : Cx} {k : Nat} {te : TE} {TT : (XK → Hp → VK → Prop) → Hp → VK → Prop} {σ : L2.St} {H : Hp} {Q : VK} (h : te σ H fun v H1 => ∃ (l : LamK X k) (f c' : Addr), v = .ref f ∧ LamAt X l.ps l.b l.sc l.df H1 f c' ∧ TT (fun E H' Q' => l.t E σ H' Q') H1 Q) : tGive X k te TT σ H Q := h
theorem r_giveO {X : Cx} {k : Nat} {te : TE} {TT : (XK → Hp → VK → Prop) → Hp → VK → Prop} {σ σo : L2.St} {H : Hp} {Q : VK} (h : te σ H fun v H1 => ∃ (l : LamK X k) (f c' : Addr), v = .ref f ∧ LamAt X l.ps l.b l.sc l.df H1 f c' ∧ TT (fun E H' Q' => l.t E σo H' Q') H1 Q) : tGiveO X σo k te TT σ H Q := h
theorem r_tr5 {K : PySem.W.Frag} {tl : XK → Hp → VK → Prop} {H : Hp} {Q : VK} (h : tl (TE5 K G L Q) H Q) : TR5 K G L tl H Q := h
theorem lamBind1 {ps : Arguments} {b : Expr} {sc : Scope} {i : Int} (x0 : Str) (h0 : sc.names.lookup x0 = some .local) (h : ∀ (q : Str) (cl : List (Str × Addr)) (T : Addr) (doc pm cv ct u : Value), ∃ r, bindArgs (PySem.W.kdv_fn "<lambda>" q ps (.expr b) sc cl (.ref T) doc pm cv ct) ⟨[], []⟩ = (seqItems? (.ref T) >>= r) ∧ r (some #[u]) = pure [(x0, u)]) : LamBind ps b sc (some i) := ⟨x0, h0, h⟩
end
section
variable {K : PySem.W.Frag} {mg : Str → Option Value} {G : List Addr} {L : List (Addr × Str)}
end
local macro_rules | `(tactic| walk_at "rs") => `(tactic| first | (with_reducible refine r_tM1 ?_) | (with_reducible refine r_u1 ?_) | (with_reducible refine r_un ?_) | walk_at "rd")
section
variable {P : Program} {w : World} {K : PySem.W.Frag} {mg : Str → Option Value} {base : Heap} {G : List Addr} {L : List (Addr × Str)}
end
section
variable {P : Program} {w : World} {K : PySem.W.Frag} {mg : Str → Option Value} {base : Heap} {G : List Addr} {L : List (Addr × Str)}
theorem wayE_ix {ns : List Str} {cd : List PyData} : ∀ {b : List Str} {s : List Str} {i j : Nat}, wayE ns cd i s (b.map PyData.str) = none → wayE ns cd j s (b.map PyData.str) = none
  | [], _, _, _, _ => rfl
  | z :: b, s, i, j, h => by
    simp only [List.map_cons] at h ⊢
    unfold wayE at h ⊢
    by_cases c : z ∈ ns
    · rw [if_pos c] at h ⊢
      cases e : brokenFrom ((swD ns s z).map PyData.str) 0 cd with
      | nil =>
        rw [e] at h
        exact wayE_ix h
      | cons k r => rw [e] at h; cases h
    · rw [if_neg c] at h
      cases h
theorem wayE_cons {ns : List Str} {cd : List PyData} {i : Nat} {s : List Str} {z : Str} {ds : List PyData} : wayE ns cd i s (.str z :: ds) = if z ∈ ns then (match brokenFrom ((swD ns s z).map PyData.str) 0 cd with
    | [] => wayE ns cd (i + 1) (swD ns s z) ds
    | j :: _ => some (.tuple [.str "step", .int (i : Nat), .int (j : Nat)])) else some (.tuple [.str "switch", .str z]) := by
  first | (rw [wayE]; done) | (rw [wayE]; rfl)
theorem wayE_app {ns : List Str} {cd : List PyData} {b : List Str} {j : Nat} : ∀ {a : List Str} {s : List Str} {i : Nat}, wayE ns cd i s ((a ++ b).map PyData.str) = none ↔ wayE ns cd i s (a.map PyData.str) = none ∧ wayE ns cd j (runS ns s a) (b.map PyData.str) = none
  | [], s, i => ⟨fun h => ⟨rfl, wayE_ix h⟩, fun h => wayE_ix h.2⟩
  | z :: a, s, i => by
    simp only [List.cons_append, List.map_cons]
    show wayE ns cd i s (.str z :: (a ++ b).map PyData.str) = none ↔ _ ∧ wayE ns cd j (runS ns (swD ns s z) a) _ = none
    rw [wayE_cons, wayE_cons]
    by_cases c : z ∈ ns
    · rw [if_pos c, if_pos c]
      cases e : brokenFrom ((swD ns s z).map PyData.str) 0 cd with
      | nil => exact wayE_app
      | cons k r => exact ⟨fun h => (by cases h), fun h => (by cases h.1)⟩
    · rw [if_neg c, if_neg c]
      exact ⟨fun h => (by cases h), fun h => (by cases h.1)⟩
theorem wayE_mem {ns : List Str} {cd : List PyData} : ∀ {a : List Str} {s : List Str} {i : Nat}, wayE ns cd i s (a.map PyData.str) = none → ∀ z ∈ a, z ∈ ns
  | [], _, _, _, z, hz => by cases hz
  | y :: a, s, i, h, z, hz => by
    simp only [List.map_cons] at h
    unfold wayE at h
    by_cases c : y ∈ ns
    · rw [if_pos c] at h
      cases e : brokenFrom ((swD ns s y).map PyData.str) 0 cd with
      | nil =>
        rw [e] at h
        rcases List.mem_cons.mp hz with rfl | hz
        · exact c
        · exact wayE_mem h z hz
      | cons k r => rw [e] at h; cases h
    · rw [if_neg c] at h
      cases h
theorem runS_sub {ns : List Str} : ∀ {a s : List Str}, s.Sublist ns → (runS ns s a).Sublist ns
  | [], _, h => h
  | z :: a, s, _ => by
    show (runS ns (swD ns s z) a).Sublist ns
    exact runS_sub (swD_sub _ _ _)
theorem runS_snoc {ns : List Str} {a s : List Str} {y : Str} : runS ns s (a ++ [y]) = swD ns (runS ns s a) y := by
  unfold runS
  rw [List.foldl_append]
  rfl
theorem runS_app {ns : List Str} {a b s : List Str} : runS ns s (a ++ b) = runS ns (runS ns s a) b := by
  unfold runS
  rw [List.foldl_append]
variable {ns : List Str} {cd : List PyData} {s0 : List Str} {d : RoD}
theorem Trk.wdn (t : Trk ns cd s0 d) : wayE ns cd 0 s0 (d.dn.map PyData.str) = none := (wayE_app (j := 0).mp t.way).1
theorem Trk.good (t : Trk ns cd s0 d) (b : Base51 ns cd s0) : RoGood d := by
  refine ⟨?_, ?_, ?_, ?_⟩
  · rw [t.ens, t.ecd]; exact b.ok
  · rw [t.ens]; exact b.n10
  · rw [t.ens, t.run]; exact runS_sub b.sub
  · rw [t.ecd, t.run]; exact (way_end t.wdn).2 b.leg
theorem Trk.memD (t : Trk ns cd s0 d) : ∀ z ∈ d.dn, z ∈ ns := fun z hz => wayE_mem t.way z (List.mem_append.mpr (.inl hz))
theorem Trk.chg (t : Trk ns cd s0 d) {cs : List Str} (h : madeE ns cd 0 d.st cs = none) : Trk ns cd s0 (chgD d cs) ∧ (chgD d cs).st = runS ns d.st cs := by
  have h1 := made_way.mp h
  have h2 := (way_end h1).1
  have e1 : endS d cs = runS ns d.st cs := by
    unfold endS
    rw [t.ens, t.ecd]
    exact h2
  refine ⟨⟨t.ens, t.ecd, ?_, ?_⟩, e1⟩
  · show endS d cs = runS ns s0 (d.dn ++ cs)
    rw [e1, runS_app, ← t.run]
  · show wayE ns cd 0 s0 (((d.dn ++ cs) ++ (if cs = [] then d.un else []).reverse).map PyData.str) = none
    by_cases c : cs = []
    · rw [if_pos c, c, List.append_nil]
      exact t.way
    · rw [if_neg c, List.reverse_nil, List.append_nil]
      refine (wayE_app (j := 0)).mpr ⟨t.wdn, ?_⟩
      rw [← t.run]
      exact h1
variable {HB H H' : Hp} {ρ : Rid} {x T dl ul : Addr} {f f' : Ro} {d' e : RoD}
theorem GoR.thru {H1 : Hp} {r : Addr} (g : GoR G L r HB H1) (n : Nw HB x) (g2 : GoR G L x H1 H') : GoR G L r HB H' :=
  ⟨fun b o h1 h2 e => g2.1 b o (fun z => n o h2 (z ▸ e)) h2 (g.1 b o h1 h2 e), fun t => g2.2 (g.2 t)⟩
/-- the rollout has changed -/
theorem Now.set (n : Now K G L HB H ρ x T dl ul f d e) (hB : Row K HB ρ) (nx : Nw HB x) (g : GoR G L x H H') (h : RolAt K H' x f' d') (eg : f'.go = f.go) (eo : f'.op = f.op) : Now K G L HB H' ρ x T dl ul f' d' e := by
  have g2 := GoR.thru n.g nx g
  obtain ⟨xs, er⟩ := n.row.lst
  exact ⟨g2, hB.re n.row g2.1 (by rw [er]; exact n.rol.1.lst g er), g.2 n.tb, h, eg.trans n.go, eo.trans n.op, n.rol.1.tt g _ _ n.now, n.nd, n.nu, n.rol.1.lst g n.dn, n.rol.1.lst g n.un⟩
end
abbrev PrD := Nat × Str × Str
/-- the switches in which two states differ -/
def diffS (ns s g : List Str) : List Str := ns.filter fun z => decide (z ∈ s) != decide (z ∈ g)
/-- which of a clause's two switches is changed before the other one -/
def inOrd (w a b : Str) (s : List Str) : Str × Str := if (decide (a ∈ s) == decide (w = "either")) = true then (b, a) else (a, b)
def prOf (ch s : List Str) (i : Nat) : PyData → List PrD
  | .tuple [.str w, .str a, .str b] => if a ≠ b ∧ a ∈ ch ∧ b ∈ ch then [(i, inOrd w a b s)] else []
  | _ => []
def ordP (ch s : List Str) : Nat → List PyData → List PrD
  | _, [] => []
  | i, d :: cd => prOf ch s i d ++ ordP ch s (i + 1) cd
/-- the switches that a switch has to wait for -/
def waitL (prs : List PrD) (z : Str) : List Str := (prs.filter fun p => decide (p.2.2 = z)).map fun p => p.2.1
def possS (ch : List Str) (W : Str → List Str) (done : List Str) : List Str := ch.filter fun z => !decide (z ∈ done) && (W z).all fun b => decide (b ∈ done)
def longS (ch : List Str) (W : Str → List Str) : Nat → List Str → List Str
  | 0, done => done
  | n + 1, done => match possS ch W done with
    | [] => done
    | z :: _ => longS ch W n (done ++ [z])
def wayF (ch : List Str) (W : Str → List Str) : List Str := longS ch W ch.length []
def leftS (ch way : List Str) : List Str := ch.filter fun z => !decide (z ∈ way)
theorem Resp.snoc {W : Str → List Str} {p : List Str} {z : Str} (h : Resp W p) (hz : ∀ b ∈ W z, b ∈ p) : Resp W (p ++ [z]) := by
  intro u y v e b hb
  rcases List.eq_nil_or_concat v with rfl | ⟨v', x, rfl⟩
  · obtain ⟨e1, e2⟩ := List.append_inj' e rfl
    obtain rfl : z = y := (List.cons.inj e2).1
    rw [← e1]
    exact hz b hb
  · rw [List.concat_eq_append, ← List.cons_append, ← List.append_assoc] at e
    obtain ⟨e1, _⟩ := List.append_inj' e rfl
    exact h u y v' e1 b hb
theorem poss_mem {ch : List Str} {W : Str → List Str} {done : List Str} {z : Str} : z ∈ possS ch W done ↔ z ∈ ch ∧ z ∉ done ∧ ∀ b ∈ W z, b ∈ done := by
  unfold possS
  rw [List.mem_filter, Bool.and_eq_true, Bool.not_eq_true', decide_eq_false_iff_not, List.all_eq_true]
  exact ⟨fun h => ⟨h.1, h.2.1, fun b hb => of_decide_eq_true (h.2.2 b hb)⟩, fun h => ⟨h.1, h.2.1, fun b hb => decide_eq_true (h.2.2 b hb)⟩⟩
theorem Done.snoc {ch : List Str} {W : Str → List Str} {p : List Str} {z : Str} (h : Done ch W p) (hz : z ∈ possS ch W p) : Done ch W (p ++ [z]) := by
  obtain ⟨h1, h2, h3⟩ := poss_mem.mp hz
  refine ⟨?_, fun y hy => ?_, h.rs.snoc h3⟩
  · rw [List.nodup_append]
    refine ⟨h.nd, List.nodup_cons.mpr ⟨List.not_mem_nil, List.nodup_nil⟩, fun a ha b hb e => ?_⟩
    rw [List.mem_singleton.mp hb] at e
    exact h2 (e ▸ ha)
  · rcases List.mem_append.mp hy with hy | hy
    · exact h.sub y hy
    · rw [List.mem_singleton.mp hy]
      exact h1
theorem Done.lt {ch : List Str} {W : Str → List Str} {p : List Str} {z : Str} (h : Done ch W p) (hz : z ∈ possS ch W p) : p.length < ch.length := by
  have := (h.snoc hz).len
  rw [List.length_append] at this
  have e : ([z] : List Str).length = 1 := rfl
  omega
theorem long_done {ch : List Str} {W : Str → List Str} : ∀ {n : Nat} {p : List Str}, Done ch W p → Done ch W (longS ch W n p)
  | 0, p, h => h
  | n + 1, p, h => by
    unfold longS
    cases e : possS ch W p with
    | nil => exact h
    | cons z r => exact long_done (h.snoc (by rw [e]; exact List.mem_cons_self))
theorem long_end {ch : List Str} {W : Str → List Str} : ∀ {n : Nat} {p : List Str}, Done ch W p → ch.length ≤ n + p.length → possS ch W (longS ch W n p) = []
  | 0, p, h, hl => by
    cases e : possS ch W p with
    | nil => exact e
    | cons z r =>
      have := h.lt (z := z) (by rw [e]; exact List.mem_cons_self)
      omega
  | n + 1, p, h, hl => by
    unfold longS
    cases e : possS ch W p with
    | nil => exact e
    | cons z r => exact long_end (h.snoc (by rw [e]; exact List.mem_cons_self)) (by rw [List.length_append]; have : ([z] : List Str).length = 1 := rfl; omega)
theorem way_done (ch : List Str) (W : Str → List Str) : Done ch W (wayF ch W) := long_done .nil
theorem way_stop (ch : List Str) (W : Str → List Str) : possS ch W (wayF ch W) = [] := long_end .nil (by show ch.length ≤ ch.length + 0; omega)
/-- the loop, seen from its end -/
theorem long_step {ch : List Str} {W : Str → List Str} {n : Nat} {p : List Str} : longS ch W (n + 1) p = match possS ch W p with
    | [] => p
    | z :: _ => longS ch W n (p ++ [z]) := by
  rw [longS]
theorem long_stop {ch : List Str} {W : Str → List Str} {n : Nat} {p : List Str} (e : possS ch W p = []) : longS ch W n p = p := by
  cases n with
  | zero => rfl
  | succ n => rw [long_step, e]
theorem left_mem {ch way : List Str} {z : Str} : z ∈ leftS ch way ↔ z ∈ ch ∧ z ∉ way := by
  unfold leftS
  rw [List.mem_filter, Bool.not_eq_true', decide_eq_false_iff_not]
/-- the first of a list that is not in another one -/
theorem first_out {d : List Str} : ∀ {p : List Str}, (∃ z ∈ p, z ∉ d) → ∃ u y v, p = u ++ y :: v ∧ (∀ x ∈ u, x ∈ d) ∧ y ∉ d
  | [], ⟨z, hz, _⟩ => by cases hz
  | x :: p, h => by
    by_cases c : x ∈ d
    · obtain ⟨z, hz, hn⟩ := h
      have hz2 : z ∈ p := by
        rcases List.mem_cons.mp hz with rfl | hz
        · exact absurd c hn
        · exact hz
      obtain ⟨u, y, v, e, h1, h2⟩ := first_out ⟨z, hz2, hn⟩
      refine ⟨x :: u, y, v, by rw [e]; rfl, fun t ht => ?_, h2⟩
      rcases List.mem_cons.mp ht with rfl | ht
      · exact c
      · exact h1 t ht
    · exact ⟨[], x, p, rfl, fun t ht => (by cases ht), c⟩
/-- where there is any order, the first way is whole -/
theorem way_whole {ch : List Str} {W : Str → List Str} {p : List Str} (hr : Resp W p) (hs : ∀ z ∈ p, z ∈ ch) (hc : ∀ z ∈ ch, z ∈ p) : leftS ch (wayF ch W) = [] := by
  cases e : leftS ch (wayF ch W) with
  | nil => rfl
  | cons z r =>
    have hz : z ∈ leftS ch (wayF ch W) := by rw [e]; exact List.mem_cons_self
    obtain ⟨h1, h2⟩ := left_mem.mp hz
    obtain ⟨u, y, v, ep, hu, hy⟩ := first_out (d := wayF ch W) ⟨z, hc z h1, h2⟩
    have hp : y ∈ possS ch W (wayF ch W) := poss_mem.mpr ⟨hs y (by rw [ep]; exact List.mem_append.mpr (.inr List.mem_cons_self)), hy, fun b hb => hu b (hr u y v ep b hb)⟩
    rw [way_stop] at hp
    cases hp
/-- who is left waits for another one that is left -/
theorem left_waits {ch : List Str} {W : Str → List Str} (hW : ∀ z, ∀ b ∈ W z, b ∈ ch) {z : Str} (hz : z ∈ leftS ch (wayF ch W)) : ∃ b ∈ W z, b ∈ leftS ch (wayF ch W) := by
  obtain ⟨h1, h2⟩ := left_mem.mp hz
  refine Classical.byContradiction fun hn => ?_
  have hp : z ∈ possS ch W (wayF ch W) := poss_mem.mpr ⟨h1, h2, fun b hb => Classical.byContradiction fun hb2 => hn ⟨b, hb, left_mem.mpr ⟨hW z b hb, hb2⟩⟩⟩
  rw [way_stop] at hp
  cases hp
theorem mem_wait {prs : List PrD} {z b : Str} : b ∈ waitL prs z ↔ ∃ i, (i, b, z) ∈ prs := by
  unfold waitL
  rw [List.mem_map]
  constructor
  · rintro ⟨⟨i, x, y⟩, h, rfl⟩
    obtain ⟨h1, h2⟩ := List.mem_filter.mp h
    have h3 : y = z := of_decide_eq_true h2
    subst h3
    exact ⟨i, h1⟩
  · rintro ⟨i, h⟩
    exact ⟨(i, b, z), List.mem_filter.mpr ⟨h, decide_eq_true rfl⟩, rfl⟩
theorem mem_pr {ch s : List Str} {i : Nat} {d : PyData} {p : PrD} : p ∈ prOf ch s i d ↔ ∃ w a b, d = .tuple [.str w, .str a, .str b] ∧ p = (i, inOrd w a b s) ∧ a ≠ b ∧ a ∈ ch ∧ b ∈ ch := by
  unfold prOf
  split
  · rename_i w a b
    split
    · rename_i c
      constructor
      · intro h
        exact ⟨w, a, b, rfl, List.mem_singleton.mp h, c⟩
      · rintro ⟨w', a', b', h1, h2, h3⟩
        simp only [PyData.tuple.injEq, List.cons.injEq, PyData.str.injEq, and_true] at h1
        obtain ⟨rfl, rfl, rfl⟩ := h1
        rw [h2]
        exact List.mem_cons_self
    · rename_i c
      constructor
      · intro h
        cases h
      · rintro ⟨w', a', b', h1, h2, h3⟩
        simp only [PyData.tuple.injEq, List.cons.injEq, PyData.str.injEq, and_true] at h1
        obtain ⟨rfl, rfl, rfl⟩ := h1
        exact absurd h3 c
  · rename_i hne
    constructor
    · intro h
      cases h
    · rintro ⟨w', a', b', h1, _⟩
      exact absurd h1 (hne w' a' b')
theorem mem_ord {ch s : List Str} : ∀ {cd : List PyData} {i : Nat} {p : PrD}, p ∈ ordP ch s i cd ↔ ∃ j w a b, cd[j]? = some (.tuple [.str w, .str a, .str b]) ∧ p = (i + j, inOrd w a b s) ∧ a ≠ b ∧ a ∈ ch ∧ b ∈ ch := by
  intro cd
  induction cd with
  | nil => intro i p; exact ⟨fun h => (by cases h), fun ⟨j, w, a, b, h, _⟩ => (by cases h)⟩
  | cons d cd ih =>
    intro i p
    unfold ordP
    rw [List.mem_append, mem_pr, ih]
    constructor
    · rintro (⟨w, a, b, h1, h2, h3⟩ | ⟨j, w, a, b, h1, h2, h3⟩)
      · exact ⟨0, w, a, b, by rw [h1]; rfl, h2, h3⟩
      · exact ⟨j + 1, w, a, b, h1, by rw [h2, Nat.add_assoc, Nat.add_comm 1 j], h3⟩
    · rintro ⟨j, w, a, b, h1, h2, h3⟩
      cases j with
      | zero => exact .inl ⟨w, a, b, Option.some.inj h1, h2, h3⟩
      | succ j => exact .inr ⟨j, w, a, b, h1, by rw [h2, Nat.add_assoc, Nat.add_comm 1 j], h3⟩
theorem ordP_app {ch s : List Str} : ∀ {a b : List PyData} {i : Nat}, ordP ch s i (a ++ b) = ordP ch s i a ++ ordP ch s (i + a.length) b
  | [], b, i => rfl
  | d :: a, b, i => by
    show prOf ch s i d ++ ordP ch s (i + 1) (a ++ b) = (prOf ch s i d ++ ordP ch s (i + 1) a) ++ ordP ch s (i + (a.length + 1)) b
    rw [ordP_app, List.append_assoc, Nat.add_assoc, Nat.add_comm 1 a.length]
theorem ordP_one {ch s : List Str} {i : Nat} {w a b : Str} : ordP ch s i [.tuple [.str w, .str a, .str b]] = if a ≠ b ∧ a ∈ ch ∧ b ∈ ch then [(i, inOrd w a b s)] else [] := by
  show prOf ch s i (.tuple [.str w, .str a, .str b]) ++ [] = _
  rw [List.append_nil]
  rfl
theorem ordP_len {ch s : List Str} : ∀ {cd : List PyData} {i : Nat}, (ordP ch s i cd).length ≤ cd.length
  | [], i => Nat.le_refl _
  | d :: cd, i => by
    have ih := ordP_len (ch := ch) (s := s) (cd := cd) (i := i + 1)
    have h1 : (prOf ch s i d).length ≤ 1 := by
      unfold prOf
      split
      · split
        · exact Nat.le_refl _
        · exact Nat.zero_le _
      · exact Nat.zero_le _
    show (prOf ch s i d ++ ordP ch s (i + 1) cd).length ≤ cd.length + 1
    rw [List.length_append]
    omega
abbrev prW (ns : List Str) (cd : List PyData) (s g : List Str) : List PrD := ordP (diffS ns s g) s 0 cd
abbrev wayW (ns : List Str) (cd : List PyData) (s g : List Str) : List Str := wayF (diffS ns s g) (waitL (prW ns cd s g))
/-- there is a way -/
def Solv (ns : List Str) (cd : List PyData) (s g : List Str) : Prop := leftS (diffS ns s g) (wayW ns cd s g) = []
theorem mem_diff {ns s g : List Str} {z : Str} : z ∈ diffS ns s g ↔ z ∈ ns ∧ (decide (z ∈ s) != decide (z ∈ g)) = true := by
  unfold diffS
  rw [List.mem_filter]
theorem leg_all {s : List Str} {cd : List PyData} : brokenFrom (s.map PyData.str) 0 cd = [] ↔ ∀ d ∈ cd, brk (s.map PyData.str) d = false := by
  rw [broken_nil, List.filter_eq_nil_iff]
  exact ⟨fun h d hd => by simpa using h d hd, fun h d hd => by rw [h d hd]; exact Bool.false_ne_true⟩
theorem sw_dec {ns s : List Str} {z y : Str} (hz : z ∈ ns) : decide (z ∈ swD ns s y) = (decide (z ∈ s) != decide (z = y)) := by
  unfold swD
  have e : decide (z ∈ [y]) = decide (z = y) := decide_eq_decide.mpr List.mem_singleton
  cases hb : (decide (z ∈ s) != decide (z = y)) with
  | true => exact decide_eq_true (List.mem_filter.mpr ⟨hz, by rw [e]; exact hb⟩)
  | false =>
    refine decide_eq_false fun q => ?_
    have z2 : (decide (z ∈ s) != decide (z ∈ [y])) = true := (List.mem_filter.mp q).2
    rw [e, hb] at z2
    cases z2
theorem run_dec {ns : List Str} {z : Str} (hz : z ∈ ns) : ∀ {p s : List Str}, p.Nodup → decide (z ∈ runS ns s p) = (decide (z ∈ s) != decide (z ∈ p))
  | [], s, _ => by
    rw [show decide (z ∈ ([] : List Str)) = false from decide_eq_false List.not_mem_nil]
    show decide (z ∈ s) = _
    cases decide (z ∈ s) <;> rfl
  | y :: p, s, nd => by
    obtain ⟨h1, h2⟩ := List.nodup_cons.mp nd
    show decide (z ∈ runS ns (swD ns s y) p) = _
    rw [run_dec hz h2, sw_dec hz]
    by_cases c : z = y
    · subst c
      rw [decide_eq_false h1, decide_eq_true rfl, decide_eq_true (List.mem_cons_self : z ∈ z :: p)]
      cases decide (z ∈ s) <;> rfl
    · have e : decide (z ∈ y :: p) = decide (z ∈ p) := decide_eq_decide.mpr ⟨fun q => by
        rcases List.mem_cons.mp q with q | q
        · exact absurd q c
        · exact q, fun q => List.mem_cons_of_mem _ q⟩
      rw [decide_eq_false c, e]
      cases decide (z ∈ s) <;> cases decide (z ∈ p) <;> rfl
theorem Resp.mem {W : Str → List Str} {p : List Str} (h : Resp W p) {z : Str} (hz : z ∈ p) : ∀ b ∈ W z, b ∈ p := fun b hb => by
  obtain ⟨u, v, e⟩ := List.append_of_mem hz
  rw [e]
  exact List.mem_append.mpr (.inl (h u z v e b hb))
section
variable {ns : List Str} {cd : List PyData} {s g p : List Str}
theorem ok_mid {w : Str} (hw : isWord w) {As Bs : Bool} (c : (As == decide (w = "either")) = false) (h1 : okC2 w As Bs = true) (h2 : okC2 w (!As) (!Bs) = true) : okC2 w (!As) Bs = true := by
  rcases hw with rfl | rfl | rfl <;> cases As <;> cases Bs <;> revert c h1 h2 <;> decide +kernel
theorem ok_mid2 {w : Str} (hw : isWord w) {As Bs : Bool} (c : (As == decide (w = "either")) = true) (h1 : okC2 w As Bs = true) (h2 : okC2 w (!As) (!Bs) = true) : okC2 w As (!Bs) = true := by
  rcases hw with rfl | rfl | rfl <;> cases As <;> cases Bs <;> revert c h1 h2 <;> decide +kernel
theorem step_legal (B : WB ns cd s g) (D : Done (diffS ns s g) (waitL (prW ns cd s g)) p) : brokenFrom ((runS ns s p).map PyData.str) 0 cd = [] := by
  refine leg_all.mpr fun d hd => ?_
  obtain ⟨j, hj⟩ := List.mem_iff_getElem?.mp hd
  have l1 := leg_all.mp B.ls d hd
  have l2 := leg_all.mp B.lg d hd
  obtain ⟨w, a, b, rfl, hw, ha, hb⟩ := B.cl d hd
  rw [brk_ok hw] at l1 l2 ⊢
  rw [run_dec ha D.nd, run_dec hb D.nd]
  have ca : decide (a ∈ diffS ns s g) = (decide (a ∈ s) != decide (a ∈ g)) := by
    cases q : (decide (a ∈ s) != decide (a ∈ g)) with
    | true => exact decide_eq_true (mem_diff.mpr ⟨ha, q⟩)
    | false => exact decide_eq_false fun z => by rw [(mem_diff.mp z).2] at q; cases q
  have cb : decide (b ∈ diffS ns s g) = (decide (b ∈ s) != decide (b ∈ g)) := by
    cases q : (decide (b ∈ s) != decide (b ∈ g)) with
    | true => exact decide_eq_true (mem_diff.mpr ⟨hb, q⟩)
    | false => exact decide_eq_false fun z => by rw [(mem_diff.mp z).2] at q; cases q
  have pa : decide (a ∈ p) = true → (decide (a ∈ s) != decide (a ∈ g)) = true := fun q => by rw [← ca]; exact decide_eq_true (D.sub a (of_decide_eq_true q))
  have pb : decide (b ∈ p) = true → (decide (b ∈ s) != decide (b ∈ g)) = true := fun q => by rw [← cb]; exact decide_eq_true (D.sub b (of_decide_eq_true q))
  have pr : a ∈ diffS ns s g → b ∈ diffS ns s g → a ≠ b → (inOrd w a b s).2 ∈ p → (inOrd w a b s).1 ∈ p := fun h1 h2 h3 h4 => by
    refine D.rs.mem h4 _ (mem_wait.mpr ⟨0 + j, mem_ord.mpr ⟨j, w, a, b, hj, rfl, h3, h1, h2⟩⟩)
  have nab : decide (a ∈ p) ≠ decide (b ∈ p) → a ≠ b := fun q e => q (by rw [e])
  have m1 : decide (a ∈ p) = true → decide (b ∈ p) = false → (decide (b ∈ s) != decide (b ∈ g)) = true → (decide (a ∈ s) == decide (w = "either")) = false := fun q1 q2 q3 => by
    have z := pr (of_decide_eq_true (by rw [ca]; exact pa q1)) (of_decide_eq_true (by rw [cb]; exact q3)) (nab (by rw [q1, q2]; exact fun e => by cases e))
    cases q : (decide (a ∈ s) == decide (w = "either")) with
    | false => rfl
    | true =>
      unfold inOrd at z
      rw [if_pos q] at z
      exact absurd (z (of_decide_eq_true q1)) (of_decide_eq_false q2)
  have m2 : decide (b ∈ p) = true → decide (a ∈ p) = false → (decide (a ∈ s) != decide (a ∈ g)) = true → (decide (a ∈ s) == decide (w = "either")) = true := fun q1 q2 q3 => by
    have z := pr (of_decide_eq_true (by rw [ca]; exact q3)) (of_decide_eq_true (by rw [cb]; exact pb q1)) (nab (by rw [q1, q2]; exact fun e => by cases e))
    cases q : (decide (a ∈ s) == decide (w = "either")) with
    | true => rfl
    | false =>
      unfold inOrd at z
      rw [if_neg (by rw [q]; exact Bool.false_ne_true)] at z
      exact absurd (z (of_decide_eq_true q1)) (of_decide_eq_false q2)
  clear pr nab ca cb hj hd ha hb D
  generalize decide (a ∈ s) = As at *
  generalize decide (a ∈ g) = Ag at *
  generalize decide (a ∈ p) = Ap at *
  generalize decide (b ∈ s) = Bs at *
  generalize decide (b ∈ g) = Bg at *
  generalize decide (b ∈ p) = Bp at *
  have k1 : okC2 w As Bs = true := by simpa using l1
  have k2 : okC2 w Ag Bg = true := by simpa using l2
  have fin : okC2 w (As != Ap) (Bs != Bp) = true := by
    cases Ap <;> cases Bp
    · simpa using k1
    · by_cases q : (As != Ag) = true
      · have c := m2 rfl rfl q
        have e1 : Ag = !As := by cases As <;> cases Ag <;> first | rfl | cases q
        have e2 : Bg = !Bs := by have := pb rfl; cases Bs <;> cases Bg <;> first | rfl | cases this
        rw [e1, e2] at k2
        have z := ok_mid2 hw c k1 k2
        simpa using z
      · have e1 : As = Ag := by cases As <;> cases Ag <;> first | rfl | exact absurd rfl q
        have e2 : Bg = !Bs := by have := pb rfl; cases Bs <;> cases Bg <;> first | rfl | cases this
        rw [← e1, e2] at k2
        simpa using k2
    · by_cases q : (Bs != Bg) = true
      · have c := m1 rfl rfl q
        have e1 : Bg = !Bs := by cases Bs <;> cases Bg <;> first | rfl | cases q
        have e2 : Ag = !As := by have := pa rfl; cases As <;> cases Ag <;> first | rfl | cases this
        rw [e1, e2] at k2
        have z := ok_mid hw c k1 k2
        simpa using z
      · have e1 : Bs = Bg := by cases Bs <;> cases Bg <;> first | rfl | exact absurd rfl q
        have e2 : Ag = !As := by have := pa rfl; cases As <;> cases Ag <;> first | rfl | cases this
        rw [← e1, e2] at k2
        simpa using k2
    · have e2 : Bg = !Bs := by have := pb rfl; cases Bs <;> cases Bg <;> first | rfl | cases this
      have e3 : Ag = !As := by have := pa rfl; cases As <;> cases Ag <;> first | rfl | cases this
      rw [e2, e3] at k2
      simpa using k2
  rw [fin]
  rfl
theorem way_legal (B : WB ns cd s g) : ∀ (n : Nat) (p : List Str), p.length ≤ n → Done (diffS ns s g) (waitL (prW ns cd s g)) p → wayE ns cd 0 s (p.map PyData.str) = none := by
  intro n
  induction n with
  | zero =>
    intro p hl _
    rw [List.eq_nil_of_length_eq_zero (Nat.le_zero.mp hl)]
    rfl
  | succ n ih =>
    intro p hl D
    rcases List.eq_nil_or_concat p with rfl | ⟨q, z, rfl⟩
    · rfl
    · rw [List.concat_eq_append] at D hl ⊢
      rw [List.length_append] at hl
      have hl2 : q.length ≤ n := by have : ([z] : List Str).length = 1 := rfl; omega
      refine (wayE_app (j := 0)).mpr ⟨ih q hl2 D.pre, ?_⟩
      have hz : z ∈ ns := (mem_diff.mp (D.sub z (List.mem_append.mpr (.inr List.mem_cons_self)))).1
      have hb := step_legal B D
      rw [runS_snoc] at hb
      show wayE ns cd 0 (runS ns s q) [PyData.str z] = none
      rw [wayE_cons, if_pos hz, hb]
      rfl
theorem run_diff (hp : p.Nodup) (hsub : ∀ z ∈ p, z ∈ diffS ns s g) : diffS ns (runS ns s p) g = (diffS ns s g).filter fun z => !decide (z ∈ p) := by
  unfold diffS
  rw [List.filter_filter]
  refine List.filter_congr fun z hz => ?_
  rw [run_dec hz hp]
  have pz : decide (z ∈ p) = true → (decide (z ∈ s) != decide (z ∈ g)) = true := fun q => (mem_diff.mp (hsub z (of_decide_eq_true q))).2
  generalize decide (z ∈ s) = A at *
  generalize decide (z ∈ g) = B at *
  generalize decide (z ∈ p) = C at *
  cases C with
  | false => cases A <;> cases B <;> rfl
  | true =>
    have := pz rfl
    cases A <;> cases B <;> first | rfl | cases this
theorem filt_len {ch : List Str} : ∀ {p : List Str}, p.Nodup → ch.Nodup → (∀ z ∈ p, z ∈ ch) → (ch.filter fun z => !decide (z ∈ p)).length + p.length = ch.length
  | [], _, _, _ => by
    have e : (ch.filter fun z => !decide (z ∈ ([] : List Str))) = ch := List.filter_eq_self.mpr fun z _ => by rw [decide_eq_false List.not_mem_nil]; rfl
    rw [e]
    rfl
  | x :: p, nd, nc, h => by
    obtain ⟨h1, h2⟩ := List.nodup_cons.mp nd
    have ih := filt_len h2 nc fun z hz => h z (List.mem_cons_of_mem _ hz)
    have hx : x ∈ ch.filter fun z => !decide (z ∈ p) := List.mem_filter.mpr ⟨h x List.mem_cons_self, by rw [decide_eq_false h1]; rfl⟩
    have e : (ch.filter fun z => !decide (z ∈ x :: p)) = (ch.filter fun z => !decide (z ∈ p)).filter fun z => !decide (z = x) := by
      rw [List.filter_filter]
      refine List.filter_congr fun z _ => ?_
      rw [show decide (z ∈ x :: p) = (decide (z = x) || decide (z ∈ p)) by
        rw [← Bool.decide_or]
        exact decide_eq_decide.mpr List.mem_cons]
      cases decide (z = x) <;> cases decide (z ∈ p) <;> rfl
    have nf : (ch.filter fun z => !decide (z ∈ p)).Nodup := nc.sublist List.filter_sublist
    rw [e]
    have e2 := nf.erase_eq_filter x
    have e3 := List.length_erase_of_mem hx
    rw [e2] at e3
    have e4 : (((ch.filter fun z => !decide (z ∈ p)).filter fun z => !decide (z = x))).length = ((ch.filter fun z => !decide (z ∈ p)).filter fun z => z != x).length := by
      congr 1
    have p0 : 0 < (ch.filter fun z => !decide (z ∈ p)).length := List.length_pos_of_mem hx
    rw [e4]
    show _ + (p.length + 1) = _
    omega
/-- who waits, and for whom, in a state on the way -/
theorem wait_step (D : Done (diffS ns s g) (waitL (prW ns cd s g)) p) (hns : ∀ d ∈ cd, ClD ns d) {z b : Str} (h : b ∈ waitL (prW ns cd (runS ns s p) g) z) : b ∈ waitL (prW ns cd s g) z ∧ b ∉ p ∧ z ∉ p ∧ b ∈ diffS ns s g := by
  obtain ⟨i, hi⟩ := mem_wait.mp h
  obtain ⟨j, w, x, y, h1, h2, h3, h4, h5⟩ := mem_ord.mp hi
  have e := run_diff (g := g) D.nd D.sub
  rw [e] at h4 h5
  obtain ⟨x1, x2⟩ := List.mem_filter.mp h4
  obtain ⟨y1, y2⟩ := List.mem_filter.mp h5
  have xp : x ∉ p := by simpa using x2
  have yp : y ∉ p := by simpa using y2
  have eo : inOrd w x y (runS ns s p) = inOrd w x y s := by
    unfold inOrd
    rw [run_dec (mem_diff.mp x1).1 D.nd, decide_eq_false xp, Bool.bne_false]
  rw [eo] at h2
  have hm : (0 + j, inOrd w x y s) ∈ prW ns cd s g := mem_ord.mpr ⟨j, w, x, y, h1, rfl, h3, x1, y1⟩
  injection h2 with h6 h7
  have two : (b = x ∨ b = y) ∧ (z = x ∨ z = y) := by
    unfold inOrd at h7
    split at h7
    · injection h7 with a1 a2
      exact ⟨.inr a1, .inl a2⟩
    · injection h7 with a1 a2
      exact ⟨.inl a1, .inr a2⟩
  refine ⟨mem_wait.mpr ⟨0 + j, by rw [← h7] at hm; exact hm⟩, ?_, ?_, ?_⟩
  · rcases two.1 with rfl | rfl <;> assumption
  · rcases two.2 with rfl | rfl <;> assumption
  · rcases two.1 with rfl | rfl <;> assumption
theorem wait_in {ns : List Str} {cd : List PyData} {s g : List Str} (z : Str) : ∀ b ∈ waitL (prW ns cd s g) z, b ∈ diffS ns s g := fun b hb => by
  obtain ⟨i, hi⟩ := mem_wait.mp hb
  obtain ⟨j, w, x, y, h1, h2, h3, h4, h5⟩ := mem_ord.mp hi
  injection h2 with h6 h7
  unfold inOrd at h7
  split at h7
  · injection h7 with a1 a2
    rw [a1]
    exact h5
  · injection h7 with a1 a2
    rw [a1]
    exact h4
/-- after some changes of the first way there is a way still -/
theorem solv_step (B : WB ns cd s g) (h : Solv ns cd s g) (c : Nat) : Solv ns cd (runS ns s ((wayW ns cd s g).take c)) g := by
  have D := way_done (diffS ns s g) (waitL (prW ns cd s g))
  have Dc := D.take c
  have e := run_diff (g := g) Dc.nd Dc.sub
  refine way_whole (p := (wayW ns cd s g).drop c) (fun u z v eu b hb => ?_) (fun z hz => ?_) fun z hz => ?_
  · obtain ⟨h1, h2, _, _⟩ := wait_step Dc B.cl hb
    have ew : wayW ns cd s g = ((wayW ns cd s g).take c ++ u) ++ z :: v := by
      rw [List.append_assoc, ← eu, List.take_append_drop]
    rcases List.mem_append.mp (D.rs _ z v ew b h1) with h3 | h3
    · exact absurd h3 h2
    · exact h3
  · rw [e]
    refine List.mem_filter.mpr ⟨D.sub z (List.mem_of_mem_drop hz), ?_⟩
    have nd := D.nd
    rw [← List.take_append_drop c (wayF _ _)] at nd
    rw [decide_eq_false fun q => (List.nodup_append.mp nd).2.2 z q z hz rfl]
    rfl
  · rw [e] at hz
    obtain ⟨h1, h2⟩ := List.mem_filter.mp hz
    have h3 : z ∈ wayW ns cd s g := Classical.byContradiction fun q => by
      have := left_mem.mpr ⟨h1, q⟩
      rw [show leftS (diffS ns s g) (wayF (diffS ns s g) (waitL (prW ns cd s g))) = [] from h] at this
      cases this
    rw [← List.take_append_drop c (wayW ns cd s g)] at h3
    rcases List.mem_append.mp h3 with h4 | h4
    · rw [decide_eq_true h4] at h2
      cases h2
    · exact h4
end
local macro_rules | `(tactic| walk_at "rs") => `(tactic| first | (with_reducible refine r_tM1 ?_) | (with_reducible refine r_un ?_) | (with_reducible refine r_u1 ?_) | walk_at "rd")
section
variable {P : Program} {w : World} {K : PySem.W.Frag} {mg : Str → Option Value} {base : Heap} {G : List Addr} {L : List (Addr × Str)}
abbrev nIo : List Str := ["clause", "start", "word", "first", "second"]
theorem scInOrder : FnScope nIo ["clause", "start"] (defScope sInOrder) := C8.fnScope_by (by decide +kernel)
def spInOrder (K : PySem.W.Frag) (G : List Addr) (L : List (Addr × Str)) : Sp := fun vs H Q _ => ∃ (c S : Addr) (w a b : Str) (s : List Str), vs = [.ref c, .ref S] ∧ SqT K H c [.str w, .str a, .str b] ∧ Tp H S (s.map V.str) ∧ PyData.strOk a = true ∧ (∀ y ∈ s, PyData.strOk y = true) ∧
  ∀ T H', Go G L H H' → SqT K H' T [.str (inOrd w a b s).1, .str (inOrd w a b s).2] → Q (.ref T) H'
theorem ok_inOrder {f : Addr} {fd : FuncData} (F : Fun K "_in_order" "_in_order" sInOrder f fd) : FnOk P w K mg base CX0 1 f fd ["clause", "start"] (spInOrder K G L) := by
  refine F.ok scInOrder (fun vs H Q E h => ?_) (fun cdv A outer s H vs Q E hr h => ?_)
  · obtain ⟨c, S, w', a, b, st, e, _⟩ := h
    rw [e]
    rfl
  · obtain ⟨c, S, w', a, b, st, e, hc, hS, ha, hs, q⟩ := h
    subst e
    refine ⟨_, pss_cons (ps_asg (pv 0) (pg_tup rfl (pgs_cons (pg_name (i := 2) scInOrder.nd rfl (.inl rfl)) (pgs_cons (pg_name (i := 3) scInOrder.nd rfl (.inl rfl)) (pgs_cons (pg_name (i := 4) scInOrder.nd rfl (.inl rfl)) pgs_nil)))))
(pss_cons (ps_if (pt_cmpR op_eq (pe_cmpR (op_inT (u65 hr)) (pv 3) (pv 1) rfl) (pe_cmpR op_eq (pv 2) pe_str (nomark _)) rfl)
  (pss_one (ps_ret (pe_tup (pa_cons (pv 4) (pa_cons (pv 3) pa_nil))))) pss_nil)
(pss_one (ps_ret (pe_tup (pa_cons (pv 3) (pa_cons (pv 4) pa_nil)))))), ?_⟩
    repeat walk_at "rs"
    refine g_three hc ?_
    repeat walk_at "rs"
    refine r_inT (d := .str a) (ds := st.map PyData.str) (.str a) (.tup hS.seq (dps_strs _)) (lv_str ha) (lv_strs hs) ?_
    rw [show inD (.str a) (st.map PyData.str) = decide (a ∈ st) from in_strs ..]
    repeat walk_at "rs"
    refine r_eq rfl ?_
    refine r_eq rfl ?_
    have ew : decide (V.str w' = V.str "either") = decide (w' = "either") := decide_eq_decide.mpr ⟨fun z => V.str.inj z, fun z => by rw [z]⟩
    have ec : decide (V.bl (decide (a ∈ st)) = V.bl (decide (V.str w' = V.str "either"))) = (decide (a ∈ st) == decide (w' = "either")) := by
      rw [ew]
      cases decide (a ∈ st) <;> cases decide (w' = "either") <;> rfl
    rw [ec]
    refine ⟨_, rfl, ?_⟩
    have q' : ∀ T H', Go G L H H' → SqT K H' T [.str (if (decide (a ∈ st) == decide (w' = "either")) = true then (b, a) else (a, b)).1, .str (if (decide (a ∈ st) == decide (w' = "either")) = true then (b, a) else (a, b)).2] → Q (.ref T) H' := q
    cases hb : (decide (a ∈ st) == decide (w' = "either")) with
    | true =>
      rw [if_pos rfl]
      repeat walk_at "rs"
      refine ⟨by show 2 ≤ sizeLine; decide, fun pA nA => ?_⟩
      generalize hH : upd _ pA _ = HA; obtain ⟨kA, eA⟩ := new_facts hH nA; clear hH
      exact q' pA HA (Go.same kA) (by rw [if_pos hb]; exact .inl (.inl eA))
    | false =>
      rw [if_neg Bool.false_ne_true]
      repeat walk_at "rs"
      refine ⟨by show 2 ≤ sizeLine; decide, fun pA nA => ?_⟩
      generalize hH : upd _ pA _ = HA; obtain ⟨kA, eA⟩ := new_facts hH nA; clear hH
      exact q' pA HA (Go.same kA) (by rw [if_neg (by rw [hb]; exact Bool.false_ne_true)]; exact .inl (.inl eA))
theorem forETg {σ : L2.St} {H : Hp} {D : Ends} {te : TE} {g : TG} {tb : TS} (good : Addr → List V → Hp → Prop) (he : ∀ R : VK, (∀ a xs H0, good a xs H0 → R (.ref a) H0) → te σ H R)
    (body : ∀ a xs H0, good a xs H0 → SqT K H0 a xs ∧ ∃ Pv : Nat → L2.St → Hp → Prop, Pv 0 σ H0 ∧ (∀ i σ H, i ≤ xs.length → Pv i σ H → SqT K H a xs) ∧
      (∀ i x T σ H H', xs[i]? = some x → H T = none → H' = upd H T (.tup [.int (i : Nat), x]) → Pv i σ H → g (.ref T) σ H' fun σ2 H2 => tb { D with nx := Pv (i + 1), ct := Pv (i + 1), bk := D.nx } σ2 H2) ∧ (∀ σ H, Pv xs.length σ H → D.nx σ H)) : tFor (iEnumT K (tCons te tNil)) g tb D σ H := by
  refine he _ fun a xs H0 hg => ?_
  obtain ⟨hq, Pv, h0, hG, hs, hd⟩ := body a xs H0 hg
  have z := forET (K := K) (σ := σ) (te := fun _ _ R => R (.ref a) H0) (H := H0) (D := D) (g := g) (tb := tb) (a := a) (xs := xs) (fun _ z => z) hq Pv h0 hG hs hd
  exact z
theorem r_inL {H : Hp} {Q : VK} {l : Addr} {z : Str} {ss : List Str} (hl : SqL K H l (ss.map V.str)) (hz : PyData.strOk z = true) (ok : ∀ y ∈ ss, PyData.strOk y = true) (q : Q (.bl (decide (z ∈ ss))) H) : rInD K (.str z) (.ref l) H Q := by
  refine ⟨.str z, ss.map PyData.str, .str z, .lst hl (dps_strs _), shaped_of (n := 2) (lv_str hz), shaped_of (n := 3) (lv_lst fun d hd => ?_), ?_⟩
  · obtain ⟨y, hy, rfl⟩ := List.mem_map.mp hd
    exact lv_str (ok y hy)
  · rw [in_strs]
    exact q
theorem r_ninL {H : Hp} {Q : VK} {l : Addr} {z : Str} {ss : List Str} (hl : SqL K H l (ss.map V.str)) (hz : PyData.strOk z = true) (ok : ∀ y ∈ ss, PyData.strOk y = true) (q : Q (.bl (!decide (z ∈ ss))) H) : rNotInD K (.str z) (.ref l) H Q := by
  refine ⟨.str z, ss.map PyData.str, .str z, .lst hl (dps_strs _), shaped_of (n := 2) (lv_str hz), shaped_of (n := 3) (lv_lst fun d hd => ?_), ?_⟩
  · obtain ⟨y, hy, rfl⟩ := List.mem_map.mp hd
    exact lv_str (ok y hy)
  · rw [in_strs]
    exact q
/-- pairs of a clause and its two switches, in the heap -/
def PrsAt (H : Hp) (xs : List V) (prs : List PrD) : Prop := Ims H xs (prs.map fun p => .tuple [.int (p.1 : Nat), .str p.2.1, .str p.2.2])
abbrev nPr : List Str := ["rules", "start", "goal", "changed", "pairs", "index", "clause", "_", "first", "second", "before", "after"]
theorem scPairs : FnScope nPr ["rules", "start", "goal"] (defScope sPairs) := C8.fnScope_by (by decide +kernel)
def spPairs (K : PySem.W.Frag) (G : List Addr) (L : List (Addr × Str)) : Sp := fun vs H Q _ => ∃ (x S T : Addr) (ns : List Str) (cd : List PyData) (s g : List Str), vs = [.ref x, .ref S, .ref T] ∧ Two K H x S T ns cd s g ∧
  ∀ l xs H', Nw H l → Go G L H H' → H' l = some (.lst xs) → PrsAt H' xs (prW ns cd s g) → Q (.ref l) H'
theorem ok_pairs {f : Addr} {fd : FuncData} (F : Fun K "order_pairs" "order_pairs" sPairs f fd) (zE : mg "enumerate" = none) (CHL : Fd (L2.CX P w) P w K mg base "check_legal" 5 (spChkLegal K G L)) (DF : Fd CX0 P w K mg base "differing" 1 (spDiffering K G L)) (FN : Fp P w K mg base "names" "_names") (FCL : Fp P w K mg base "clauses" "_clauses") (IO : Fd CX0 P w K mg base "_in_order" 1 (spInOrder K G L)) :
    FnOk P w K mg base (L2.CX P w) 6 f fd ["rules", "start", "goal"] (spPairs K G L) := by
  refine F.okX scPairs (fun vs H Q E h => ?_) (fun cdv A outer s H vs Q E hr h => ?_)
  · obtain ⟨x, S, T, ns, cd, s', g, e, _⟩ := h
    rw [e]
    rfl
  · obtain ⟨x, S, T, ns, cd, st, go, e, tw, q⟩ := h
    subst e
    refine ⟨_, pss_cons (ps_expr (pe_fd (E := E) CHL hr (passes_call (takes_of rfl rfl rfl rfl) fun _ _ _ _ z => z) (pa_cons (pv 0) (pa_cons (pv 1) pa_nil))))
(pss_cons (ps_expr (pe_fd (E := E) CHL hr (passes_call (takes_of rfl rfl rfl rfl) fun _ _ _ _ z => z) (pa_cons (pv 0) (pa_cons (pv 2) pa_nil))))
(pss_cons (ps_set (i := 3) scPairs.nd rfl (Or.inl rfl) (pe_fd (E := E0) DF hr pass0 (pa_cons (pe_fp FN hr (pv 0)) (pa_cons (pv 1) (pa_cons (pv 2) pa_nil)))))
(pss_cons (ps_set (i := 4) scPairs.nd rfl (Or.inl rfl) (pe_lst pa_nil))
(pss_cons (ps_for (passes_of rfl) rfl (pi_enumT rfl zE (pa_cons (pe_fp FCL hr (pv 0)) pa_nil)) (pg_tup rfl (pgs_cons (pg_name (i := 5) scPairs.nd rfl (.inl rfl)) (pgs_cons (pg_name (i := 6) scPairs.nd rfl (.inl rfl)) pgs_nil)))
  (pss_cons (ps_asg (pv 6) (pg_tup rfl (pgs_cons (pg_name (i := 7) scPairs.nd rfl (.inl rfl)) (pgs_cons (pg_name (i := 8) scPairs.nd rfl (.inl rfl)) (pgs_cons (pg_name (i := 9) scPairs.nd rfl (.inl rfl)) pgs_nil)))))
  (pss_one (ps_if (PW.pt (pw_and (pt_cmpR op_ne (pv 8) (pv 9) (nomark _)) (pw_and (pt_cmpR (op_inD (u65 hr)) (pv 8) (pv 3) rfl) (pw_and1 (pt_cmpR (op_inD (u65 hr)) (pv 9) (pv 3) rfl)))))
    (pss_cons (ps_asg (pe_fd (E := E0) IO hr pass0 (pa_cons (pv 6) (pa_cons (pv 1) pa_nil))) (pg_tup rfl (pgs_cons (pg_name (i := 10) scPairs.nd rfl (.inl rfl)) (pgs_cons (pg_name (i := 11) scPairs.nd rfl (.inl rfl)) pgs_nil))))
    (pss_one (ps_expr (pe_bm PySem.F.plainAttrs_list PySem.F.slot_list_append PySem.F.type_list_append mt_append (pv 4) (pa_cons (pe_tup (pa_cons (pv 5) (pa_cons (pv 10) (pa_cons (pv 11) pa_nil)))) pa_nil))))) pss_nil))))
(pss_one (ps_ret (pv 4))))))), ?_⟩
    have chk : ∀ {H0 : Hp} {T0 : Addr} {gs : List Str} {Q0 : VK} {E0 : XK}, RulesAt K H0 x ns cd → Tp H0 T0 (gs.map V.str) → gs.Sublist ns → brokenFrom (gs.map PyData.str) 0 cd = [] → (∀ H', Go G L H0 H' → Q0 .non H') → spChkLegal K G L ([.ref x, .ref T0] ++ []) H0 Q0 E0 := fun {H0 T0 gs Q0 E0} h1 h2 h3 h4 h5 => by
      obtain ⟨l7, hl60⟩ := strs_lv tw.ok.gs h3
      exact ⟨x, .ref T0, ns, cd, .tuple (gs.map PyData.str), rfl, h1, tw.ok, .tup h2.seq (dps_strs _), l7, hl60, fun i hi => (by rw [st_none h3] at hi; cases hi), fun ds ed _ j rest hb => (by cases ed; rw [h4] at hb; cases hb), fun ds ed _ _ H' g => h5 H' g⟩
    have nok := tw.ok.gs.1
    have sok : ∀ y ∈ st, PyData.strOk y = true := fun y hy => nok y (tw.b.ss.subset hy)
    have gok : ∀ y ∈ go, PyData.strOk y = true := fun y hy => nok y (tw.b.gs.subset hy)
    repeat walk_at "rs"
    refine chk tw.ru tw.hs tw.b.ss tw.b.ls fun H1 g1 => ?_
    have t1 := tw.go g1
    repeat walk_at "rs"
    refine chk t1.ru t1.hg tw.b.gs tw.b.lg fun H2 g2 => ?_
    have t2 := t1.go g2
    repeat walk_at "rs"
    refine r_pnames (fun R z => ⟨_, rfl, z⟩) t2.ru fun an han => ?_
    repeat walk_at "rs"
    refine ⟨an, .ref S, .ref T, ns, st.map PyData.str, go.map PyData.str, rfl, han.tp, .tup t2.hs.seq (dps_strs _), .tup t2.hg.seq (dps_strs _), by have := tw.n10; omega, nok, lv_strs sok, lv_strs gok, fun ch H3 nch g3 ech => ?_⟩
    have edf : ns.filter (diffB (st.map PyData.str) (go.map PyData.str)) = diffS ns st go := List.filter_congr fun z _ => by
      show (inD (.str z) (st.map PyData.str) != inD (.str z) (go.map PyData.str)) = _
      rw [inD_map, inD_map]
    rw [edf] at ech
    have chok : ∀ y ∈ diffS ns st go, PyData.strOk y = true := fun y hy => nok y (mem_diff.mp hy).1
    have chlen : (diffS ns st go).length ≤ 10 := Nat.le_trans (List.length_filter_le _ _) tw.n10
    have t3 := t2.go g3
    have g03 := (g1.trans g2).trans g3
    clear han g1 g2 g3 t1 t2
    repeat walk_at "rs"
    refine ⟨by show 0 ≤ sizeLine; decide, fun pA nA => ?_⟩
    generalize hH : upd _ pA _ = HA; obtain ⟨kA, eA⟩ := new_facts hH nA; clear hH
    have gA := g03.trans (Go.same (G := G) (L := L) kA)
    repeat walk_at "rs"
    refine forETg (fun ac xs H0 => H0 = HA ∧ Tp HA ac xs ∧ Ims HA xs cd) (fun R z => ?_) ?_
    · repeat walk_at "rs"
      refine r_pclauses (fun R z => ⟨_, rfl, z⟩) (t3.go (Go.same (G := G) (L := L) kA)).ru fun ac xs hac hxs => ?_
      exact z ac xs HA ⟨rfl, hac, hxs⟩
    · rintro ac xs _ ⟨rfl, hac, hxs⟩
      have hxl := hxs.length
      have hcl := tw.ok.cl
      have nA3 : H3 pA = none := nA
      refine ⟨hac.seq, fun i σ H' => ∃ (zs : List V) (x5 x6 x7 x8 x9 x10 x11 : Option V), σ = [some (.ref x), some (.ref S), some (.ref T), some (.ref ch), some (.ref pA), x5, x6, x7, x8, x9, x10, x11] ∧ Go G L H3 H' ∧ H' pA = some (.lst zs) ∧ PrsAt H' zs (ordP (diffS ns st go) st 0 (cd.take i)) ∧ Tp H' ac xs ∧ Ims H' xs cd, ?_, ?_, ?_, ?_⟩
      · exact ⟨[], none, none, none, none, none, none, none, rfl, Go.same kA, eA, .nil, hac, hxs⟩
      · rintro i σ H' _ ⟨zs, x5, x6, x7, x8, x9, x10, x11, rfl, g, _, _, h, _⟩
        exact h.seq
      · rintro i y T2 σ H' H'' hy hT2 rfl ⟨zs, x5, x6, x7, x8, x9, x10, x11, rfl, g, eP, hzs, hac', hxs'⟩
        obtain ⟨dy, hdy, hiy⟩ := hxs'.get hy
        obtain ⟨w0, a, b, rfl, hw, ha, hb⟩ := tw.b.cl dy (List.mem_of_getElem? hdy)
        obtain ⟨cA, rfl, hcA⟩ : ∃ cA, y = .ref cA ∧ Tp H' cA [.str w0, .str a, .str b] := by
          cases hiy with
          | tup h1 h2 =>
            cases h2 with
            | cons p1 p2 =>
              cases p1
              cases p2 with
              | cons p3 p4 =>
                cases p3
                cases p4 with
                | cons p5 p6 =>
                  cases p5
                  cases p6
                  exact ⟨_, rfl, h1⟩
        have hil := (List.getElem?_eq_some_iff.mp hdy).1
        have gT : Go G L H' (upd H' T2 (.tup [.int (i : Nat), .ref cA])) := Go.new hT2
        have eT : (upd H' T2 (.tup [.int (i : Nat), .ref cA])) T2 = some (.tup [.int (i : Nat), .ref cA]) := upd_same
        generalize upd H' T2 (.tup [.int (i : Nat), .ref cA]) = H5 at gT eT
        have etk : ordP (diffS ns st go) st 0 (cd.take (i + 1)) = ordP (diffS ns st go) st 0 (cd.take i) ++ if a ≠ b ∧ a ∈ diffS ns st go ∧ b ∈ diffS ns st go then [(i, inOrd w0 a b st)] else [] := by
          rw [List.take_succ, hdy, ordP_app, List.length_take, Nat.min_eq_left (Nat.le_of_lt hil), Nat.zero_add]
          exact congrArg _ ordP_one
        have g5 := g.trans gT
        have eP5 := gT.lst eP
        have hzs5 : PrsAt H5 zs (ordP (diffS ns st go) st 0 (cd.take i)) := hzs.kt gT.kt
        have hac5 := hac'.kt gT.kt
        have hxs5 := hxs'.kt gT.kt
        have hcA5 := hcA.kt gT.kt
        refine r_pair (.inl (.inl eT)) ?_
        repeat walk_at "rs"
        refine g_three hcA5.seq ?_
        simp only [List.set_cons_zero, List.set_cons_succ]
        repeat walk_at "rs"
        refine r_ne rfl ?_
        repeat walk_at "rs"
        have hao := nok a ha
        have hbo := nok b hb
        have sb : ∀ y ∈ st, PyData.strOk y = true := sok
        have ech5 : H5 ch = some (.lst ((diffS ns st go).map V.str)) := g5.lst ech
        have hS5 : Tp H5 S (st.map V.str) := t3.hs.kt g5.kt
        have skip : ∀ (y10 y11 : Option V), ¬ (a ≠ b ∧ a ∈ diffS ns st go ∧ b ∈ diffS ns st go) → ∃ (zs : List V) (x5 x6 x7 x8 x9 x10 x11 : Option V), [some (.ref x), some (.ref S), some (.ref T), some (.ref ch), some (.ref pA), some (.int (i : Nat)), some (.ref cA), some (.str w0), some (.str a), some (.str b), y10, y11] = [some (.ref x), some (.ref S), some (.ref T), some (.ref ch), some (.ref pA), x5, x6, x7, x8, x9, x10, x11] ∧ Go G L H3 H5 ∧ H5 pA = some (.lst zs) ∧ PrsAt H5 zs (ordP (diffS ns st go) st 0 (cd.take (i + 1))) ∧ Tp H5 ac xs ∧ Ims H5 xs cd := fun y10 y11 c => by
          rw [etk, if_neg c, List.append_nil]
          exact ⟨zs, _, _, _, _, _, _, _, rfl, g5, eP5, hzs5, hac5, hxs5⟩
        by_cases c1 : a = b
        · rw [decide_eq_true (by rw [c1] : V.str a = V.str b), Bool.not_true, if_neg Bool.false_ne_true]
          repeat walk_at "rs"
          exact skip _ _ fun c => c.1 c1
        rw [decide_eq_false (fun q => c1 (V.str.inj q)), Bool.not_false, if_pos rfl]
        repeat walk_at "rs"
        refine r_inL (.of ech5) hao chok ?_
        by_cases c2 : a ∈ diffS ns st go
        rotate_left
        · rw [decide_eq_false c2]
          repeat walk_at "rs"
          exact skip _ _ fun c => c2 c.2.1
        rw [decide_eq_true c2]
        repeat walk_at "rs"
        refine r_inL (.of ech5) hbo chok ?_
        by_cases c3 : b ∈ diffS ns st go
        rotate_left
        · rw [decide_eq_false c3]
          repeat walk_at "rs"
          exact skip _ _ fun c => c3 c.2.2
        rw [decide_eq_true c3]
        repeat walk_at "rs"
        refine ⟨cA, S, w0, a, b, st, rfl, hcA5.seq, hS5, hao, sb, fun T6 H6 g6 hT6 => ?_⟩
        refine r_pair hT6 ?_
        simp only [List.set_cons_zero, List.set_cons_succ]
        repeat walk_at "rs"
        refine ⟨.inl ⟨rfl, _, .of (g6.lst eP5)⟩, ?_⟩
        repeat walk_at "rs"
        refine ⟨by show 3 ≤ sizeLine; decide, fun pB nB => ?_⟩
        generalize hH : upd _ pB _ = HB; obtain ⟨kB, eB⟩ := new_facts hH nB; clear hH
        have gB := g6.trans (Go.same (G := G) (L := L) kB)
        have hzl := hzs5.length
        rw [List.length_map] at hzl
        have hol := ordP_len (ch := diffS ns st go) (s := st) (cd := cd.take i) (i := 0)
        have hcl2 : cd.length ≤ 1000 := by have := tw.ok.cl; omega
        repeat walk_at "rs"
        refine r_append (gB.lst eP5) (by rw [hzl]; have := List.length_take_le i cd; omega) ?_
        have nAx : ∀ o, H3 pA ≠ some o := fun o e => by rw [nA3] at e; cases e
        have gU := ((g5.trans gB).updNew (ys := zs ++ [.ref pB]) nA3 (gB.lst eP5))
        have kU := kt_upd (ys := zs ++ [V.ref pB]) (gB.lst eP5)
        refine ⟨zs ++ [.ref pB], _, _, _, _, _, _, _, rfl, gU, upd_same, ?_, (hac5.kt gB.kt).kt kU, (hxs5.kt gB.kt).kt kU⟩
        rw [etk, if_pos ⟨c1, c2, c3⟩]
        show Ims _ _ (List.map _ (_ ++ _))
        rw [List.map_append]
        exact ((hzs5.kt gB.kt).app (.cons (.tup (.inl eB) (.cons (.int _) (.cons (.str _) (.cons (.str _) .nil)))) .nil)).kt kU
      · rintro σ H' ⟨zs, x5, x6, x7, x8, x9, x10, x11, rfl, g, eP, hzs, _, _⟩
        rw [hxl, List.take_length] at hzs
        repeat walk_at "rs"
        exact q pA zs H' ((Nw.of nA3).backG g03) (g03.trans g) eP hzs
end
local macro_rules | `(tactic| walk_at "rs") => `(tactic| first | (with_reducible refine r_tM1 ?_) | (with_reducible refine r_un ?_) | (with_reducible refine r_u1 ?_) | walk_at "rd")
section
variable {P : Program} {w : World} {K : PySem.W.Frag} {mg : Str → Option Value} {base : Heap} {G : List Addr} {L : List (Addr × Str)}
theorem Go.updDK {H H' : Hp} {D : Addr} {ks ls : List (Key × V)} (g : Go G L H H') (n : H D = none) (h : H' D = some (.dK ks)) : Go G L H (upd H' D (.dK ls)) :=
  ⟨fun b o e nt => (upd_ne (ne_of_none e n)).trans (g.1 b o e nt), fun t => (GoR.dK (G := G) (L := L) h).2 (g.2 t)⟩
/-- a dict comprehension over a list -/
theorem dcL {σ : L2.St} {H : Hp} {Q : VK} {te : TE} {g : TG} {tt : TT} {tk tv : TE} {vs : List Nat} {a : Addr} {xs : List V} (he : ∀ R : VK, R (.ref a) H → te σ H R) (hq : SqL K H a xs) (Pv : Addr → Nat → Hp → Prop)
    (h0 : ∀ D, H D = none → Pv D 0 (upd H D (.dK []))) (hG : ∀ D i H', H D = none → i ≤ xs.length → Pv D i H' → SqL K H' a xs)
    (hs : ∀ D i x H1, H D = none → xs[i]? = some x → Pv D i H1 → g x (wipe σ vs) H1 fun σ2 H2 => wipe σ2 vs = wipe σ vs ∧ tt σ2 H2 fun b H3 =>
      if b = true then tk σ2 H3 fun y H4 => tv σ2 H4 fun z H5 => ∃ kvs k, y = kV k ∧ H5 D = some (.dK kvs) ∧ kvs.length < sizeLine ∧ Pv D (i + 1) (upd H5 D (.dK (putK kvs k z))) else Pv D (i + 1) H3) (hd : ∀ D H', H D = none → Pv D xs.length H' → Q (.ref D) H') : tDc (iList K te) g tt tk tv vs σ H Q := by
  refine he _ ⟨a, rfl, ⟨xs, hq⟩, fun D hD => ⟨fun i m H' => m = xs.length - i ∧ i ≤ xs.length ∧ Pv D i H', ⟨_, rfl, Nat.zero_le _, h0 D hD⟩, ?_⟩⟩
  rintro i m H' ⟨rfl, hi, p⟩
  have q := hG D i H' hD hi p
  have wk := walk_list (K := K) (a := a) (xs := xs)
  rcases Nat.lt_or_ge i xs.length with hlt | hge
  · refine .inr ⟨wk.goes i H' hlt q, Pv D (i + 1), fun H2 p2 => ⟨_, by omega, rfl, hlt, p2⟩, fun x H2 y => ?_⟩
    obtain ⟨e1, e2⟩ := wk.yields i H' x H2 hlt q y
    rw [e1]
    exact hs D i x H' hD e2 p
  · obtain rfl : i = xs.length := by omega
    exact .inl ⟨wk.stops H' q, hd D H' hD p⟩
theorem prs_get {H : Hp} {xs : List V} {prs : List PrD} {j : Nat} {y : V} (h : PrsAt H xs prs) (hy : xs[j]? = some y) : ∃ p t, prs[j]? = some p ∧ y = .ref t ∧ Tp H t [.int (p.1 : Nat), .str p.2.1, .str p.2.2] := by
  obtain ⟨d, hd, hi⟩ := Ims.get h hy
  rw [List.getElem?_map] at hd
  cases hp : prs[j]? with
  | none => rw [hp] at hd; cases hd
  | some p =>
    rw [hp] at hd
    obtain rfl := Option.some.inj hd
    cases hi with
    | tup h1 h2 =>
      cases h2 with
      | cons p1 p2 =>
        cases p1
        cases p2 with
        | cons p3 p4 =>
          cases p3
          cases p4 with
          | cons p5 p6 =>
            cases p5
            cases p6
            exact ⟨p, _, rfl, rfl, h1⟩
theorem wait_take {prs : List PrD} {z : Str} {j : Nat} {p : PrD} (h : prs[j]? = some p) : waitL (prs.take (j + 1)) z = waitL (prs.take j) z ++ if p.2.2 = z then [p.2.1] else [] := by
  unfold waitL
  rw [List.take_succ, h, List.filter_append, List.map_append]
  congr 1
  show List.map _ (List.filter _ [p]) = _
  by_cases c : p.2.2 = z
  · rw [if_pos c, List.filter_cons, if_pos (decide_eq_true c)]
    rfl
  · rw [if_neg c, List.filter_cons, if_neg (by rw [decide_eq_false c]; exact Bool.false_ne_true)]
    rfl
theorem wait_len {prs : List PrD} {z : Str} : (waitL prs z).length ≤ prs.length := by
  unfold waitL
  rw [List.length_map]
  exact List.length_filter_le _ _
abbrev nWt : List Str := ["rules", "start", "goal", "pairs", "changed", "name", "_", "before", "after"]
theorem scWaiting : FnScope nWt ["rules", "start", "goal"] (defScope sWaiting) := C8.fnScope_by (by decide +kernel)
def spWaiting (K : PySem.W.Frag) (G : List Addr) (L : List (Addr × Str)) : Sp := fun vs H Q _ => ∃ (x S T : Addr) (ns : List Str) (cd : List PyData) (s g : List Str), vs = [.ref x, .ref S, .ref T] ∧ Two K H x S T ns cd s g ∧
  ∀ d H', Nw H d → Go G L H H' → WtAt H' d (diffS ns s g) (waitL (prW ns cd s g)) → Q (.ref d) H'
set_option maxHeartbeats 1000000 in
theorem ok_waiting {f : Addr} {fd : FuncData} (F : Fun K "waiting" "waiting" sWaiting f fd) (OP : Fd (L2.CX P w) P w K mg base "order_pairs" 6 (spPairs K G L)) (DF : Fd CX0 P w K mg base "differing" 1 (spDiffering K G L)) (FN : Fp P w K mg base "names" "_names") :
    FnOk P w K mg base (L2.CX P w) 7 f fd ["rules", "start", "goal"] (spWaiting K G L) := by
  refine F.okX scWaiting (fun vs H Q E h => ?_) (fun cdv A outer s H vs Q E hr h => ?_)
  · obtain ⟨x, S, T, ns, cd, s', g, e, _⟩ := h
    rw [e]
    rfl
  · obtain ⟨x, S, T, ns, cd, st, go, e, tw, q⟩ := h
    subst e
    refine ⟨_, pss_cons (ps_set (i := 3) scWaiting.nd rfl (Or.inr rfl) (pe_fd (E := E) OP hr (passes_call (takes_of rfl rfl rfl rfl) fun _ _ _ _ z => z) (pa_cons (pv 0) (pa_cons (pv 1) (pa_cons (pv 2) pa_nil)))))
(pss_cons (ps_set (i := 4) scWaiting.nd rfl (Or.inl rfl) (pe_fd (E := E0) DF hr pass0 (pa_cons (pe_fp FN hr (pv 0)) (pa_cons (pv 1) (pa_cons (pv 2) pa_nil)))))
(pss_one (ps_ret (pe_dc (own := [("name", 5)]) (g := gName 5) (tt := tYes) rfl scWaiting.nd (pi_list (pv 4))
            (blkOk_by (own := [("name", 5)]) (N := nWt) (sc := defScope sWaiting) (by decide +kernel)) (fun _ _ _ _ _ => pg_name (i := 5) scWaiting.nd rfl (.inr rfl)) (fun _ _ _ _ _ => pts_nil)
            (fun _ _ _ _ _ => pv 5)
            (fun _ _ _ _ _ => pe_lc (own := [("_", 6), ("before", 7), ("after", 8)]) (g := gTup K 3 (gCons (gName 6) (gCons (gName 7) (gCons (gName 8) gNil)))) (wi := iList K (tVar 3)) rfl scWaiting.nd (pi_list (pv 3))
            (blkOk_by (own := [("_", 6), ("before", 7), ("after", 8)]) (N := nWt) (sc := relS _ (defScope sWaiting)) (by decide +kernel)) (fun _ _ _ _ _ => pg_tup rfl (pgs_cons (pg_name (i := 6) scWaiting.nd rfl (.inl rfl)) (pgs_cons (pg_name (i := 7) scWaiting.nd rfl (.inl rfl)) (pgs_cons (pg_name (i := 8) scWaiting.nd rfl (.inl rfl)) pgs_nil)))) (fun _ _ _ _ _ => pts_one (pt_cmpR op_eq (pv 8) (pv 5) (nomark _)))
            (fun _ _ _ _ _ => pv 7)))))), ?_⟩
    have nok := tw.ok.gs.1
    have sok : ∀ y ∈ st, PyData.strOk y = true := fun y hy => nok y (tw.b.ss.subset hy)
    have gok : ∀ y ∈ go, PyData.strOk y = true := fun y hy => nok y (tw.b.gs.subset hy)
    repeat walk_at "rs"
    refine ⟨x, S, T, ns, cd, st, go, rfl, tw, fun pl xs H1 npl g1 epl hprs => ?_⟩
    have t1 := tw.go g1
    repeat walk_at "rs"
    refine r_pnames (fun R z => ⟨_, rfl, z⟩) t1.ru fun an han => ?_
    repeat walk_at "rs"
    refine ⟨an, .ref S, .ref T, ns, st.map PyData.str, go.map PyData.str, rfl, han.tp, .tup t1.hs.seq (dps_strs _), .tup t1.hg.seq (dps_strs _), by have := tw.n10; omega, nok, lv_strs sok, lv_strs gok, fun ch H2 nch g2 ech => ?_⟩
    have edf : ns.filter (diffB (st.map PyData.str) (go.map PyData.str)) = diffS ns st go := List.filter_congr fun z _ => by
      show (inD (.str z) (st.map PyData.str) != inD (.str z) (go.map PyData.str)) = _
      rw [inD_map, inD_map]
    rw [edf] at ech
    have ndc : (diffS ns st go).Nodup := tw.b.nd.sublist List.filter_sublist
    have chlen : (diffS ns st go).length ≤ 10 := Nat.le_trans (List.length_filter_le _ _) tw.n10
    have epl2 := g2.lst epl
    have hprs2 : PrsAt H2 xs (prW ns cd st go) := hprs.kt g2.kt
    have g02 := g1.trans g2
    have plen : (prW ns cd st go).length ≤ 1000 := Nat.le_trans ordP_len (by have := tw.ok.cl; omega)
    have hxl := hprs2.length
    rw [List.length_map] at hxl
    clear g1 g2 epl hprs han t1
    generalize prW ns cd st go = prs at hprs2 plen hxl q
    generalize diffS ns st go = chs at ech ndc chlen q
    repeat walk_at "rs"
    refine dcL (a := ch) (xs := chs.map V.str) (fun R z => ⟨_, rfl, z⟩) (.of ech) (fun D i H' => ∃ kvs, Go G L H2 H' ∧ H' D = some (.dK kvs) ∧ KvsAt H' kvs (chs.take i) (waitL prs)) ?_ ?_ ?_ ?_
    · intro D hD
      exact ⟨[], Go.new hD, upd_same, rfl, fun i z e => by simp at e⟩
    · rintro D i H' hD _ ⟨kvs, g, _⟩
      exact .of (g.lst ech)
    · rintro D i y H3 hD hy ⟨kvs, g3, eD, hkv⟩
      rw [List.getElem?_map] at hy
      cases hz : chs[i]? with
      | none => rw [hz] at hy; cases hy
      | some z =>
        rw [hz] at hy
        obtain rfl : V.str z = y := Option.some.inj hy
        refine r_gN ⟨rfl, r_yes ?_⟩
        repeat walk_at "rs"
        change tLc (iList K (tVar 3)) _ _ _ _ [some (.ref x), some (.ref S), some (.ref T), some (.ref pl), some (.ref ch), some (.str z), none, none, none] H3 _
        refine lcL (a := pl) (xs := xs) (fun R z => ⟨_, rfl, z⟩) (.of (g3.lst epl2)) (fun l j H' => Go G L H3 H' ∧ H' l = some (.lst ((waitL (prs.take j) z).map V.str))) ?_ ?_ ?_ ?_
        · intro l hl
          exact ⟨Go.new hl, upd_same⟩
        · rintro l j H' hl _ ⟨g, _⟩
          exact .of ((g3.trans g).lst epl2)
        · rintro l j y H4 hl hy ⟨g4, el⟩
          obtain ⟨pr, t, hpr, rfl, ht⟩ := prs_get (hprs2.kt (g3.trans g4).kt) hy
          have hwl := wait_len (prs := prs.take j) (z := z)
          have hjl : (prs.take j).length ≤ prs.length := by rw [List.length_take]; exact Nat.min_le_right _ _
          refine g_three ht.seq ⟨by rfl, ?_⟩
          repeat walk_at "rs"
          refine r_eq rfl ?_
          rw [wait_take hpr]
          by_cases c : pr.2.2 = z
          · rw [decide_eq_true (by rw [c] : V.str pr.2.2 = V.str z), if_pos c]
            refine ⟨_, rfl, ?_⟩
            rw [if_pos rfl]
            repeat walk_at "rs"
            refine ⟨_, el, by rw [List.length_map, sizeLine_eq]; omega, g4.updNew hl el, ?_⟩
            rw [upd_same, List.map_append]
            rfl
          · rw [decide_eq_false (fun q => c (V.str.inj q)), if_neg c, List.append_nil]
            refine ⟨_, rfl, ?_⟩
            rw [if_neg Bool.false_ne_true]
            exact ⟨g4, el⟩
        · rintro l H4 hl ⟨g4, el⟩
          rw [hxl, List.take_length] at el
          have eD4 := g4.dK eD
          have hkv4 := hkv.go g4
          have hzn : z ∉ chs.take i := fun q => by
            obtain ⟨k, hk⟩ := List.mem_iff_getElem?.mp q
            have hki := (List.getElem?_eq_some_iff.mp hk).1
            rw [List.length_take] at hki
            rw [List.getElem?_take, if_pos (by omega)] at hk
            have hil := (List.getElem?_eq_some_iff.mp hz).1
            have := (List.getElem?_inj hil ndc).mp (hz.trans hk.symm)
            omega
          have hlen := hkv4.1
          rw [List.length_take] at hlen
          have hil := (List.getElem?_eq_some_iff.mp hz).1
          refine ⟨kvs, .inr z, rfl, eD4, by rw [sizeLine_eq]; omega, putK kvs (.inr z) (.ref l), (g3.trans g4).updDK hD eD4, upd_same, ?_⟩
          have hn := hkv4.none hzn
          rw [putK_new _ hn]
          have nlD : ∀ b xs', H4 b = some (.lst xs') → b ≠ D := fun b xs' e q => by rw [q, eD4] at e; cases e
          refine ⟨by rw [List.length_append, List.length_take, hlen]; show _ + 1 = _; omega, fun k y e => ?_⟩
          rw [List.take_succ, hz] at e
          rcases Nat.lt_or_ge k kvs.length with hk | hk
          · rw [List.getElem?_append_left (by rw [List.length_take]; omega)] at e
            obtain ⟨l2, h1, h2⟩ := hkv4.2 k y e
            exact ⟨l2, by rw [List.getElem?_append_left hk]; exact h1, by rw [upd_ne (nlD _ _ h2)]; exact h2⟩
          · rw [List.getElem?_append_right (by rw [List.length_take]; omega)] at e
            rw [List.length_take] at e
            have ek : k - min i chs.length = 0 := by
              have := (List.getElem?_eq_some_iff.mp e).1
              have h1 : (Option.some z).toList.length = 1 := rfl
              omega
            rw [ek] at e
            obtain rfl : z = y := Option.some.inj e
            exact ⟨l, by rw [List.getElem?_append_right hk, show k - kvs.length = 0 by omega]; rfl, by rw [upd_ne (nlD _ _ el)]; exact el⟩
    · rintro D H3 hD ⟨kvs, g3, eD, hkv⟩
      rw [List.length_map, List.take_length] at hkv
      exact q D H3 ((Nw.of hD).backG g02) (g02.trans g3) ⟨kvs, eD, hkv⟩
end
local macro_rules | `(tactic| walk_at "rs") => `(tactic| first | (with_reducible refine r_tM1 ?_) | (with_reducible refine r_un ?_) | (with_reducible refine r_u1 ?_) | walk_at "rd")
section
variable {P : Program} {w : World} {K : PySem.W.Frag} {mg : Str → Option Value} {base : Heap} {G : List Addr} {L : List (Addr × Str)}
theorem tbs_upd {H : Hp} {d : Addr} {o o' : HO} (t : TBS G L H) (e : H d = some o) (n1 : ∀ ps, o ≠ .tbl ps) (n2 : ∀ c q, o ≠ LamX.CodeO c q) : TBS G L (upd H d o') := by
  have k : ∀ b u, b ≠ d → H b = some u → upd H d o' b = some u := fun b u n h => (upd_ne n).trans h
  refine ⟨fun p hp => ?_, fun p hp => ?_⟩
  · obtain ⟨ps, e2, _⟩ := t.1 p hp
    exact tabG_keep (t.1 p hp) fun u eu => k p u (fun z => by rw [z, e] at e2; exact n1 _ (Option.some.inj e2)) eu
  · obtain ⟨ps, e2, _⟩ := t.2 p hp
    exact tabS_keep (t.2 p hp) (fun u eu => k _ u (fun z => by rw [z, e] at e2; exact n1 _ (Option.some.inj e2)) eu) fun c hc => k c _ (fun z => by rw [z, e] at hc; exact n2 _ _ (Option.some.inj hc)) hc
/-- a dict is locked, something goes on, it is unlocked -/
theorem Go.unlock {H H' : Hp} {d : Addr} {od : Obj} {kvs : List (Key × V)} (e : H d = some (.dK kvs)) (g : Go G L (upd H d (.frz od (.dK kvs))) H') : Go G L H (upd H' d (.dK kvs)) ∧ H' d = some (.frz od (.dK kvs)) := by
  have e2 : H' d = some (.frz od (.dK kvs)) := g.1 d _ upd_same fun _ z => by cases z
  refine ⟨⟨fun b o eb nt => ?_, fun t => ?_⟩, e2⟩
  · by_cases c : b = d
    · rw [c] at eb ⊢
      rw [upd_same, ← e]
      exact eb
    · rw [upd_ne c]
      exact g.1 b o ((upd_ne c).trans eb) nt
  · exact tbs_upd (g.2 (tbs_upd t e (fun ps z => by cases z) (fun c q z => by cases z))) e2 (fun ps z => by cases z) fun c q z => by cases z
/-- a comprehension over the keys of a locked dict -/
theorem lcK {σ : L2.St} {H : Hp} {Q : VK} {te : TE} {g : TG} {tt : TT} {el : TE} {vs : List Nat} {d : Addr} {o : Obj} {kvs : List (Key × V)} (he : ∀ R : VK, R (.ref d) H → te σ H R) (hq : H d = some (.frz o (.dK kvs))) (Pv : Addr → Nat → Hp → Prop)
    (h0 : ∀ D, H D = none → Pv D 0 (upd H D (.lst []))) (hG : ∀ D i H', H D = none → i ≤ kvs.length → Pv D i H' → H' d = some (.frz o (.dK kvs)))
    (hs : ∀ D i k v H1, H D = none → kvs[i]? = some (k, v) → Pv D i H1 → g (kV k) (wipe σ vs) H1 fun σ2 H2 => wipe σ2 vs = wipe σ vs ∧ tt σ2 H2 fun b H3 =>
      if b = true then el σ2 H3 fun y H4 => ∃ acc, H4 D = some (.lst acc) ∧ acc.length < sizeLine ∧ Pv D (i + 1) (upd H4 D (.lst (acc ++ [y]))) else Pv D (i + 1) H3) (hd : ∀ D H', H D = none → Pv D kvs.length H' → Q (.ref D) H') : tLc (iKeys te) g tt el vs σ H Q := by
  refine r_lcI (fun R z => he _ ⟨d, o, rfl, .inl ⟨kvs, hq, z⟩⟩) walk_keys Pv h0 hG ?_ hd
  rintro D i x H1 H2 hD hi p ⟨eH, k, v, e2, ex⟩
  rw [eH, ex]
  exact hs D i k v H1 hD e2 p
abbrev nPo : List Str := ["waits", "done", "name", "before"]
theorem scPossible : FnScope nPo ["waits", "done"] (defScope sPossible) := C8.fnScope_by (by decide +kernel)
def spPossible (K : PySem.W.Frag) (G : List Addr) (L : List (Addr × Str)) : Sp := fun vs H Q _ => ∃ (d dl : Addr) (ch : List Str) (W : Str → List Str) (done : List Str), vs = [.ref d, .ref dl] ∧ WtAt H d ch W ∧ H dl = some (.lst (done.map V.str)) ∧ (∀ y ∈ ch, PyData.strOk y = true) ∧ (∀ y ∈ done, PyData.strOk y = true) ∧ (∀ z ∈ ch, ∀ y ∈ W z, PyData.strOk y = true) ∧ (∀ z ∈ ch, (W z).length ≤ 1000) ∧ ch.length ≤ 1000 ∧
  ∀ l H', Nw H l → Go G L H H' → H' l = some (.lst ((possS ch W done).map V.str)) → Q (.ref l) H'
theorem ok_possible {f : Addr} {fd : FuncData} (F : Fun K "possible_changes" "possible_changes" sPossible f fd) (zA : mg "all" = none) : FnOk P w K mg base CX0 1 f fd ["waits", "done"] (spPossible K G L) := by
  refine F.ok scPossible (fun vs H Q E h => ?_) (fun cdv A outer s H vs Q E hr h => ?_)
  · obtain ⟨d, dl, ch, W, done, e, _⟩ := h
    rw [e]
    rfl
  · obtain ⟨d, dl, ch, W, done, e, hd, hdl, cok, dok, wok, wl, cl, q⟩ := h
    subst e
    refine ⟨_, pss_one (ps_ret (pe_lock (pe_lc (own := [("name", 2)]) (g := gName 2) rfl scPossible.nd (pi_keys (pv 0))
            (blkOk_by (own := [("name", 2)]) (N := nPo) (sc := defScope sPossible) (by decide +kernel)) (fun _ _ _ _ _ => pg_name (i := 2) scPossible.nd rfl (.inl rfl)) (fun _ _ _ _ _ => pts_one (PW.pt (pw_and (pt_cmpR (r := rNotInD K) (op_notInD (u65 hr)) (pv 2) (pv 1) rfl) (pw_and1 (pt_val (pe_callB (r := rAll K) (cr_all rfl) rfl zA (by decide +kernel) (pa_cons (pe_lc (own := [("before", 3)]) (g := gName 3) (tt := tYes) (wi := iList K (tDGet (tVar 0) (tVar 2))) rfl scPossible.nd (pi_list (pe_dget (hu_of hr) (pv 0) (pv 2) (fun _ _ => rfl)))
            (blkOk_by (own := [("before", 3)]) (N := nPo) (sc := relS _ (defScope sPossible)) (by decide +kernel)) (fun _ _ _ _ _ => pg_name (i := 3) scPossible.nd rfl (.inl rfl)) (fun _ _ _ _ _ => pts_nil)
            (fun _ _ _ _ _ => (pe_cmpR (r := rInD K) (op_inD (u65 hr)) (pv 3) (pv 1) rfl))) pa_nil)))))))
            (fun _ _ _ _ _ => (pv 2))))), ?_⟩
    obtain ⟨kvs, ed, hkv⟩ := hd
    repeat walk_at "rs"
    refine ⟨d, .dK kvs, ed, trivial, fun od => ?_⟩
    have ndd : dl ≠ d := fun z => by rw [z, ed] at hdl; cases hdl
    have hdl2 : (upd H d (.frz od (.dK kvs))) dl = some (.lst (done.map V.str)) := (upd_ne ndd).trans hdl
    have hkv2 : KvsAt (upd H d (.frz od (.dK kvs))) kvs ch W := ⟨hkv.1, fun i z e => by
      obtain ⟨l, h1, h2⟩ := hkv.2 i z e
      exact ⟨l, h1, (upd_ne (fun q => by rw [q, ed] at h2; cases h2)).trans h2⟩⟩
    have hun : ∀ H', Go G L (upd H d (.frz od (.dK kvs))) H' → Go G L H (upd H' d (.dK kvs)) ∧ H' d = some (.frz od (.dK kvs)) := fun H' g => Go.unlock ed g
    have eL : (upd H d (.frz od (.dK kvs))) d = some (.frz od (.dK kvs)) := upd_same
    have nwL : ∀ b, (upd H d (.frz od (.dK kvs))) b = none → Nw H b ∧ b ≠ d := fun b hb => by
      have nb : b ≠ d := fun z => by rw [z, upd_same] at hb; cases hb
      rw [upd_ne nb] at hb
      exact ⟨.of hb, nb⟩
    clear ed hkv hdl
    generalize upd H d (.frz od (.dK kvs)) = HL at hdl2 hkv2 hun eL nwL ⊢
    change tLc (iKeys (tVar 0)) _ _ _ _ [some (.ref d), some (.ref dl), none, none] HL _
    refine lcK (d := d) (kvs := kvs) (o := od) (fun R z => ⟨_, rfl, z⟩) eL (fun D i H' => Go G L HL H' ∧ H' D = some (.lst (((ch.take i).filter fun z => !decide (z ∈ done) && (W z).all fun b => decide (b ∈ done)).map V.str))) ?_ ?_ ?_ ?_
    · intro D hD
      exact ⟨Go.new hD, upd_same⟩
    · rintro D i H' hD _ ⟨g, _⟩
      exact (hun H' g).2
    · rintro D i k v H1 hD hk ⟨g1, eD⟩
      have hil := (List.getElem?_eq_some_iff.mp hk).1
      rw [hkv2.1] at hil
      have hz : ch[i]? = some ch[i] := List.getElem?_eq_getElem hil
      generalize ch[i] = z at hz
      obtain ⟨l0, h1, _⟩ := hkv2.2 i z hz
      rw [hk] at h1
      have h3 := Option.some.inj h1
      injection h3 with h4 h5
      subst h4
      clear h5 h1
      have hzm := List.mem_of_getElem? hz
      obtain ⟨l, hv1, h2⟩ := hkv2.val hzm
      have hzo := cok z hzm
      have etk : ((ch.take (i + 1)).filter fun z => !decide (z ∈ done) && (W z).all fun b => decide (b ∈ done)) = ((ch.take i).filter fun z => !decide (z ∈ done) && (W z).all fun b => decide (b ∈ done)) ++ (if (!decide (z ∈ done) && (W z).all fun b => decide (b ∈ done)) = true then [z] else []) := by
        rw [List.take_succ, hz, List.filter_append]
        congr 1
        show List.filter _ [z] = _
        rw [List.filter_cons]
        rfl
      have hfl : ((ch.take i).filter fun z => !decide (z ∈ done) && (W z).all fun b => decide (b ∈ done)).length ≤ 1000 := Nat.le_trans (List.length_filter_le _ _) (by rw [List.length_take]; omega)
      rw [etk]
      refine r_gN ⟨rfl, ?_⟩
      repeat walk_at "rs"
      refine r_ninL (.of (g1.lst hdl2)) hzo dok ?_
      by_cases c1 : z ∈ done
      · rw [decide_eq_true c1, Bool.not_true, Bool.false_and, if_neg Bool.false_ne_true, List.append_nil]
        repeat walk_at "rs"
        exact ⟨g1, eD⟩
      rw [decide_eq_false c1, Bool.not_false, Bool.true_and]
      repeat walk_at "rs"
      change tLc (iList K (tDGet (tVar 0) (tVar 2))) _ _ _ _ [some (.ref d), some (.ref dl), some (.str z), none] H1 _
      have hl1 := g1.lst h2
      have ed1 := (hun H1 g1).2
      refine lcL (a := l) (xs := (W z).map V.str) (fun R zz => ⟨_, rfl, _, rfl, d, .ref l, rfl, .inl ⟨kvs, .inr z, .inr ⟨od, ed1⟩, rfl, hv1.symm⟩, zz⟩) (.of hl1) (fun D2 j H' => Go G L H1 H' ∧ H' D2 = some (.lst (((W z).take j).map fun b => V.bl (decide (b ∈ done))))) ?_ ?_ ?_ ?_
      · intro D2 hD2
        exact ⟨Go.new hD2, upd_same⟩
      · rintro D2 j H' hD2 _ ⟨g, _⟩
        exact .of (g.lst hl1)
      · rintro D2 j y H2 hD2 hy ⟨g2, eD2⟩
        rw [List.getElem?_map] at hy
        cases hb : (W z)[j]? with
        | none => rw [hb] at hy; cases hy
        | some b =>
          rw [hb] at hy
          obtain rfl : V.str b = y := Option.some.inj hy
          refine r_gN ⟨rfl, r_yes ?_⟩
          repeat walk_at "rs"
          refine r_inL (.of ((g1.trans g2).lst hdl2)) (wok z hzm b (List.mem_of_getElem? hb)) dok ?_
          have hwl := wl z hzm
          refine ⟨_, eD2, by rw [List.length_map, List.length_take, sizeLine_eq]; omega, g2.updNew hD2 eD2, ?_⟩
          rw [upd_same, List.take_succ, hb, List.map_append]
          rfl
      · rintro D2 H2 hD2 ⟨g2, eD2⟩
        rw [List.length_map, List.take_length] at eD2
        repeat walk_at "rs"
        refine ⟨D2, (W z).map fun b => decide (b ∈ done), rfl, .of (by rw [List.map_map]; exact eD2), ?_⟩
        rw [List.all_map]
        have eall : ((W z).all (id ∘ fun b => decide (b ∈ done))) = (W z).all fun b => decide (b ∈ done) := rfl
        rw [eall]
        cases (W z).all fun b => decide (b ∈ done) with
        | true =>
          repeat walk_at "rs"
          refine ⟨_, g2.lst eD, by rw [List.length_map, sizeLine_eq]; omega, (g1.trans g2).updNew hD (g2.lst eD), ?_⟩
          rw [upd_same, if_pos rfl, List.map_append]
          rfl
        | false =>
          repeat walk_at "rs"
          rw [if_neg Bool.false_ne_true, List.append_nil]
          exact ⟨g1.trans g2, g2.lst eD⟩
    · rintro D H1 hD ⟨g1, eD⟩
      rw [hkv2.1, List.take_length] at eD
      obtain ⟨gu, e3⟩ := hun H1 g1
      obtain ⟨nw, nDd⟩ := nwL D hD
      exact ⟨e3, q D _ nw gu ((upd_ne nDd).trans eD)⟩
abbrev nLo : List Str := ["waits", "done", "possible"]
theorem scLongest : FnScope nLo ["waits"] (defScope sLongest) := C8.fnScope_by (by decide +kernel)
def spLongest (K : PySem.W.Frag) (G : List Addr) (L : List (Addr × Str)) : Sp := fun vs H Q _ => ∃ (d : Addr) (ch : List Str) (W : Str → List Str), vs = [.ref d] ∧ WtAt H d ch W ∧ (∀ y ∈ ch, PyData.strOk y = true) ∧ (∀ z ∈ ch, ∀ y ∈ W z, PyData.strOk y = true) ∧ (∀ z ∈ ch, (W z).length ≤ 1000) ∧ ch.length ≤ 1000 ∧
  ∀ l H', Nw H l → Go G L H H' → H' l = some (.lst ((wayF ch W).map V.str)) → Q (.ref l) H'
theorem ok_longest {f : Addr} {fd : FuncData} (F : Fun K "_longest" "_longest" sLongest f fd) (PO : Fd CX0 P w K mg base "possible_changes" 1 (spPossible K G L)) : FnOk P w K mg base CX0 2 f fd ["waits"] (spLongest K G L) := by
  refine F.ok scLongest (fun vs H Q E h => ?_) (fun cdv A outer s H vs Q E hr h => ?_)
  · obtain ⟨d, ch, W, e, _⟩ := h
    rw [e]
    rfl
  · obtain ⟨d, ch, W, e, hd, cok, wok, wl, cl, q⟩ := h
    subst e
    refine ⟨_, pss_cons (ps_set (i := 1) scLongest.nd rfl (Or.inl rfl) (pe_lst pa_nil))
(pss_cons (ps_set (i := 2) scLongest.nd rfl (Or.inl rfl) (pe_fd (E := E0) PO hr pass0 (pa_cons (pv 0) (pa_cons (pv 1) pa_nil))))
(pss_cons (ps_while PassesOwn.never (pt_truth (pv 2) (by intro _; rfl))
  (pss_cons (ps_expr (pe_bm PySem.F.plainAttrs_list PySem.F.slot_list_append PySem.F.type_list_append mt_append (pv 1) (pa_cons (pe_ix (r := rIxL K) ix_list (pv 2) pe_int (fun _ _ => rfl)) pa_nil)))
  (pss_one (ps_set (i := 2) scLongest.nd rfl (Or.inl rfl) (pe_fd (E := E0) PO hr pass0 (pa_cons (pv 0) (pa_cons (pv 1) pa_nil)))))))
(pss_one (ps_ret (pv 1))))), ?_⟩
    repeat walk_at "rs"
    refine ⟨by show 0 ≤ sizeLine; decide, fun pA nA => ?_⟩
    generalize hH : upd _ pA _ = HA; obtain ⟨kA, eA⟩ := new_facts hH nA; clear hH
    have gA : Go G L H HA := Go.same kA
    repeat walk_at "rs"
    refine ⟨d, pA, ch, W, [], rfl, hd.go gA, eA, cok, fun y hy => (by cases hy), wok, wl, cl, fun l1 H1 nl1 g1 el1 => ?_⟩
    repeat walk_at "rs"
    have nAp := nA
    change tWhile _ _ _ [some (.ref d), some (.ref pA), some (.ref l1)] H1
    have nl1A : l1 ≠ pA := fun z => nl1 _ (fun _ z => by cases z) (z ▸ eA)
    have poss_ok : ∀ p, ∀ y ∈ possS ch W p, PyData.strOk y = true := fun p y hy => cok y (poss_mem.mp hy).1
    refine ⟨fun m σ H' => ∃ (p : List Str) (l : Addr), σ = [some (.ref d), some (.ref pA), some (.ref l)] ∧ Go G L H H' ∧ H' pA = some (.lst (p.map V.str)) ∧ H' l = some (.lst ((possS ch W p).map V.str)) ∧ Done ch W p ∧ m + p.length = ch.length ∧ longS ch W m p = wayF ch W, ⟨ch.length, [], l1, rfl, gA.trans g1, g1.lst eA, el1, Done.nil, rfl, rfl⟩, ?_⟩
    rintro m σ H2 ⟨p, l, rfl, g2, ep, el, D, hm, hw⟩
    repeat walk_at "rs"
    refine ⟨_, .inl ⟨_, .of el, rfl⟩, ?_⟩
    have hpl := D.len
    cases hps : possS ch W p with
    | nil =>
      rw [show (!(([] : List Str).map V.str).isEmpty) = false from rfl, if_neg Bool.false_ne_true]
      repeat walk_at "rs"
      rw [long_stop hps] at hw
      rw [hw] at ep
      exact q pA H2 (.of nAp) g2 ep
    | cons z r =>
      rw [show (!((z :: r).map V.str).isEmpty) = true from rfl, if_pos rfl]
      have hzp : z ∈ possS ch W p := by rw [hps]; exact List.mem_cons_self
      have hlt := D.lt hzp
      obtain ⟨m', rfl⟩ : ∃ m', m = m' + 1 := ⟨m - 1, by omega⟩
      rw [long_step, hps] at hw
      rw [hps] at el
      have D' := D.snoc hzp
      refine ⟨fun σ' H' => ∃ (l : Addr), σ' = [some (.ref d), some (.ref pA), some (.ref l)] ∧ Go G L H H' ∧ H' pA = some (.lst ((p ++ [z]).map V.str)) ∧ H' l = some (.lst ((possS ch W (p ++ [z])).map V.str)), fun σ' H' ⟨l, e, g, e1, e2⟩ => ⟨m', by omega, p ++ [z], l, e, g, e1, e2, D', by rw [List.length_append]; show m' + (p.length + 1) = _; omega, hw⟩, ?_⟩
      repeat walk_at "rs"
      refine ⟨.inl ⟨rfl, _, .of ep⟩, ?_⟩
      repeat walk_at "rs"
      refine r_ixL (i := 0) (.of el) (v := .str z) (atI_nat (j := 0) rfl) ?_
      repeat walk_at "rs"
      refine r_append ep (by rw [List.length_map]; omega) ?_
      have gU := g2.updNew (ys := p.map V.str ++ [V.str z]) nAp ep
      have eU : (upd H2 pA (.lst (p.map V.str ++ [V.str z]))) pA = some (.lst ((p ++ [z]).map V.str)) := by
        rw [upd_same, List.map_append]
        rfl
      generalize upd H2 pA (.lst (p.map V.str ++ [V.str z])) = H3 at gU eU ⊢
      repeat walk_at "rs"
      refine ⟨d, pA, ch, W, p ++ [z], rfl, hd.go gU, eU, cok, fun y hy => ?_, wok, wl, cl, fun l4 H4 nl4 g4 el4 => ?_⟩
      · exact cok y (D'.sub y hy)
      repeat walk_at "rs"
      exact ⟨l4, rfl, gU.trans g4, g4.lst eU, el4⟩
end
local macro_rules | `(tactic| walk_at "rs") => `(tactic| first | (with_reducible refine r_tM1 ?_) | (with_reducible refine r_un ?_) | (with_reducible refine r_u1 ?_) | walk_at "rd")
section
variable {P : Program} {w : World} {K : PySem.W.Frag} {mg : Str → Option Value} {base : Heap} {G : List Addr} {L : List (Addr × Str)}
theorem idx_of9 : ∀ {ss : List Str} {z : Str}, z ∈ ss → ∃ j, j < ss.length ∧ ss[j]? = some z ∧ ∀ m y, m < j → ss[m]? = some y → y ≠ z
  | [], z, h => by cases h
  | x :: ss, z, h => by
    by_cases c : x = z
    · exact ⟨0, Nat.zero_lt_succ _, by rw [c]; rfl, fun m y hm _ => absurd hm (Nat.not_lt_zero m)⟩
    · have hz : z ∈ ss := by
        rcases List.mem_cons.mp h with h | h
        · exact absurd h.symm c
        · exact h
      obtain ⟨j, h1, h2, h3⟩ := idx_of9 hz
      refine ⟨j + 1, Nat.succ_lt_succ h1, h2, fun m y hm e => ?_⟩
      cases m with
      | zero => rw [← Option.some.inj e]; exact c
      | succ m => exact h3 m y (by omega) e
theorem r_ixS {H : Hp} {Q : VK} {a : Addr} {z : Str} {ss : List Str} (h : H a = some (.lst (ss.map V.str))) (hz : z ∈ ss) (q : ∀ j : Nat, j < ss.length → Q (.int (j : Nat)) H) : rIndex K (.ref a) [.str z] H Q := by
  obtain ⟨j, h1, h2, h3⟩ := idx_of9 hz
  refine ⟨a, _, .str z, j, .str z, rfl, rfl, .of h, rfl, ?_, by rw [List.getElem?_map, h2]; rfl, ?_, fun m z' hm e => ?_, q j h1⟩
  · rw [List.all_map, List.all_eq_true]
    intro y _
    rfl
  · show decide (z = z) = true
    exact decide_eq_true rfl
  · rw [List.getElem?_map] at e
    cases hy : ss[m]? with
    | none => rw [hy] at e; cases e
    | some y =>
      rw [hy] at e
      obtain rfl := Option.some.inj e
      show decide (y = z) = false
      exact decide_eq_false (h3 m y hm hy)
theorem putK_le (c : List (Key × V)) (k : Key) (x : V) : (putK c k x).length ≤ c.length + 1 := by
  unfold putK
  split
  · rw [List.length_map]
    omega
  · rw [List.length_append]
    exact Nat.le_refl _
theorem Tp.updK {H : Hp} {D t : Addr} {xs : List V} {ks : List (Key × V)} {o : HO} (h : Tp H t xs) (e : H D = some (.dK ks)) : Tp (upd H D o) t xs := by
  rcases h with h | ⟨u, h⟩
  · exact .inl ((upd_ne (fun z => by rw [z, e] at h; cases h)).trans h)
  · exact .inr ⟨u, (upd_ne (fun z => by rw [z, e] at h; cases h)).trans h⟩
abbrev nCi : List Str := ["pairs", "left", "causes", "path", "name", "around", "clause", "before", "after", "each"]
theorem scCircle : FnScope nCi ["pairs", "left"] (defScope sCircle) := C8.fnScope_by (by decide +kernel)
def spCircle (K : PySem.W.Frag) (G : List Addr) (L : List (Addr × Str)) : Sp := fun vs H Q _ => ∃ (pl ll : Addr) (xs : List V) (prs : List PrD) (left : List Str), vs = [.ref pl, .ref ll] ∧ H pl = some (.lst xs) ∧ PrsAt H xs prs ∧ H ll = some (.lst (left.map V.str)) ∧ left ≠ [] ∧ left.length ≤ 1000 ∧ prs.length ≤ 1000 ∧ (∀ y ∈ left, PyData.strOk y = true) ∧ (∀ p ∈ prs, PyData.strOk p.2.1 = true) ∧ (∀ z ∈ left, ∃ p ∈ prs, p.2.2 = z ∧ p.2.1 ∈ left) ∧
  ∀ T H', Go G L H H' → (∃ zs, Tp H' T zs) → Q (.ref T) H'
theorem ok_circle {f : Addr} {fd : FuncData} (F : Fun K "_circle" "_circle" sCircle f fd) (zT : mg "tuple" = none) (zV : mg "reversed" = none) : FnOk P w K mg base CX0 1 f fd ["pairs", "left"] (spCircle K G L) := by
  refine F.ok scCircle (fun vs H Q E h => ?_) (fun cdv A outer s H vs Q E hr h => ?_)
  · obtain ⟨pl, ll, xs, prs, left, e, _⟩ := h
    rw [e]
    rfl
  · obtain ⟨pl, ll, xs, prs, left, e, epl, hprs, ell, lne, llen, plen, lok, pok, hc, q⟩ := h
    subst e
    refine ⟨_, pss_cons (ps_set (i := 2) scCircle.nd rfl (Or.inr rfl) (pe_dc (own := [("clause", 6), ("before", 7), ("after", 8)]) (g := gTup K 3 (gCons (gName 6) (gCons (gName 7) (gCons (gName 8) gNil)))) rfl scCircle.nd (pi_list (pv 0))
            (blkOk_by (own := [("clause", 6), ("before", 7), ("after", 8)]) (N := nCi) (sc := defScope sCircle) (by decide +kernel)) (fun _ _ _ _ _ => pg_tup rfl (pgs_cons (pg_name (i := 6) scCircle.nd rfl (.inl rfl)) (pgs_cons (pg_name (i := 7) scCircle.nd rfl (.inl rfl)) (pgs_cons (pg_name (i := 8) scCircle.nd rfl (.inl rfl)) pgs_nil))))
            (fun _ _ _ _ _ => pts_one (pt_cmpR (r := rInD K) (op_inD (u65 hr)) (pv 7) (pv 1) rfl))
            (fun _ _ _ _ _ => pv 8) (fun _ _ _ _ _ => pe_tup (pa_cons (pv 6) (pa_cons (pv 7) pa_nil)))))
(pss_cons (ps_set (i := 3) scCircle.nd rfl (Or.inl rfl) (pe_lst pa_nil))
(pss_cons (ps_set (i := 4) scCircle.nd rfl (Or.inl rfl) (pe_ix (r := rIxL K) ix_list (pv 1) pe_int (fun _ _ => rfl)))
(pss_cons (ps_while PassesOwn.never (pt_cmpR (op_notInD (u65 hr)) (pv 4) (pv 3) rfl)
  (pss_cons (ps_expr (pe_bm PySem.F.plainAttrs_list PySem.F.slot_list_append PySem.F.type_list_append mt_append (pv 3) (pa_cons (pv 4) pa_nil)))
  (pss_one (ps_set (i := 4) scCircle.nd rfl (Or.inl rfl) (pe_ix (r := rIxT K) ix_tup (pe_dget (hu_of hr) (pv 2) (pv 4) (fun _ _ => rfl)) pe_int (fun _ _ => rfl))))))
(pss_cons (ps_set (i := 5) scCircle.nd rfl (Or.inl rfl) (pe_slice (r := rSlL K) sl_list (pv 3) (po_some (pe_bm (r := rIndex K) PySem.F.plainAttrs_list PySem.F.slot_list_index PySem.F.type_list_index mt_index (pv 3) (pa_cons (pv 4) pa_nil))) po_none))
(pss_one (ps_ret (pe_callTy c_tup rfl zT (by decide +kernel) (pa_cons (pe_lc (own := [("each", 9)]) (g := gName 9) (tt := tYes) rfl scCircle.nd (pi_reversed rfl zV (pa_cons (pv 5) pa_nil))
            (blkOk_by (own := [("each", 9)]) (N := nCi) (sc := defScope sCircle) (by decide +kernel)) (fun _ _ _ _ _ => pg_name (i := 9) scCircle.nd rfl (.inl rfl)) (fun _ _ _ _ _ => pts_nil)
            (fun _ _ _ _ _ => (pe_ix (r := rIxT K) ix_tup (pe_dget (hu_of hr) (pv 2) (pv 9) (fun _ _ => rfl)) pe_int (fun _ _ => rfl)))) pa_nil)))))))), ?_⟩
    repeat walk_at "rs"
    change tDc _ _ _ _ _ _ [some (.ref pl), some (.ref ll), none, none, none, none, none, none, none, none] H _
    have hxl := hprs.length
    rw [List.length_map] at hxl
    refine dcL (a := pl) (xs := xs) (fun R z => ⟨_, rfl, z⟩) (.of epl) (fun D i H' => ∃ kvs, Go G L H H' ∧ H' D = some (.dK kvs) ∧ kvs.length ≤ i ∧ CauAt H' kvs left ∧ ∀ p ∈ prs.take i, p.2.1 ∈ left → ∃ v, valV kvs (Sum.inr p.2.2 : Key) = some v) ?_ ?_ ?_ ?_
    · intro D hD
      exact ⟨[], Go.new hD, upd_same, Nat.le_refl _, fun k v e => (by cases e), fun p hp => by simp at hp⟩
    · rintro D i H' hD _ ⟨kvs, g, _⟩
      exact .of (g.lst epl)
    · rintro D i y H1 hD hy ⟨kvs, g1, eD, hkl, hca, hco⟩
      obtain ⟨pr, t, hpr, rfl, ht⟩ := prs_get (hprs.kt g1.kt) hy
      have hprm := List.mem_of_getElem? hpr
      have hil := (List.getElem?_eq_some_iff.mp hpr).1
      refine g_three ht.seq ⟨by rfl, ?_⟩
      repeat walk_at "rs"
      refine r_inL (.of (g1.lst ell)) (pok pr hprm) lok ?_
      by_cases c : pr.2.1 ∈ left
      · rw [decide_eq_true c]
        refine ⟨_, rfl, ?_⟩
        rw [if_pos rfl]
        repeat walk_at "rs"
        refine ⟨by show 2 ≤ sizeLine; decide, fun pB nB => ?_⟩
        generalize hH : upd _ pB _ = HB; obtain ⟨kB, eB⟩ := new_facts hH nB; clear hH
        have gB : Go G L H1 HB := Go.same kB
        have eDB := gB.dK eD
        have gU := (g1.trans gB).updDK (ls := putK kvs (.inr pr.2.2) (.ref pB)) hD eDB
        refine ⟨kvs, .inr pr.2.2, rfl, eDB, by rw [sizeLine_eq]; omega, _, gU, upd_same, ?_, fun k v e => ?_, fun p hp hpl => ?_⟩
        · exact Nat.le_trans (putK_le _ _ _) (Nat.succ_le_succ hkl)
        · rw [valV_put] at e
          by_cases ck : k = (Sum.inr pr.2.2 : Key)
          · rw [if_pos ck] at e
            exact ⟨pr.2.2, pr.2.1, pB, pr.1, ck, (Option.some.inj e).symm, Tp.updK (.inl eB) eDB, c⟩
          · rw [if_neg ck] at e
            obtain ⟨z, b, t', c', h1, h2, h3, h4⟩ := hca k v e
            exact ⟨z, b, t', c', h1, h2, (h3.kt gB.kt).updK eDB, h4⟩
        · rw [valV_put]
          by_cases ck : (Sum.inr p.2.2 : Key) = (Sum.inr pr.2.2 : Key)
          · exact ⟨_, if_pos ck⟩
          · rw [if_neg ck]
            rw [List.take_succ, hpr] at hp
            rcases List.mem_append.mp hp with hp | hp
            · exact hco p hp hpl
            · rw [List.mem_singleton.mp hp] at ck
              exact absurd rfl ck
      · rw [decide_eq_false c]
        refine ⟨_, rfl, ?_⟩
        rw [if_neg Bool.false_ne_true]
        refine ⟨kvs, g1, eD, by omega, hca, fun p hp hpl => ?_⟩
        rw [List.take_succ, hpr] at hp
        rcases List.mem_append.mp hp with hp | hp
        · exact hco p hp hpl
        · rw [List.mem_singleton.mp hp] at hpl
          exact absurd hpl c
    · rintro D H1 hD ⟨kvs, g1, eD, hkl, hca, hco⟩
      rw [hxl, List.take_length] at hco
      have look : ∀ z ∈ left, ∃ (t : Addr) (c : Nat) (b : Str), valV kvs (Sum.inr z : Key) = some (.ref t) ∧ Tp H1 t [.int (c : Nat), .str b] ∧ b ∈ left := fun z hz => by
        obtain ⟨p, hp, e1, e2⟩ := hc z hz
        obtain ⟨v, hv⟩ := hco p hp e2
        rw [e1] at hv
        obtain ⟨z', b, t, c, h1, h2, h3, h4⟩ := hca _ _ hv
        rw [h2] at hv
        exact ⟨t, c, b, hv, h3, h4⟩
      have ell1 := g1.lst ell
      clear hca hco hkl
      repeat walk_at "rs"
      refine ⟨by show 0 ≤ sizeLine; decide, fun pA nA => ?_⟩
      generalize hH : upd _ pA _ = HA; obtain ⟨kA, eA⟩ := new_facts hH nA; clear hH
      have gA : Go G L H1 HA := Go.same kA
      repeat walk_at "rs"
      obtain ⟨z0, r0, el0⟩ := List.exists_cons_of_ne_nil lne
      refine r_ixL (i := 0) (.of (gA.lst ell1)) (v := .str z0) (atI_nat (j := 0) (by rw [el0]; rfl)) ?_
      repeat walk_at "rs"
      change tWhile _ _ _ [some (.ref pl), some (.ref ll), some (.ref D), some (.ref pA), some (.str z0), none, none, none, none, none] HA
      have nA1 := nA
      refine ⟨fun m σ H' => ∃ (p : List Str) (z : Str), σ = [some (.ref pl), some (.ref ll), some (.ref D), some (.ref pA), some (.str z), none, none, none, none, none] ∧ Go G L H1 H' ∧ H' pA = some (.lst (p.map V.str)) ∧ p.Nodup ∧ (∀ y ∈ p, y ∈ left) ∧ z ∈ left ∧ m + p.length = left.length, ⟨left.length, [], z0, rfl, gA, eA, List.nodup_nil, fun y hy => (by cases hy), by rw [el0]; exact List.mem_cons_self, rfl⟩, ?_⟩
      rintro m σ H2 ⟨p, z, rfl, g2, ep, nd, psub, hz, hm⟩
      have ppok : ∀ y ∈ p, PyData.strOk y = true := fun y hy => lok y (psub y hy)
      have hpl := nodup_len nd psub
      repeat walk_at "rs"
      refine r_ninL (.of ep) (lok z hz) ppok ?_
      refine ⟨_, rfl, ?_⟩
      by_cases c : z ∈ p
      · rw [decide_eq_true c, Bool.not_true, if_neg Bool.false_ne_true]
        repeat walk_at "rs"
        refine ⟨.inl ⟨rfl, _, .of ep⟩, ?_⟩
        repeat walk_at "rs"
        refine r_ixS ep c fun j hj => ?_
        refine ⟨_, rfl, ?_⟩
        repeat walk_at "rs"
        refine r_slL ep fun pE HE kE eE => ?_
        obtain ⟨ys, ey, hys⟩ : ∃ ys : List Str, cutV (p.map V.str) (some (j : Int)) none = ys.map V.str ∧ ∀ y ∈ ys, y ∈ left := by
          refine ⟨(p.drop (HT.sIx (p.map V.str).length 0 (some (j : Int)))).take (HT.sIx (p.map V.str).length (p.map V.str).length none - HT.sIx (p.map V.str).length 0 (some (j : Int))), ?_, fun y hy => psub y (List.mem_of_mem_drop (List.mem_of_mem_take hy))⟩
          unfold cutV
          rw [List.map_take, List.map_drop]
        rw [ey] at eE
        have g1E := g2.trans (Go.same (G := G) (L := L) kE)
        have hyl : ys.length ≤ p.length := by
          have e := congrArg List.length ey
          have l := cutV_length (p.map V.str) (some (j : Int)) none
          rw [e, List.length_map, List.length_map] at l
          exact l
        repeat walk_at "rs"
        change tLc _ _ _ _ _ [some (.ref pl), some (.ref ll), some (.ref D), some (.ref pA), some (.str z), some (.ref pE), none, none, none, none] HE _
        refine r_lcI (fun R zz => ⟨_, rfl, pE, _, rfl, .of eE, zz⟩) walk_rev (fun D2 i H' => Go G L HE H' ∧ ∃ zs, H' D2 = some (.lst zs) ∧ zs.length = i) (fun D2 hD2 => ⟨Go.new hD2, [], upd_same, rfl⟩) (fun D2 i H' hD2 _ ⟨g, _⟩ => .of (g.lst eE)) ?_ fun D2 H' hD2 ⟨g, zs, ez, _⟩ => ?_
        · rintro D2 i x H4 H5 hD2 hi ⟨g4, zs, ez, hzl⟩ ⟨rfl, e2⟩
          rw [List.getElem?_map] at e2
          cases hb : ys[(ys.map V.str).length - 1 - i]? with
          | none => rw [hb] at e2; cases e2
          | some b =>
            rw [hb] at e2
            obtain rfl := Option.some.inj e2
            obtain ⟨t, c', b2, hv, ht, _⟩ := look b (hys b (List.mem_of_getElem? hb))
            have g14 := g1E.trans g4
            refine r_gN ⟨rfl, r_yes ?_⟩
            repeat walk_at "rs"
            refine ⟨_, rfl, _, rfl, D, .ref t, rfl, .inl ⟨kvs, .inr b, .inl (g14.dK eD), rfl, hv.symm⟩, ?_⟩
            repeat walk_at "rs"
            refine r_ixT (i := 0) (ht.kt g14.kt).seq (v := .int (c' : Nat)) (atI_nat (j := 0) rfl) ?_
            rw [List.length_map] at hi
            exact ⟨zs, ez, by rw [sizeLine_eq]; omega, g4.updNew hD2 ez, _, upd_same, by rw [List.length_append, hzl]; rfl⟩
        · repeat walk_at "rs"
          refine r_tupL2 ez fun T HT kT hT => ?_
          repeat walk_at "rs"
          exact q T HT (((g1.trans g1E).trans g).trans (Go.same kT)) ⟨_, hT.tp⟩
      · rw [decide_eq_false c, Bool.not_false, if_pos rfl]
        have nd2 : (p ++ [z]).Nodup := by
          rw [List.nodup_append]
          refine ⟨nd, List.nodup_cons.mpr ⟨List.not_mem_nil, List.nodup_nil⟩, fun a ha b hb e => ?_⟩
          rw [List.mem_singleton.mp hb] at e
          exact c (e ▸ ha)
        have psub2 : ∀ y ∈ p ++ [z], y ∈ left := fun y hy => by
          rcases List.mem_append.mp hy with hy | hy
          · exact psub y hy
          · rw [List.mem_singleton.mp hy]
            exact hz
        have hpl2 := nodup_len nd2 psub2
        rw [List.length_append] at hpl2
        have one : ([z] : List Str).length = 1 := rfl
        obtain ⟨m', rfl⟩ : ∃ m', m = m' + 1 := ⟨m - 1, by omega⟩
        refine ⟨fun σ' H' => ∃ z', σ' = [some (.ref pl), some (.ref ll), some (.ref D), some (.ref pA), some (.str z'), none, none, none, none, none] ∧ Go G L H1 H' ∧ H' pA = some (.lst ((p ++ [z]).map V.str)) ∧ z' ∈ left, fun σ' H' ⟨z', e, g, e1, e2⟩ => ⟨m', by omega, p ++ [z], z', e, g, e1, nd2, psub2, e2, by rw [List.length_append]; omega⟩, ?_⟩
        repeat walk_at "rs"
        refine ⟨.inl ⟨rfl, _, .of ep⟩, ?_⟩
        repeat walk_at "rs"
        refine r_append ep (by rw [List.length_map]; omega) ?_
        have gU := g2.updNew (ys := p.map V.str ++ [V.str z]) nA1 ep
        have eU : (upd H2 pA (.lst (p.map V.str ++ [V.str z]))) pA = some (.lst ((p ++ [z]).map V.str)) := by
          rw [upd_same, List.map_append]
          rfl
        generalize upd H2 pA (.lst (p.map V.str ++ [V.str z])) = H3 at gU eU ⊢
        obtain ⟨t, c', b, hv, ht, hb⟩ := look z hz
        repeat walk_at "rs"
        refine ⟨_, rfl, _, rfl, D, .ref t, rfl, .inl ⟨kvs, .inr z, .inl (gU.dK eD), rfl, hv.symm⟩, ?_⟩
        repeat walk_at "rs"
        refine r_ixT (i := 1) (ht.kt gU.kt).seq (v := .str b) (atI_nat (j := 1) rfl) ?_
        repeat walk_at "rs"
        exact ⟨b, rfl, gU, eU, hb⟩
end
local macro_rules | `(tactic| walk_at "rs") => `(tactic| first | (with_reducible refine r_tM1 ?_) | (with_reducible refine r_un ?_) | (with_reducible refine r_u1 ?_) | walk_at "rd")
section
variable {P : Program} {w : World} {K : PySem.W.Frag} {mg : Str → Option Value} {base : Heap} {G : List Addr} {L : List (Addr × Str)}
theorem scNW : FnScope ["self", "circle"] ["self", "circle"] (defScope (sErr5 iNW)) := C8.fnScope_by (by decide +kernel)
def spNW (K : PySem.W.Frag) (C : Addr) : Sp := fun vs H Q _ => ∃ a v, vs = [.ref a, v] ∧ H a = some (exo a C none) ∧
  ∀ d, H d = none → d ≠ a → Q .non (upd (upd H d (exd d [("circle", v)])) a (exo a C (some d)))
theorem ok_NW {f C S : Addr} {fd : FuncData} (F : Fun K "__init__" "NoWay.__init__" (sErr5 iNW) f fd) (B : BaseC K mg S) (T : OexC K C) (n2 : PySem.W.findIn K (.ref C) "circle" = some none) : FnOk P w K mg base CX0 1 f fd ["self", "circle"] (spNW K C) := by
  refine F.ok scNW (fun vs H Q E h => ?_) (fun cdv A outer s H vs Q E hr h => ?_)
  · obtain ⟨a, i, e, _⟩ := h
    rw [e]
    rfl
  · obtain ⟨a, v, e, ha, q⟩ := h
    subst e
    refine ⟨_, pss_cons (ps_expr (pe_baseinit rfl B.g B.rd B.fv (pa_cons (pv 0) (pa_cons pe_str pa_nil))))
      (pss_one (ps_ost (pv 0) (pv 1))), ?_⟩
    refine r_seq (r_drop (r_cons (r_var (v := .ref a) rfl (r_cons (r_c (r_nil ?_))))))
    refine ⟨a, C, [_], rfl, (by show 1 ≤ 1000; decide), T, ha, ?_⟩
    repeat walk_at "rd"
    exact r_ostV (y := v) (a := a) rfl rfl T n2 (.inl ⟨ha, fun d hd hne => q d hd hne⟩)
theorem mkNW_fin {x : Str} {Q : XK} {u : V} {H1 : Hp} (h : ∀ d Hx, (∀ b o, H1 b = some o → Hx b = some o) → Hx d = some (.xd [("circle", u)]) → Q (.ref (He.ga K x)) (some d) Hx) :
    [u].length ≤ 1000 ∧ ∀ a, H1 a = none → spNW K (He.ga K x) (.ref a :: ([u] ++ [])) (upd H1 a (exo a (He.ga K x) none))
      (fun v H2 => v = .non ∧ ∃ (d : Addr) (fs : List (Str × V)), H2 a = some (exo a (He.ga K x) (some d)) ∧ H2 d = some (exd d fs) ∧ H1 d = none ∧ Q (.ref (He.ga K x)) (some d) (upd (del H2 a) d (.xd fs))) (fun _ _ _ => False) := by
  refine ⟨(by show 1 ≤ 1000; decide), fun a ha => ⟨a, u, rfl, upd_same, fun d hd hne => ?_⟩⟩
  have hd' : H1 d = none := by rw [upd_ne hne] at hd; exact hd
  refine ⟨rfl, d, _, upd_same, by rw [upd_ne hne, upd_same], hd', h d _ (fun b o e => ?_) upd_same⟩
  have nd := ne_of_none e hd'
  have na := ne_of_none e ha
  rw [upd_ne nd, del_ne na, upd_ne na, upd_ne nd, upd_ne na]
  exact e
abbrev nFw : List Str := ["rules", "start", "goal", "waits", "way", "left", "name"]
theorem scFindWay : FnScope nFw ["rules", "start", "goal"] (defScope sFindWay) := C8.fnScope_by (by decide +kernel)
def spFindWay (K : PySem.W.Frag) (G : List Addr) (L : List (Addr × Str)) : Sp := fun vs H Q E => ∃ (x S T : Addr) (ns : List Str) (cd : List PyData) (s g : List Str), vs = [.ref x, .ref S, .ref T] ∧ Two K H x S T ns cd s g ∧
  (¬ Solv ns cd s g → ∀ dd v H', Go G L H H' → H' dd = some (.xd [("circle", v)]) → E (.ref (He.ga K "NoWay")) (some dd) H') ∧
  (Solv ns cd s g → ∀ l H', Nw H l → Go G L H H' → H' l = some (.lst ((wayW ns cd s g).map V.str)) → Q (.ref l) H')
set_option maxHeartbeats 1000000 in
theorem ok_findWay {f : Addr} {fd : FuncData} (F : Fun K "find_way" "find_way" sFindWay f fd) (OP : Fd (L2.CX P w) P w K mg base "order_pairs" 6 (spPairs K G L)) (WT : Fd (L2.CX P w) P w K mg base "waiting" 7 (spWaiting K G L)) (LO : Fd CX0 P w K mg base "_longest" 2 (spLongest K G L)) (CIR : Fd CX0 P w K mg base "_circle" 1 (spCircle K G L)) (ENW : Err P w K mg base "NoWay" (spNW K (He.ga K "NoWay"))) :
    FnOk P w K mg base (L2.CX P w) 8 f fd ["rules", "start", "goal"] (spFindWay K G L) := by
  refine F.okX scFindWay (fun vs H Q E h => ?_) (fun cdv A outer s H vs Q E hr h => ?_)
  · obtain ⟨x, S, T, ns, cd, s', g, e, _⟩ := h
    rw [e]
    rfl
  · obtain ⟨x, S, T, ns, cd, st, go, e, tw, qE, q⟩ := h
    subst e
    refine ⟨_, pss_cons (ps_set (i := 3) scFindWay.nd rfl (Or.inl rfl) (pe_fd (E := E) WT hr (passes_call (takes_of rfl rfl rfl rfl) fun _ _ _ _ z => z) (pa_cons (pv 0) (pa_cons (pv 1) (pa_cons (pv 2) pa_nil)))))
(pss_cons (ps_set (i := 4) scFindWay.nd rfl (Or.inr rfl) (pe_fd (E := E0) LO hr pass0 (pa_cons (pv 3) pa_nil)))
(pss_cons (ps_lock (ps_setLc (i := 5) (own := [("name", 6)]) (g := gName 6) rfl scFindWay.nd rfl rfl (sw_true rfl rfl rfl rfl) (pi_keys (pv 3))
            (blkOk_by (own := [("name", 6)]) (N := nFw) (sc := defScope sFindWay) (by decide +kernel)) (fun _ _ _ _ _ => pg_name (i := 6) scFindWay.nd rfl (.inl rfl)) (fun _ _ _ _ _ => pts_one (pt_cmpR (r := rNotInD K) (op_notInD (u65 hr)) (pv 6) (pv 4) rfl))
            (fun _ _ _ _ _ => (pv 6))))
(pss_cons (ps_if (pt_truth (pv 5) (by intro _; rfl))
  (pss_one (ps_raise rfl (takes_of rfl rfl rfl rfl) (pmk_err ENW hr (pa_cons (pe_fd (E := E0) CIR hr pass0 (pa_cons (pe_fd (E := E) OP hr (passes_call (takes_of rfl rfl rfl rfl) fun _ _ _ _ z => z) (pa_cons (pv 0) (pa_cons (pv 1) (pa_cons (pv 2) pa_nil)))) (pa_cons (pv 5) pa_nil))) pa_nil)))) pss_nil)
(pss_one (ps_ret (pv 4)))))), ?_⟩
    have nok := tw.ok.gs.1
    have plen : (prW ns cd st go).length ≤ 1000 := Nat.le_trans ordP_len (by have := tw.ok.cl; omega)
    have chlen : (diffS ns st go).length ≤ 10 := Nat.le_trans (List.length_filter_le _ _) tw.n10
    have chok : ∀ y ∈ diffS ns st go, PyData.strOk y = true := fun y hy => nok y (mem_diff.mp hy).1
    have wok : ∀ z ∈ diffS ns st go, ∀ y ∈ waitL (prW ns cd st go) z, PyData.strOk y = true := fun z _ y hy => chok y (wait_in z y hy)
    have wl : ∀ z ∈ diffS ns st go, (waitL (prW ns cd st go) z).length ≤ 1000 := fun z _ => Nat.le_trans wait_len plen
    have wd := way_done (diffS ns st go) (waitL (prW ns cd st go))
    repeat walk_at "rs"
    refine ⟨x, S, T, ns, cd, st, go, rfl, tw, fun d H1 nd1 g1 hd1 => ?_⟩
    repeat walk_at "rs"
    refine ⟨d, diffS ns st go, waitL (prW ns cd st go), rfl, hd1, chok, wok, wl, by omega, fun wl2 H2 nw2 g2 ew2 => ?_⟩
    have hd2 := hd1.go g2
    have g02 := g1.trans g2
    repeat walk_at "rs"
    obtain ⟨kvs, ed, hkv⟩ := hd2
    refine ⟨d, .dK kvs, ed, trivial, fun od => ?_⟩
    have hun : ∀ H', Go G L (upd H2 d (.frz od (.dK kvs))) H' → Go G L H2 (upd H' d (.dK kvs)) ∧ H' d = some (.frz od (.dK kvs)) := fun H' g => Go.unlock ed g
    have eL : (upd H2 d (.frz od (.dK kvs))) d = some (.frz od (.dK kvs)) := upd_same
    have nwd : wl2 ≠ d := fun z => by rw [z, ed] at ew2; cases ew2
    have ewL : (upd H2 d (.frz od (.dK kvs))) wl2 = some (.lst ((wayW ns cd st go).map V.str)) := (upd_ne nwd).trans ew2
    have wayok : ∀ y ∈ wayW ns cd st go, PyData.strOk y = true := fun y hy => chok y (wd.sub y hy)
    have nwL : ∀ b, (upd H2 d (.frz od (.dK kvs))) b = none → b ≠ d := fun b hb z => by rw [z, upd_same] at hb; cases hb
    have hkeys := hkv.keys
    have hkl := hkv.1
    have hks : ∀ (i : Nat) (k : Key) (v : V), kvs[i]? = some (k, v) → ∃ z : Str, (diffS ns st go)[i]? = some z ∧ k = Sum.inr z := fun i k v e => by
      have e2 := congrArg (fun l => l[i]?) hkeys
      simp only [List.getElem?_map] at e2
      rw [e] at e2
      cases hz : (diffS ns st go)[i]? with
      | none => rw [hz] at e2; cases e2
      | some z =>
        rw [hz] at e2
        exact ⟨z, rfl, Option.some.inj e2⟩
    clear hkv ed hd1
    generalize upd H2 d (.frz od (.dK kvs)) = HL at hun eL ewL nwL ⊢
    repeat walk_at "rs"
    change tLc (iKeys (tVar 3)) _ _ _ _ [some (.ref x), some (.ref S), some (.ref T), some (.ref d), some (.ref wl2), none, none] HL _
    refine lcK (d := d) (kvs := kvs) (o := od) (fun R z => ⟨_, rfl, z⟩) eL (fun D i H' => Go G L HL H' ∧ H' D = some (.lst ((((diffS ns st go).take i).filter fun z => !decide (z ∈ wayW ns cd st go)).map V.str))) ?_ ?_ ?_ ?_
    · intro D hD
      exact ⟨Go.new hD, upd_same⟩
    · rintro D i H' hD _ ⟨g, _⟩
      exact (hun H' g).2
    · rintro D i k v H3 hD hk ⟨g3, eD⟩
      obtain ⟨z, hz, rfl⟩ := hks i k v hk
      have hzm := List.mem_of_getElem? hz
      have etk : (((diffS ns st go).take (i + 1)).filter fun z => !decide (z ∈ wayW ns cd st go)) = (((diffS ns st go).take i).filter fun z => !decide (z ∈ wayW ns cd st go)) ++ (if (!decide (z ∈ wayW ns cd st go)) = true then [z] else []) := by
        rw [List.take_succ, hz, List.filter_append]
        congr 1
        show List.filter _ [z] = _
        rw [List.filter_cons]
        rfl
      have hfl : (((diffS ns st go).take i).filter fun z => !decide (z ∈ wayW ns cd st go)).length ≤ 1000 := Nat.le_trans (List.length_filter_le _ _) (by rw [List.length_take]; omega)
      rw [etk]
      refine r_gN ⟨rfl, ?_⟩
      repeat walk_at "rs"
      refine r_ninL (.of (g3.lst ewL)) (chok z hzm) wayok ?_
      cases (!decide (z ∈ wayW ns cd st go)) with
      | false =>
        refine ⟨_, rfl, ?_⟩
        rw [if_neg Bool.false_ne_true, if_neg Bool.false_ne_true, List.append_nil]
        exact ⟨g3, eD⟩
      | true =>
        refine ⟨_, rfl, ?_⟩
        rw [if_pos rfl, if_pos rfl]
        repeat walk_at "rs"
        refine ⟨_, eD, by rw [List.length_map, sizeLine_eq]; omega, g3.updNew hD eD, ?_⟩
        rw [upd_same, List.map_append]
        rfl
    · rintro D H3 hD ⟨g3, eD⟩
      rw [hkl, List.take_length] at eD
      obtain ⟨gu, e3⟩ := hun H3 g3
      have nDd := nwL D hD
      have eDu : (upd H3 d (.dK kvs)) D = some (.lst ((leftS (diffS ns st go) (wayW ns cd st go)).map V.str)) := (upd_ne nDd).trans eD
      have ewu : (upd H3 d (.dK kvs)) wl2 = some (.lst ((wayW ns cd st go).map V.str)) := gu.lst ew2
      have g0u := g02.trans gu
      repeat walk_at "rs"
      refine ⟨e3, ?_⟩
      clear hun nwL eL ewL g3 eD hks
      generalize upd H3 d (.dK kvs) = HU at gu eDu ewu g0u ⊢
      repeat walk_at "rs"
      refine ⟨_, .inl ⟨_, .of eDu, rfl⟩, ?_⟩
      cases hl : leftS (diffS ns st go) (wayW ns cd st go) with
      | nil =>
        rw [show (!(([] : List Str).map V.str).isEmpty) = false from rfl, if_neg Bool.false_ne_true]
        repeat walk_at "rs"
        exact q hl wl2 HU (nw2.backG g1) g0u ewu
      | cons z r =>
        rw [show (!((z :: r).map V.str).isEmpty) = true from rfl, if_pos rfl]
        have twu := tw.go g0u
        have nS : ¬ Solv ns cd st go := fun h => by
          have h' : leftS (diffS ns st go) (wayW ns cd st go) = [] := h
          rw [hl] at h'
          cases h'
        repeat walk_at "rs"
        refine r_mk ?_
        repeat walk_at "rs"
        refine ⟨x, S, T, ns, cd, st, go, rfl, twu, fun pl xs H5 npl g5 epl hprs => ?_⟩
        repeat walk_at "rs"
        have lmem : ∀ y ∈ leftS (diffS ns st go) (wayW ns cd st go), y ∈ diffS ns st go := fun y hy => (left_mem.mp hy).1
        refine ⟨pl, D, xs, prW ns cd st go, leftS (diffS ns st go) (wayW ns cd st go), rfl, epl, hprs, g5.lst eDu, by rw [hl]; exact fun z => (by cases z), Nat.le_trans (List.length_filter_le _ _) (by omega), plen, fun y hy => chok y (lmem y hy), fun p hp => ?_, fun y hy => ?_, fun CT H6 g6 _ => ?_⟩
        · obtain ⟨j, w0, a, b, h1, h2, h3, h4, h5⟩ := mem_ord.mp hp
          rw [h2]
          show PyData.strOk (inOrd w0 a b st).1 = true
          unfold inOrd
          split
          · exact chok _ h5
          · exact chok _ h4
        · obtain ⟨b, hb1, hb2⟩ := left_waits (W := waitL (prW ns cd st go)) (fun z b hb => wait_in z b hb) hy
          obtain ⟨i, hi⟩ := mem_wait.mp hb1
          exact ⟨_, hi, rfl, hb2⟩
        repeat walk_at "rs"
        refine mkNW_fin fun dd Hx kx hx => ?_
        exact qE nS dd _ Hx ((g0u.trans (g5.trans g6)).trans (Go.same kx)) hx
end
local macro_rules | `(tactic| walk_at "rs") => `(tactic| first | (with_reducible refine r_tM1 ?_) | (with_reducible refine r_u1 ?_) | (with_reducible refine r_un ?_) | (with_reducible refine r_sfl ?_) | walk_at "rd")
section
variable {P : Program} {w : World} {K : PySem.W.Frag} {mg : Str → Option Value} {base : Heap} {G : List Addr} {L : List (Addr × Str)}
def remS (ns st : List Str) : Option (List Str) → List Str
  | none => []
  | some g => diffS ns st g
def spRem (K : PySem.W.Frag) (G : List Addr) (L : List (Addr × Str)) : Sp := fun vs H Q _ => ∃ (x : Addr) (f : Ro) (d : RoD) (g : Option (List Str)), vs = [.ref x] ∧ RolAt K H x f d ∧ RoGood d ∧ GoalAt H f.go d.ns d.cd g ∧
  ∀ l H', Nw H l → Go G L H H' → H' l = some (.lst ((remS d.ns d.st g).map V.str)) → Q (.ref l) H'
theorem ok_rem {g : Addr} {fd : FuncData} (F : Fun K "remaining" "Rollout.remaining" (sO 4) g fd) (R : RoC K mg) (DF : Fd CX0 P w K mg base "differing" 1 (spDiffering K G L)) (FN : Fp P w K mg base "names" "_names") : FnOk P w K mg base CX0 4 g fd ["self"] (spRem K G L) := by
  refine F.ok scRem (fun vs H Q E h => ?_) (fun cdv A outer s H vs Q E hr h => ?_)
  · obtain ⟨x, f, d, go, e, _⟩ := h
    rw [e]
    rfl
  · obtain ⟨x, f, d, go, e, hR, gd, hg, q⟩ := h
    subst e
    refine ⟨_, pss_cons (ps_if (pt_cmpR op_isN (pe_fld (pv 0) rfl) pe_non (nomark _))
  (pss_one (ps_ret (pe_lst pa_nil))) pss_nil)
(pss_one (ps_ret (pe_fd (E := E0) DF hr pass0 (pa_cons (pe_fp FN hr (pe_fld (pv 0) rfl)) (pa_cons (pe_fld (pv 0) rfl) (pa_cons (pe_fld (pv 0) rfl) pa_nil)))))), ?_⟩
    obtain ⟨h0, rr, S, D, U, e1, e2, e3, e4, hru, hS, hD, hU⟩ := hR
    have nok := gd.ok.gs.1
    repeat walk_at "rs"
    refine r_ro R h0 ?_
    rcases hg with ⟨rfl, eg⟩ | ⟨T, gs, rfl, eg, hT, hsub, hleg⟩
    · rw [eg]
      repeat walk_at "rs"
      refine ⟨rfl, true, rfl, ?_⟩
      try dsimp only
      rw [if_pos rfl]
      repeat walk_at "rs"
      refine ⟨by show 0 ≤ sizeLine; decide, fun pA nA => ?_⟩
      generalize hH : upd _ pA _ = HA; obtain ⟨kA, eA⟩ := new_facts hH nA; clear hH
      exact q pA HA (.of nA) (Go.same kA) eA
    · rw [eg]
      repeat walk_at "rs"
      refine ⟨rfl, false, rfl, ?_⟩
      try dsimp only
      rw [if_neg Bool.false_ne_true]
      repeat walk_at "rs"
      refine r_pnames (x := rr) (fun R0 z => r_fld (r_var (v := .ref x) rfl (r_ro R h0 (v := f.ru) (by rw [e1]; exact z)))) hru fun an han => ?_
      repeat walk_at "rs"
      refine r_ro R h0 ?_
      rw [e2]
      repeat walk_at "rs"
      refine r_ro R h0 ?_
      rw [eg]
      repeat walk_at "rs"
      have sok : ∀ y ∈ d.st, PyData.strOk y = true := fun y hy => nok y (gd.sub.subset hy)
      have gok : ∀ y ∈ gs, PyData.strOk y = true := fun y hy => nok y (hsub.subset hy)
      refine ⟨an, .ref S, .ref T, d.ns, d.st.map PyData.str, gs.map PyData.str, rfl, han.tp, .tup hS.seq (dps_strs _), .tup hT.seq (dps_strs _), by have := gd.n10; omega, nok, lv_strs sok, lv_strs gok, fun l H' nl g' el => ?_⟩
      have edf : d.ns.filter (diffB (d.st.map PyData.str) (gs.map PyData.str)) = diffS d.ns d.st gs := List.filter_congr fun z _ => by
        show (inD (.str z) (d.st.map PyData.str) != inD (.str z) (gs.map PyData.str)) = _
        rw [inD_map, inD_map]
      rw [edf] at el
      exact q l H' nl g' el
abbrev nAdv : List Str := ["self", "count", "way", "changes"]
theorem scAdv : FnScope nAdv ["self", "count"] (defScope (sO 7)) := C8.fnScope_by (by decide +kernel)
theorem cut_toN {xs : List V} {k : Nat} : cutV xs none (some (k : Int)) = xs.take k := by
  unfold cutV
  rw [HT.sIx_none, HT.sIx_nat, List.drop_zero, Nat.sub_zero]
  rcases Nat.le_total k xs.length with h | h
  · rw [Nat.min_eq_left h]
  · rw [Nat.min_eq_right h, List.take_length, List.take_of_length_le h]
def spAdv (K : PySem.W.Frag) (G : List Addr) (L : List (Addr × Str)) : Sp := fun vs H Q E => ∃ (x : Addr) (c : Nat) (f : Ro) (d : RoD) (g : Option (List Str)), vs = [.ref x, .int (c : Nat)] ∧ RolAt K H x f d ∧ RoGood d ∧ d.ns.Nodup ∧ (∀ e ∈ d.cd, ClD d.ns e) ∧ GoalAt H f.go d.ns d.cd g ∧ d.dn.length ≤ 200 ∧
  (g = none → ∀ H', Go G L H H' → E (.ref (He.ga K "NoGoal")) none H') ∧
  (∀ gs, g = some gs → ¬ Solv d.ns d.cd d.st gs → ∀ dd v H', Go G L H H' → H' dd = some (.xd [("circle", v)]) → E (.ref (He.ga K "NoWay")) (some dd) H') ∧
  (∀ gs, g = some gs → Solv d.ns d.cd d.st gs → ∀ l f' H', GoR G L x H H' → f'.go = f.go → f'.op = f.op → RolAt K H' x f' (chgD d ((wayW d.ns d.cd d.st gs).take c)) → H' l = some (.lst (((wayW d.ns d.cd d.st gs).take c).map V.str)) → Q (.ref l) H')
set_option maxHeartbeats 1000000 in
theorem ok_adv {f : Addr} {fd : FuncData} {dvs : List V} (F : L2.FunD K "advance" "Rollout.advance" (defArgs (sO 7)) (defBody (sO 7)) (defScope (sO 7)) dvs [] f fd) (R : RoC K mg) (zX : mg "max" = none) (ENG : Er0 K mg "NoGoal") (FW : Fd (L2.CX P w) P w K mg base "find_way" 8 (spFindWay K G L)) (CH : FmS P w K mg base "change" 12 (spChangeB K G L)) : FnOk P w K mg base (L2.CX P w) 14 f fd ["self", "count"] (spAdv K G L) := by
  obtain ⟨g, bm, FCh⟩ := CH.ex
  refine F.ok (k := 13) scAdv (fun vs H Q E h => ?_) (fun cdv A outer s H vs Q E hr h => ?_)
  · obtain ⟨x, c, f, d, go, e, _⟩ := h
    rw [e]
    rfl
  · obtain ⟨x, c, f, d, go, e, hR, gd, nd, hcl, hg, hl2, qG, qN, q⟩ := h
    subst e
    refine ⟨_, pss_cons (ps_if (pt_cmpR op_isN (pe_fld (pv 0) rfl) pe_non (nomark _))
  (pss_one (ps_raise rfl (takes_of rfl rfl rfl rfl) (pmk_er0 ENG))) pss_nil)
(pss_cons (ps_set (i := 2) scAdv.nd rfl (Or.inl rfl) (pe_fd (E := E) FW hr (passes_call (takes_of rfl rfl rfl rfl) fun _ _ _ _ z => z) (pa_cons (pe_fld (pv 0) rfl) (pa_cons (pe_fld (pv 0) rfl) (pa_cons (pe_fld (pv 0) rfl) pa_nil)))))
(pss_cons (ps_set (i := 3) scAdv.nd rfl (Or.inl rfl) (pe_slice (r := rSlL K) sl_list (pv 2) po_none (po_some (pe_callB (r := cMax) (c_max rfl) rfl zX boot_max (pa_cons (pv 1) (pa_cons pe_int pa_nil))))))
(pss_cons (ps_expr (pe_methSL (E := E) (pv 0) R.cl bm FCh (hr.mono (by decide)) (passes_call (takes_of rfl rfl rfl rfl) fun _ _ _ _ z => z) (pv 3)))
(pss_one (ps_ret (pv 3)))))), ?_⟩
    obtain ⟨h0, rr, S, D, U, e1, e2, e3, e4, hru, hS, hD, hU⟩ := hR
    have nok := gd.ok.gs.1
    repeat walk_at "rs"
    refine r_ro R h0 ?_
    rcases hg with ⟨rfl, eg⟩ | ⟨T, gs, rfl, eg, hT, hsub, hleg⟩
    · rw [eg]
      repeat walk_at "rs"
      refine ⟨rfl, true, rfl, ?_⟩
      try dsimp only
      rw [if_pos rfl]
      repeat walk_at "rs"
      exact qG rfl H (Go.refl _)
    · rw [eg]
      repeat walk_at "rs"
      refine ⟨rfl, false, rfl, ?_⟩
      try dsimp only
      rw [if_neg Bool.false_ne_true]
      repeat walk_at "rs"
      refine r_ro R h0 ?_
      rw [e1]
      repeat walk_at "rs"
      refine r_ro R h0 ?_
      rw [e2]
      repeat walk_at "rs"
      refine r_ro R h0 ?_
      rw [eg]
      repeat walk_at "rs"
      have wb : WB d.ns d.cd d.st gs := ⟨nd, hcl, gd.sub, hsub, gd.leg, hleg⟩
      refine ⟨rr, S, T, d.ns, d.cd, d.st, gs, rfl, ⟨hru, gd.ok, gd.n10, wb, hS, hT⟩, qN gs rfl, fun hsv wl H1 nw g1 ew => ?_⟩
      repeat walk_at "rs"
      refine ⟨_, _, rfl, ?_⟩
      rw [if_neg (by omega : ¬ (0 : Int) > (c : Nat))]
      refine ⟨_, rfl, ?_⟩
      refine r_slL ew fun cl HC kC eC => ?_
      replace eC : HC cl = some (.lst (((wayW d.ns d.cd d.st gs).take c).map V.str)) := by rw [eC, cut_toN, List.map_take]
      have g0C := g1.trans (Go.same (G := G) (L := L) kC)
      have wd := way_done (diffS d.ns d.st gs) (waitL (prW d.ns d.cd d.st gs))
      have hwl := way_legal wb _ _ (Nat.le_refl _) (wd.take c)
      have hcok : ∀ y ∈ (wayW d.ns d.cd d.st gs).take c, PyData.strOk y = true := fun y hy => nok y (mem_diff.mp (wd.sub y (List.mem_of_mem_take hy))).1
      have hclen : ((wayW d.ns d.cd d.st gs).take c).length ≤ 99 := by
        have h1 : ((wayW d.ns d.cd d.st gs).take c).length ≤ (diffS d.ns d.st gs).length := (wd.take c).len
        have h2 : (diffS d.ns d.st gs).length ≤ d.ns.length := List.length_filter_le _ _
        have := gd.n10
        omega
      have q2 := q gs rfl hsv
      clear q qN qG
      generalize (wayW d.ns d.cd d.st gs).take c = cs at eC hwl hcok hclen q2
      repeat walk_at "rs"
      obtain ⟨dx1, i1⟩ := h0.go g0C
      refine ⟨.ref x, rfl, x, dx1, _, rfl, i1, rfl, fun q1 nq => ⟨.ref cl, rfl, cl, cs.map V.str, rfl, .inr (.of ((Go.new (G := G) (L := L) nq).lst eC)), upd_same, [.ref x], cs.map V.str, rfl, rfl, ?_, fun p2 n2 => ?_⟩⟩
      · rw [List.length_map, sizeLine_eq]
        omega
      generalize hH : upd (upd HC q1 _) p2 _ = H2
      obtain ⟨k2, i2⟩ := new_facts hH n2
      clear hH
      have gC2 : Go G L HC H2 := (Go.new nq).trans (Go.same k2)
      have g02 := g0C.trans gC2
      have R2 : RolAt K H2 x f d := ⟨h0.go g02, rr, S, D, U, e1, e2, e3, e4, hru.kt g02.kt, hS.kt g02.kt, hD.kt g02.kt, hU.kt g02.kt⟩
      refine ⟨x, p2, f, d, cs, rfl, R2, gd, .inl i2, hcok, hclen, hl2, fun T' hT' => (by rw [hwl] at hT'; cases hT'), fun hn S' f' H3 g3 eg' eo' _ _ _ _ hR3 => ?_⟩
      repeat walk_at "rs"
      exact q2 cl f' H3 (g02.toR.trans g3) eg' eo' hR3 (R2.1.lst g3 (gC2.lst eC))
end
local macro_rules | `(tactic| walk_at "rs") => `(tactic| first | (with_reducible refine r_tM1 ?_) | (with_reducible refine r_u1 ?_) | (with_reducible refine r_un ?_) | (with_reducible refine r_sfl ?_) | walk_at "rd")
section
variable {P : Program} {w : World} {K : PySem.W.Frag} {mg : Str → Option Value} {base : Heap} {G : List Addr} {L : List (Addr × Str)}
/-- what is wrong with a state -/
def chkD (ns : List Str) (cd : List PyData) (d : PyData) : Option PyData := match stateBad ns d with
  | some i => some (invD i)
  | none => match d with
    | .tuple sd => (match brokenFrom sd 0 cd with
      | [] => none
      | j :: _ => some (illD j))
    | _ => none
theorem r_chkD {H : Hp} {Q : VK} {E : XK} {x : Addr} {v : V} {ns : List Str} {cd : List PyData} {d : PyData} (h1 : RulesAt K H x ns cd) (ok : OkR ns cd) (hd : Dp K H v d) (l7 : lv 7 d = true) (l60 : ∀ sd, d = .tuple sd → sd.length ≤ 60)
    (hE : ∀ D, chkD ns cd d = some D → ∀ cls dd H', Go G L H H' → Told K cls dd H' D → E cls dd H') (hQ : chkD ns cd d = none → ∀ H', Go G L H H' → Q .non H') : spChkLegal K G L ([.ref x, v] ++ []) H Q E := by
  refine ⟨x, v, ns, cd, d, rfl, h1, ok, hd, l7, l60, fun i hi cls dd H' g hT => hE _ (by unfold chkD; rw [hi]) cls dd H' g hT, fun sd ed hb j rest hbr cls dd H' g hT => hE _ (by subst ed; unfold chkD; rw [hb]; simp only; rw [hbr]) cls dd H' g hT, fun sd ed hb hbr H' g => hQ (by subst ed; unfold chkD; rw [hb]; simp only; rw [hbr]) H' g⟩
def spOInitE (K : PySem.W.Frag) (G : List Addr) (L : List (Addr × Str)) : Sp := fun vs H _ E => ∃ (x rr : Addr) (sv gv : V) (ns : List Str) (cd : List PyData) (d1 d2 D : PyData), vs = [.ref x, .ref rr, sv, gv] ∧ RulesAt K H rr ns cd ∧ OkR ns cd ∧ Dp K H sv d1 ∧ lv 7 d1 = true ∧ (∀ sd, d1 = .tuple sd → sd.length ≤ 60) ∧
  (chkD ns cd d1 = some D ∨ (chkD ns cd d1 = none ∧ gv ≠ .non ∧ Dp K H gv d2 ∧ lv 7 d2 = true ∧ (∀ sd, d2 = .tuple sd → sd.length ≤ 60) ∧ chkD ns cd d2 = some D)) ∧ ∀ cls dd H', Go G L H H' → Told K cls dd H' D → E cls dd H'
theorem ok_oinitE {f : Addr} {fd : FuncData} (F : L2.FunD K "__init__" "Rollout.__init__" (defArgs (sO 0)) (defBody (sO 0)) (defScope (sO 0)) [] [("goal", .non)] f fd) (R : RoC K mg) (CHL : Fd (L2.CX P w) P w K mg base "check_legal" 5 (spChkLegal K G L)) :
    FnOk P w K mg base (L2.CX P w) 7 f fd nOI (spOInitE K G L) := by
  refine F.ok (k := 6) scOInit (fun vs H Q E h => ?_) (fun cdv A outer s H vs Q E hr h => ?_)
  · obtain ⟨x, rr, sv, gv, ns, cd, d1, d2, D, e, _⟩ := h
    rw [e]
    rfl
  · obtain ⟨x, rr, sv, gv, ns, cd, d1, d2, D, e, hru, ok, hd, l7, l60, hor, qE⟩ := h
    subst e
    refine ⟨_, pss_cons (ps_expr (pe_fd (E := E) CHL hr (passes_call (takes_of rfl rfl rfl rfl) fun _ _ _ _ z => z) (pa_cons (pv 1) (pa_cons (pv 2) pa_nil))))
(pss_cons (ps_if (pt_cmpR op_notN (pv 3) pe_non (nomark _))
  (pss_one (ps_expr (pe_fd (E := E) CHL hr (passes_call (takes_of rfl rfl rfl rfl) fun _ _ _ _ z => z) (pa_cons (pv 1) (pa_cons (pv 3) pa_nil))))) pss_nil)
(pss_cons (ps_fld (pv 0) (pv 1) rfl)
(pss_cons (ps_fld (pv 0) (pv 2) rfl)
(pss_cons (ps_fld (pv 0) (pv 3) rfl)
(pss_cons (ps_fld (pv 0) (pe_tup pa_nil) rfl)
(pss_cons (ps_fld (pv 0) (pe_tup pa_nil) rfl)
(pss_cons (ps_fld (pv 0) pe_bl rfl)
(pss_cons (ps_fld (pv 0) (pv 2) rfl)
(pss_cons (ps_fld (pv 0) (pe_tup pa_nil) rfl)
(pss_one (ps_fld (pv 0) (pe_tup pa_nil) rfl))))))))))), ?_⟩
    repeat walk_at "rs"
    refine r_chkD hru ok hd l7 l60 (fun D' hD' cls dd H' g hT => ?_) (fun hn H1 g1 => ?_)
    · rcases hor with h | ⟨h, _⟩
      · obtain rfl : D = D' := Option.some.inj (h.symm.trans hD')
        exact qE cls dd H' g hT
      · rw [h] at hD'
        cases hD'
    · rcases hor with h | ⟨_, hgn, hd2, l72, l602, h2⟩
      · rw [h] at hn
        cases hn
      repeat walk_at "rs"
      refine ⟨rfl, _, rfl, ?_⟩
      rw [decide_eq_false hgn, Bool.not_false, if_pos rfl]
      repeat walk_at "rs"
      refine r_chkD (hru.kt g1.kt) ok (Dp.go g1.1 hd2) l72 l602 (fun D' hD' cls dd H' g hT => ?_) (fun hn2 H2 g2 => ?_)
      · obtain rfl : D = D' := Option.some.inj (h2.symm.trans hD')
        exact qE cls dd H' (g1.trans g) hT
      · rw [h2] at hn2
        cases hn2
/-- cls(rules, state, goal=goal), which is refused -/
structure MkOE (P : Program) (w : World) (K : PySem.W.Frag) (mg : Str → Option Value) (base : Heap) (G : List Addr) (L : List (Addr × Str)) : Prop where
  c : RoC K mg
  ex : ∃ (f : Addr) (fd : FuncData), Mk K (cO K) f ∧ FnOk P w K mg base (L2.CX P w) 7 f fd nOI (spOInitE K G L) ∧ Binds K fd nOI [Value.none] ∧ ∃ g, KBn K fd nOI 3 ["goal"] g (fun vs zs => vs ++ zs)
def spResumedE (K : PySem.W.Frag) (G : List Addr) (L : List (Addr × Str)) : Sp := fun vs H _ E => ∃ (rr : Addr) (sv ca gv : V) (ns : List Str) (cd : List PyData) (d1 D : PyData), vs = [.ref (cO K), .ref rr, sv, ca, gv] ∧ RulesAt K H rr ns cd ∧ OkR ns cd ∧ Dp K H sv d1 ∧ lv 7 d1 = true ∧ (∀ sd, d1 = .tuple sd → sd.length ≤ 60) ∧
  chkD ns cd d1 = some D ∧ ∀ cls dd H', Go G L H H' → Told K cls dd H' D → E cls dd H'
theorem ok_resumedE {f : Addr} {fd : FuncData} (F : L2.FunD K "resumed" "Rollout.resumed" (defArgs (sO 10)) (defBody (sO 10)) (defScope (sO 10)) [] [("goal", .non)] f fd) (M : MkOE P w K mg base G L) (CH : FmS P w K mg base "change" 12 (spChangeB K G L)) :
    FnOk P w K mg base (L2.CX P w) 14 f fd ["cls", "rules", "state", "changes", "goal"] (spResumedE K G L) := by
  obtain ⟨fi, fdi, hm, Fi, _, gk, kb⟩ := M.ex
  obtain ⟨g, bm, FCh⟩ := CH.ex
  refine F.ok (k := 13) scResumed (fun vs H Q E h => ?_) (fun cdv A outer s H vs Q E hr h => ?_)
  · obtain ⟨rr, sv, ca, gv, ns, cd, d1, D, e, _⟩ := h
    rw [e]
    rfl
  · obtain ⟨rr, sv, ca, gv, ns, cd, d1, D, e, hru, ok, hd, l7, l60, h1, qE⟩ := h
    subst e
    refine ⟨_, pss_cons (ps_set (i := 5) scResumed.nd rfl (Or.inl rfl) (pe_makeV (E := E) hm Fi (hr.mono (by decide)) (pv 0) kb (passes_call (takes_of rfl rfl rfl rfl) fun _ _ _ _ z => z) (pa_cons (pv 1) (pa_cons (pv 2) pa_nil)) (pk_cons (pv 4) pk_nil)))
(pss_cons (ps_expr (pe_methSL (E := E) (pv 5) M.c.cl bm FCh (hr.mono (by decide)) (passes_call (takes_of rfl rfl rfl rfl) fun _ _ _ _ z => z) (pv 3)))
(pss_one (ps_ret (pv 5)))), ?_⟩
    repeat walk_at "rs"
    refine ⟨.ref (cO K), rfl, rfl, ?_⟩
    refine r_cons (r_var (v := .ref rr) rfl (r_cons (r_var (v := sv) rfl (r_nil (r_cons (r_var (v := gv) rfl (r_nil ?_)))))))
    refine ⟨rfl, rfl, fun x dx nx ndx hne => ?_⟩
    have nx1 : (upd H dx (.own x)) x = none := by rw [upd_ne hne.symm]; exact nx
    have g0 : Go G L H (upd (upd H dx (.own x)) x (.ins (cO K) dx [])) := (Go.new ndx).trans (Go.new nx1)
    exact ⟨x, rr, sv, gv, ns, cd, d1, .none, D, rfl, hru.kt g0.kt, ok, Dp.go g0.1 hd, l7, l60, .inl h1, fun cls dd H' g hT => qE cls dd H' (g0.trans g) hT⟩
def spResumedG (K : PySem.W.Frag) (G : List Addr) (L : List (Addr × Str)) : Sp := fun vs H Q E => ∃ (rr S ca : Addr) (gv : V) (d : RoD) (cs : List Str) (go : Option (List Str)), vs = [.ref (cO K), .ref rr, .ref S, .ref ca, gv] ∧ RulesAt K H rr d.ns d.cd ∧ Tp H S (d.st.map V.str) ∧ RoGood d ∧ d.dn = [] ∧ d.un = [] ∧ H ca = some (.lst (cs.map V.str)) ∧ (∀ z ∈ cs, PyData.strOk z = true) ∧ cs.length ≤ 99 ∧ GoalAt H gv d.ns d.cd go ∧
  (∀ D, wayE d.ns d.cd 0 d.st (cs.map PyData.str) = some D → ∀ cls dd H', Go G L H H' → Told K cls dd H' D → E cls dd H') ∧ (wayE d.ns d.cd 0 d.st (cs.map PyData.str) = none → ∀ x f H', Nw H x → Go G L H H' → f.go = gv → f.op = .bl false → RolAt K H' x f (chgD d cs) → Q (.ref x) H')
set_option maxHeartbeats 1000000 in
theorem ok_resumedG {f : Addr} {fd : FuncData} (F : L2.FunD K "resumed" "Rollout.resumed" (defArgs (sO 10)) (defBody (sO 10)) (defScope (sO 10)) [] [("goal", .non)] f fd) (M : MkOK P w K mg base G L) (CH : FmS P w K mg base "change" 12 (spChangeB K G L)) :
    FnOk P w K mg base (L2.CX P w) 14 f fd ["cls", "rules", "state", "changes", "goal"] (spResumedG K G L) := by
  obtain ⟨fi, fdi, hm, Fi, gk, kb⟩ := M.ex
  obtain ⟨g, bm, FCh⟩ := CH.ex
  refine F.ok (k := 13) scResumed (fun vs H Q E h => ?_) (fun cdv A outer s H vs Q E hr h => ?_)
  · obtain ⟨rr, S, ca, gv, d, cs, go, e, _⟩ := h
    rw [e]
    rfl
  · obtain ⟨rr, S, ca, gv, d, cs, go, e, hru, hS, gd, ed, eu, hca, hok, hl, hg, qE, q⟩ := h
    subst e
    refine ⟨_, pss_cons (ps_set (i := 5) scResumed.nd rfl (Or.inl rfl) (pe_makeV (E := E) hm Fi (hr.mono (by decide)) (pv 0) kb (passes_call (takes_of rfl rfl rfl rfl) fun _ _ _ _ z => z) (pa_cons (pv 1) (pa_cons (pv 2) pa_nil)) (pk_cons (pv 4) pk_nil)))
(pss_cons (ps_expr (pe_methSL (E := E) (pv 5) M.c.cl bm FCh (hr.mono (by decide)) (passes_call (takes_of rfl rfl rfl rfl) fun _ _ _ _ z => z) (pv 3)))
(pss_one (ps_ret (pv 5)))), ?_⟩
    repeat walk_at "rs"
    refine ⟨.ref (cO K), rfl, rfl, ?_⟩
    refine r_cons (r_var (v := .ref rr) rfl (r_cons (r_var (v := .ref S) rfl (r_nil (r_cons (r_var (v := gv) rfl (r_nil ?_)))))))
    refine ⟨rfl, rfl, fun x dx nx ndx hne => ?_⟩
    have nx1 : (upd H dx (.own x)) x = none := by rw [upd_ne hne.symm]; exact nx
    have g0 : Go G L H (upd (upd H dx (.own x)) x (.ins (cO K) dx [])) := (Go.new ndx).trans (Go.new nx1)
    have hg0 : gv = .non ∨ ∃ (T : Addr) (gs : List Str), gv = .ref T ∧ Tp (upd (upd H dx (.own x)) x (.ins (cO K) dx [])) T (gs.map V.str) ∧ gs.Sublist d.ns ∧ brokenFrom (gs.map PyData.str) 0 d.cd = [] := by
      rcases hg with ⟨_, h⟩ | ⟨T, gs, _, h2, h3, h4⟩
      · exact .inl h
      · exact .inr ⟨T, gs, h2, h3.kt g0.kt, h4⟩
    refine ⟨x, rr, S, gv, d, rfl, ⟨dx, upd_same⟩, hru.kt g0.kt, hS.kt g0.kt, gd, ed, eu, hg0, fun f H1 g1 eg eo hR => ⟨rfl, ?_⟩⟩
    have g01 := go_new nx (g0.toR.trans g1)
    obtain ⟨h1, rr1, S1, D1, U1, y1, y2, y3, y4, hru1, hS1, hD1, hU1⟩ := hR
    obtain ⟨dx1, i1⟩ := id h1
    refine r_gN ?_
    repeat walk_at "rs"
    refine ⟨.ref x, rfl, x, dx1, _, rfl, i1, rfl, fun q1 nq => ⟨.ref ca, rfl, ca, cs.map V.str, rfl, .inr (.of ((Go.new (G := G) (L := L) nq).lst (g01.lst hca))), upd_same, [.ref x], cs.map V.str, rfl, rfl, ?_, fun p2 n2 => ?_⟩⟩
    · rw [List.length_map, sizeLine_eq]
      omega
    generalize hH : upd (upd H1 q1 _) p2 _ = H2
    obtain ⟨k2, i2⟩ := new_facts hH n2
    clear hH
    have g12 : Go G L H1 H2 := (Go.new nq).trans (Go.same k2)
    have R2 : RolAt K H2 x f d := ⟨h1.go g12, rr1, S1, D1, U1, y1, y2, y3, y4, hru1.kt g12.kt, hS1.kt g12.kt, hD1.kt g12.kt, hU1.kt g12.kt⟩
    refine ⟨x, p2, f, d, cs, rfl, R2, gd, .inl i2, hok, hl, by rw [ed]; decide, fun T hT cls dd H' g' hTo => qE T hT cls dd H' ((g01.trans g12).trans g') hTo, fun hn S' f' H3 g3 eg' eo' _ _ _ _ hR3 => ?_⟩
    repeat walk_at "rs"
    exact q hn x f' H3 (.of nx) (go_new nx ((g01.trans g12).toR.trans g3)) (eg'.trans eg) (eo'.trans eo) hR3
end
local macro_rules | `(tactic| walk_at "rl") => `(tactic| first | (with_reducible refine r_tM1 ?_) | (with_reducible refine r_un ?_) | (with_reducible refine r_u1 ?_) | walk_at "rd")
section
variable {P : Program} {w : World} {K : PySem.W.Frag} {mg : Str → Option Value} {base : Heap} {G : List Addr} {L : List (Addr × Str)}
theorem lamAt_up {X : Cx} {ps : Arguments} {b : Expr} {sc : Scope} {df : Option Int} {H : Hp} {f c' p : Addr} {xs ys : List V} (h : LamAt X ps b sc df H f c') (e : H p = some (.lst xs)) : LamAt X ps b sc df (upd H p (.lst ys)) f c' :=
  h.kept fun d o n1 n2 e1 => (upd_ne (fun q => by rw [q, e] at e1; exact n2 _ (Option.some.inj e1).symm)).trans e1
theorem r_mRO {H : Hp} {x : Addr} {f : Ro} {m : Str} {sp : Sp} {E : XK} {ta : TE} {t : TA} {σ : L2.St} {Q : VK} (h : RoAt K H x f) (hx : ∀ R : VK, R (.ref x) H → ta σ H R) (q : t σ H fun vs H2 => sp (.ref x :: vs) H2 Q E) (hn : roN.contains m = false := by decide +kernel) : tMethR (cO K) m sp E ta t σ H Q := by
  obtain ⟨dx, h1⟩ := h
  refine hx _ ⟨x, dx, _, rfl, h1, ?_, q⟩
  simp only [roN, List.contains_cons, List.contains_nil, Bool.or_false, Bool.or_eq_false_iff] at hn
  obtain ⟨a1, a2, a3, a4, a5, a6, a7, a8, a9⟩ := hn
  unfold rof
  rw [List.lookup_cons, a1, List.lookup_cons, a2, List.lookup_cons, a3, List.lookup_cons, a4, List.lookup_cons, a5, List.lookup_cons, a6, List.lookup_cons, a7, List.lookup_cons, a8, List.lookup_cons, a9]
  rfl
end
/-- a step -/
local macro_rules | `(tactic| walk_at "rl") => `(tactic| first | (with_reducible refine r_tM1 ?_) | (with_reducible refine r_un ?_) | (with_reducible refine r_u1 ?_) | (with_reducible refine r_par ?_) | walk_at "rd")
section
variable {P : Program} {w : World} {K : PySem.W.Frag} {mg : Str → Option Value} {base : Heap} {G : List Addr} {L : List (Addr × Str)}
def errIlZ (j : Nat) : PyData := .tuple [.str "error", .str "IllegalState", .int (j : Nat)]
def errIvZ (i : Nat) : PyData := .tuple [.str "error", .str "InvalidState", .int (i : Nat)]
theorem told_ilZ {cls : Value} {dd : Option Addr} {H : Hp} {j : Nat} (hT : Told K cls dd H (illD j)) : Told5 K cls dd H (errIlZ j) := by
  have go : ∀ a, H a = some (.xd [("index", .int (j : Nat))]) → Told5 K (.ref (He.ga K "IllegalState")) (some a) H (errIlZ j) := fun a h =>
    ⟨"IllegalState", [.int (j : Nat)], by decide, rfl, rfl, (by show ∃ dd' kv v e es, _; exact ⟨a, _, _, _, _, rfl, rfl, h, rfl, .int _, rfl⟩), .inr ⟨a, _, rfl, h⟩⟩
  rcases hT with ⟨a, p, i, e1, e2, e3, e4⟩ | ⟨a, i, e1, e2, e3, e4⟩ | ⟨e1, e2, e4⟩ | ⟨e1, e2, e4⟩ | ⟨e1, e2, e4⟩ | ⟨a, i, e1, e2, e3, e4⟩ | ⟨a, i, j2, e1, e2, e3, e4⟩ | ⟨a, v, e, e1, e2, e3, _, e4⟩ | ⟨a, v, e, e1, e2, e3, _, e4⟩
  all_goals first | (unfold illD at e4; simp at e4; done) | (exact absurd (PyData.str.inj (List.cons.inj (PyData.tuple.inj e4)).1) (by decide +kernel)) | skip
  unfold illD at e4
  simp only [PyData.tuple.injEq, List.cons.injEq, PyData.str.injEq, PyData.int.injEq, and_true, true_and] at e4
  subst e1 e2 e4
  exact go a e3
theorem told_invZ {H : Hp} {cls : Value} {dd : Option Addr} {i : Nat} (hT : Told K cls dd H (invD i)) : Told5 K cls dd H (.tuple [.str "error", .str "InvalidState", .int (i : Nat)]) := by
  rcases hT with ⟨a, p, i, e1, e2, e3, e4⟩ | ⟨a, i', e1, e2, e3, e4⟩ | ⟨e1, e2, e4⟩ | ⟨e1, e2, e4⟩ | ⟨e1, e2, e4⟩ | ⟨a, i, e1, e2, e3, e4⟩ | ⟨a, i, j, e1, e2, e3, e4⟩ | ⟨a, v, e, e1, e2, e3, e4⟩ | ⟨a, v, e, e1, e2, e3, e4⟩
  · exact absurd (PyData.str.inj (List.cons.inj (PyData.tuple.inj e4)).1) (by decide +kernel)
  · have z := PyData.int.inj (List.cons.inj (List.cons.inj (PyData.tuple.inj e4)).2).1
    subst z e1 e2
    exact ⟨"InvalidState", [.int (i : Nat)], by decide, rfl, rfl, (by show ∃ dd' kv v e es, _; exact ⟨a, _, _, _, _, rfl, rfl, e3, rfl, .int _, rfl⟩), .inr ⟨a, _, rfl, e3⟩⟩
  · exact absurd (PyData.str.inj (List.cons.inj (PyData.tuple.inj e4)).1) (by decide +kernel)
  · exact absurd (PyData.str.inj (List.cons.inj (PyData.tuple.inj e4)).1) (by decide +kernel)
  · exact absurd (PyData.str.inj (List.cons.inj (PyData.tuple.inj e4)).1) (by decide +kernel)
  · exact absurd (PyData.str.inj (List.cons.inj (PyData.tuple.inj e4)).1) (by decide +kernel)
  · exact absurd (PyData.str.inj (List.cons.inj (PyData.tuple.inj e4)).1) (by decide +kernel)
  · exact absurd (PyData.str.inj (List.cons.inj (PyData.tuple.inj e4.2)).1) (by decide +kernel)
  · exact absurd (PyData.str.inj (List.cons.inj (PyData.tuple.inj e4.2)).1) (by decide +kernel)
theorem chk_ill {ns : List Str} {cd : List PyData} {s : List Str} {j : Nat} {r : List Nat} (hs : s.Sublist ns) (h : brokenFrom (s.map PyData.str) 0 cd = j :: r) : chkD ns cd (.tuple (s.map PyData.str)) = some (illD j) := by
  unfold chkD
  rw [st_none hs]
  simp only
  rw [h]
theorem chk_ok {ns : List Str} {cd : List PyData} {s : List Str} (hs : s.Sublist ns) (h : brokenFrom (s.map PyData.str) 0 cd = []) : chkD ns cd (.tuple (s.map PyData.str)) = none := by
  unfold chkD
  rw [st_none hs]
  simp only
  rw [h]
theorem chk_two {ns : List Str} {cd : List PyData} {z : Str} (nd : ns.Nodup) (hz : z ∈ ns) : chkD ns cd (.tuple [.str z, .str z]) = some (invD 1) := by
  have e1 : stateBad ns (.tuple (PyData.str z :: [z].map PyData.str)) = some 1 := st_twice nd (List.singleton_sublist.mpr hz)
  have e2 : stateBad ns (.tuple [.str z, .str z]) = some 1 := e1
  unfold chkD
  rw [e2]
/-- Rollout(rules, state, goal=goal), refused -/
theorem pe_mkKE {X : Cx} {E : XK} {j : Nat} {e1 e2 e3 : Expr} {p pos kp : Pos} {t tk : TA} (M : MkOE X.prog X.w X.K X.mg X.base G L) (hr : Room j X.A) (hx : Passes (L2.CX X.prog X.w) X E) (ha : PA X [e1, e2] t) (hkw : PK X [⟨some "goal", e3, kp⟩] tk) (hk : 8 ≤ j := by decide) (hg : Gl X "Rollout" := by rfl)
    (hall : (backToKw pos (keywordEach [⟨some "goal", e3, kp⟩] X.env)).all (·.1.isSome) = true := by rfl) (hks : (backToKw pos (keywordEach [⟨some "goal", e3, kp⟩] X.env)).filterMap (·.1) = (["goal"] : List Str) := by rfl)
    (he : starEach [e1, e2] X.env = (false, eval e1 X.env) :: starEach [e2] X.env := by rfl) (hpl : ((backTo pos (starEach [e1, e2] X.env)).any (·.1) || (backToKw pos (keywordEach [⟨some "goal", e3, kp⟩] X.env)).any (·.1.isNone)) = false := by rfl) :
    PE X (.Call (.Name "Rollout" p) [e1, e2] [⟨some "goal", e3, kp⟩] pos) (tMakeK (cO X.K) 2 1 (spOInitE X.K G L) (fun vs zs => vs ++ zs) E t tk) := by
  obtain ⟨f, fd, h1, F, _, g, kb⟩ := M.ex
  exact pe_makeK h1 F (hr.mono hk) hg M.c.g kb hx ha hkw hall hks (by decide) he hpl
/-- Rollout(rules, state), refused -/
theorem pe_mkE0 {X : Cx} {E : XK} {j : Nat} {e : Expr} {es : List Expr} {p pos : Pos} {t : TA} (M : MkOE X.prog X.w X.K X.mg X.base G L) (hr : Room j X.A) (hx : Passes (L2.CX X.prog X.w) X E) (ha : PA X (e :: es) t) (hk : 8 ≤ j := by decide) (hg : Gl X "Rollout" := by rfl)
    (he : starEach (e :: es) X.env = (false, eval e X.env) :: starEach es X.env := by rfl) (hpl : (backTo pos (starEach es X.env)).any (·.1) = false := by rfl) :
    PE X (.Call (.Name "Rollout" p) (e :: es) [] pos) (tMake (cO X.K) (spOInitE X.K G L) [.non] E t) := by
  obtain ⟨f, fd, h1, F, b, _⟩ := M.ex
  exact pe_make h1 F (hr.mono hk) hg M.c.g b (.cons rfl .nil) hx ha (by decide) he hpl
/-- Rollout.resumed -/
structure FcS (P : Program) (w : World) (K : PySem.W.Frag) (mg : Str → Option Value) (base : Heap) (sp : Sp) : Prop where
  g : mg "Rollout" = some (.ref (cO K))
  ex : ∃ (mc : Value) (p g : Addr) (fd : FuncData), ClX.CRead K (cO K) mc ∧ ClX.CMet K (cO K) mc "resumed" p g ∧ FnOk P w K mg base (L2.CX P w) 14 g fd ["cls", "rules", "state", "changes", "goal"] sp ∧ Binds K fd ["cls", "rules", "state", "changes", "goal"] [Value.none] ∧ ∃ gB, KBn K fd ["cls", "rules", "state", "changes", "goal"] 4 ["goal"] gB (fun vs zs => vs ++ zs)
theorem pe_resS {X : Cx} {j : Nat} {sp : Sp} {E : XK} {e : Expr} {es : List Expr} {p1 apos pos : Pos} {t : TA} {pl : Sem Bool} (C : FcS X.prog X.w X.K X.mg X.base sp) (hr : Room j X.A) (hx : Passes (L2.CX X.prog X.w) X E) (ha : PA X (e :: es) t) (hk : 14 ≤ j := by decide) (hg : Gl X "Rollout" := by rfl)
    (hc : eval (.Call (.Attribute (.Name "Rollout" p1) "resumed" apos) (e :: es) [] pos) X.env = (do
      let ov ← eval (.Name "Rollout" p1) X.env
      standAt apos.atName
      let (f, first) ← holding [ov] (getMethod ov "resumed" pl)
      callWith pos f first (backTo pos (starEach (e :: es) X.env)) (backToKw pos (keywordEach [] X.env))) := by rfl)
    (hs : starEach (e :: es) X.env = (false, eval e X.env) :: starEach es X.env := by rfl) (hpl : (backTo pos (starEach es X.env)).any (·.1) = false := by rfl) :
    PE X (.Call (.Attribute (.Name "Rollout" p1) "resumed" apos) (e :: es) [] pos) (ClX.tCMeth (cO X.K) (fun vs H Q E => sp (vs ++ [.non]) H Q E) E (tC (.ref (cO X.K))) t) := by
  obtain ⟨mc, p, g, fd, rd, cm, F, b, _⟩ := C.ex
  exact ClX.pe_cmeth (pe_glob (v := .ref (cO X.K)) hg C.g rfl) rd cm (FnOk.raw F b (.cons rfl .nil)) (hr.mono hk) hx ha hs hpl hc
theorem pe_resK {X : Cx} {j : Nat} {sp : Sp} {E : XK} {e1 e2 e3 e4 : Expr} {p1 apos pos kp : Pos} {t tk : TA} {pl : Sem Bool} (C : FcS X.prog X.w X.K X.mg X.base sp) (hr : Room j X.A) (hx : Passes (L2.CX X.prog X.w) X E) (ha : PA X [e1, e2, e3] t) (hkw : PK X [⟨some "goal", e4, kp⟩] tk) (hk : 14 ≤ j := by decide) (hg : Gl X "Rollout" := by rfl)
    (hall : (backToKw pos (keywordEach [⟨some "goal", e4, kp⟩] X.env)).all (·.1.isSome) = true := by rfl) (hks : (backToKw pos (keywordEach [⟨some "goal", e4, kp⟩] X.env)).filterMap (·.1) = (["goal"] : List Str) := by rfl)
    (hst : starEach [e1, e2, e3] X.env = (false, eval e1 X.env) :: starEach [e2, e3] X.env := by rfl) (hpl : ((backTo pos (starEach [e1, e2, e3] X.env)).any (·.1) || (backToKw pos (keywordEach [⟨some "goal", e4, kp⟩] X.env)).any (·.1.isNone)) = false := by rfl)
    (ht : eval (.Call (.Attribute (.Name "Rollout" p1) "resumed" apos) [e1, e2, e3] [⟨some "goal", e4, kp⟩] pos) X.env = (do
      let ov ← eval (.Name "Rollout" p1) X.env
      standAt apos.atName
      let (f, first) ← holding [ov] (getMethod ov "resumed" pl)
      callWith pos f first (backTo pos (starEach [e1, e2, e3] X.env)) (backToKw pos (keywordEach [⟨some "goal", e4, kp⟩] X.env))) := by rfl) :
    PE X (.Call (.Attribute (.Name "Rollout" p1) "resumed" apos) [e1, e2, e3] [⟨some "goal", e4, kp⟩] pos) (tCMethK (cO X.K) 3 1 sp (fun vs zs => vs ++ zs) E (tC (.ref (cO X.K))) t tk) := by
  obtain ⟨mc, p, g, fd, rd, cm, F, _, gB, kb⟩ := C.ex
  exact pe_cmethK (pe_glob (v := .ref (cO X.K)) hg C.g rfl) rd cm F kb (hr.mono hk) hx ha hkw hall hks hst hpl ht
section
variable {X : Cx} {A : Around} {outer : List Env} {s : Shared} {H : Hp} {E : XK} {sc : Scope} {fL c' : Addr} {j : Nat} {e : Expr} {es : List Expr} {t tk : TA}
theorem pe_mkKEL {e1 e2 e3 : Expr} {p pos kp : Pos} (M : MkOE X.prog X.w X.K X.mg X.base G L) (hr : Room j (A.deeper (LamX.lamEnv X sc s.heap.objs.size fL c'))) (ha : PA (LamX.lamCx X A outer s H E sc fL c') [e1, e2] t) (hkw : PK (LamX.lamCx X A outer s H E sc fL c') [⟨some "goal", e3, kp⟩] tk) (hk : 8 ≤ j := by decide) (hg : Gl (LamX.lamCx X A outer s H E sc fL c') "Rollout" := by rfl)
    (hall : (backToKw pos (keywordEach [⟨some "goal", e3, kp⟩] (LamX.lamCx X A outer s H E sc fL c').env)).all (·.1.isSome) = true := by rfl) (hks : (backToKw pos (keywordEach [⟨some "goal", e3, kp⟩] (LamX.lamCx X A outer s H E sc fL c').env)).filterMap (·.1) = (["goal"] : List Str) := by rfl)
    (he : starEach [e1, e2] (LamX.lamCx X A outer s H E sc fL c').env = (false, eval e1 (LamX.lamCx X A outer s H E sc fL c').env) :: starEach [e2] (LamX.lamCx X A outer s H E sc fL c').env := by rfl) (hpl : ((backTo pos (starEach [e1, e2] (LamX.lamCx X A outer s H E sc fL c').env)).any (·.1) || (backToKw pos (keywordEach [⟨some "goal", e3, kp⟩] (LamX.lamCx X A outer s H E sc fL c').env)).any (·.1.isNone)) = false := by rfl) :
    PE (LamX.lamCx X A outer s H E sc fL c') (.Call (.Name "Rollout" p) [e1, e2] [⟨some "goal", e3, kp⟩] pos) (tMakeK (cO X.K) 2 1 (spOInitE X.K G L) (fun vs zs => vs ++ zs) E t tk) :=
  pe_mkKE (X := (LamX.lamCx X A outer s H E sc fL c')) M hr (passes_call (takes_of rfl rfl rfl rfl) fun _ _ _ _ z => z) ha hkw hk hg hall hks he hpl
theorem pe_mkE0L {p pos : Pos} (M : MkOE X.prog X.w X.K X.mg X.base G L) (hr : Room j (A.deeper (LamX.lamEnv X sc s.heap.objs.size fL c'))) (ha : PA (LamX.lamCx X A outer s H E sc fL c') (e :: es) t) (hk : 8 ≤ j := by decide) (hg : Gl (LamX.lamCx X A outer s H E sc fL c') "Rollout" := by rfl)
    (he : starEach (e :: es) (LamX.lamCx X A outer s H E sc fL c').env = (false, eval e (LamX.lamCx X A outer s H E sc fL c').env) :: starEach es (LamX.lamCx X A outer s H E sc fL c').env := by rfl) (hpl : (backTo pos (starEach es (LamX.lamCx X A outer s H E sc fL c').env)).any (·.1) = false := by rfl) :
    PE (LamX.lamCx X A outer s H E sc fL c') (.Call (.Name "Rollout" p) (e :: es) [] pos) (tMake (cO X.K) (spOInitE X.K G L) [.non] E t) :=
  pe_mkE0 (X := (LamX.lamCx X A outer s H E sc fL c')) M hr (passes_call (takes_of rfl rfl rfl rfl) fun _ _ _ _ z => z) ha hk hg he hpl
theorem pe_resSL {sp : Sp} {p1 apos pos : Pos} {pl : Sem Bool} (C : FcS X.prog X.w X.K X.mg X.base sp) (hr : Room j (A.deeper (LamX.lamEnv X sc s.heap.objs.size fL c'))) (ha : PA (LamX.lamCx X A outer s H E sc fL c') (e :: es) t) (hk : 14 ≤ j := by decide) (hg : Gl (LamX.lamCx X A outer s H E sc fL c') "Rollout" := by rfl)
    (hc : eval (.Call (.Attribute (.Name "Rollout" p1) "resumed" apos) (e :: es) [] pos) (LamX.lamCx X A outer s H E sc fL c').env = (do
      let ov ← eval (.Name "Rollout" p1) (LamX.lamCx X A outer s H E sc fL c').env
      standAt apos.atName
      let (f, first) ← holding [ov] (getMethod ov "resumed" pl)
      callWith pos f first (backTo pos (starEach (e :: es) (LamX.lamCx X A outer s H E sc fL c').env)) (backToKw pos (keywordEach [] (LamX.lamCx X A outer s H E sc fL c').env))) := by rfl)
    (hs : starEach (e :: es) (LamX.lamCx X A outer s H E sc fL c').env = (false, eval e (LamX.lamCx X A outer s H E sc fL c').env) :: starEach es (LamX.lamCx X A outer s H E sc fL c').env := by rfl) (hpl : (backTo pos (starEach es (LamX.lamCx X A outer s H E sc fL c').env)).any (·.1) = false := by rfl) :
    PE (LamX.lamCx X A outer s H E sc fL c') (.Call (.Attribute (.Name "Rollout" p1) "resumed" apos) (e :: es) [] pos) (ClX.tCMeth (cO X.K) (fun vs H Q E => sp (vs ++ [.non]) H Q E) E (tC (.ref (cO X.K))) t) :=
  pe_resS (X := (LamX.lamCx X A outer s H E sc fL c')) C hr (passes_call (takes_of rfl rfl rfl rfl) fun _ _ _ _ z => z) ha hk hg hc hs hpl
end
theorem r_ninStsZ {H : Hp} {Q : VK} {S l : Addr} {s : List Str} {lx : List V} {LD : List (List Str)} (hS : Tp H S (s.map V.str)) (hl : H l = some (.lst lx)) (hlx : StsAt H lx LD) (ok : ∀ z ∈ s, PyData.strOk z = true) (okL : ∀ t ∈ LD, ∀ z ∈ t, PyData.strOk z = true) (q : Q (.bl (!decide (s ∈ LD))) H) : rNotInD K (.ref S) (.ref l) H Q := by
  refine ⟨.tuple (s.map PyData.str), LD.map fun s => .tuple (s.map PyData.str), .tup hS.seq (dps_strs _), .lst (.of hl) hlx.dps, shaped_of (n := 2) (lv_strs ok), shaped_of (n := 3) (lv_lst fun d hd => ?_), ?_⟩
  · obtain ⟨t, ht, rfl⟩ := List.mem_map.mp hd
    exact lv_strs (okL t ht)
  · rw [any_sts]
    exact q
end
/-- a step -/
local macro_rules | `(tactic| walk_at "rl") => `(tactic| first | (with_reducible refine r_tM1 ?_) | (with_reducible refine r_un ?_) | (with_reducible refine r_u1 ?_) | (with_reducible refine r_par ?_) | walk_at "rd")
section
variable {P : Program} {w : World} {K : PySem.W.Frag} {mg : Str → Option Value} {base : Heap} {G : List Addr} {L : List (Addr × Str)}
abbrev nEr : List Str := ["_law_d", "_law_rules_here", "_law_legal_here", "_law_start", "_law_states", "_law_bad", "_law_due", "_law_work", "_law_last", "_law_state", "_law_one"]
theorem scEr : FnScope nEr ["_law_d", "_law_rules_here", "_law_legal_here", "_law_start"] (defScope sErrs52) := C8.fnScope_by (by decide +kernel)
theorem ne_rowZ {H : Hp} {ρ : Rid} {p : Addr} (hR : Row K H ρ) (hp : H p = none) : p ≠ ρ.r := by
  obtain ⟨zs, z⟩ := hR.lst
  exact (ne_of_none z hp).symm
def spErrs (K : PySem.W.Frag) (G : List Addr) (L : List (Addr × Str)) : Sp := fun vs H Q _ => ∃ (ρ : Rid) (x l S : Addr) (ns : List Str) (cd : List PyData) (st : List Str), vs = [.ref ρ.r, .ref x, .ref l, .ref S] ∧ Row K H ρ ∧ TBS G L H ∧ l ≠ ρ.r ∧ Drw K H x l S ns cd st ∧
  ∀ H', GoR G L ρ.r H H' → Row K H' ρ → Q (.bl true) H'
theorem r_pickZ {H : Hp} {Q : VK} {E : XK} {ρ : Rid} {p : Addr} {xs : List V} (hR : Row K H ρ) (e : H p = some (.lst xs)) (np : p ≠ ρ.r) (h0 : 0 < xs.length) (hl : xs.length < 1000000) (q : ∀ (i : Nat) v H', xs[i]? = some v → GoR G L ρ.r H H' → Row K H' ρ → Q v H') : spPick K G L ([.ref ρ.r, .ref p] ++ []) H Q E :=
  ⟨ρ, p, xs, rfl, hR, h0, hl, fun H' h => by
    rcases h with rfl | h
    · exact .inl (.of e)
    · exact .inl (.of (h.lst np e)), fun i v H' ev g hR' => q i v H' ev g hR'⟩
/-- an if of which both outcomes go on -/
theorem r_ifJZ {b : Bool} {ta tb : TS} {D : Ends} {σ : L2.St} {H : Hp} (Post : L2.St → Hp → Prop) (h1 : b = true → ∀ D' : Ends, (∀ σ' H', Post σ' H' → D'.nx σ' H') → ta D' σ H) (h2 : b = false → ∀ D' : Ends, (∀ σ' H', Post σ' H' → D'.nx σ' H') → tb D' σ H) (q : ∀ σ' H', Post σ' H' → D.nx σ' H') : (if b = true then ta D σ H else tb D σ H) := by
  cases b with
  | true => exact h1 rfl D q
  | false => exact h2 rfl D q
theorem r_neStsZ {H : Hp} {Q : VK} {l p : Addr} {lx : List V} {LD : List (List Str)} (hl : H l = some (.lst lx)) (hlx : StsAt H lx LD) (hp : H p = some (.lst [])) (okL : ∀ t ∈ LD, ∀ z ∈ t, PyData.strOk z = true) (q : Q (.bl (!decide (LD = []))) H) : rNeD K (.ref l) (.ref p) H Q := by
  refine r_neD (d := .list (LD.map fun s => .tuple (s.map PyData.str))) (e := .list []) (.lst (.of hl) hlx.dps) (.lst (.of hp) .nil) (lv_lst fun d hd => ?_) (by decide) ?_
  · obtain ⟨t, ht, rfl⟩ := List.mem_map.mp hd
    exact lv_strs (okL t ht)
  · rw [eqv_nilL]
    have e : decide ((LD.map fun s => PyData.tuple (s.map PyData.str)) = []) = decide (LD = []) := decide_eq_decide.mpr (by simp)
    rw [e]
    exact q
theorem lv_rep {n : Nat} {d : PyData} (h : lv 7 d = true) : lv 8 (.list (List.replicate n d)) = true := lv_lst fun e he => by rw [List.eq_of_mem_replicate he]; exact h
theorem lv7_il (j : Nat) : lv 7 (errIlZ j) = true := lv_tup fun x hx => by
  rcases List.mem_cons.mp hx with rfl | hx
  · decide +kernel
  rcases List.mem_cons.mp hx with rfl | hx
  · decide +kernel
  rw [List.mem_singleton.mp hx]
  rfl
set_option maxHeartbeats 4000000 in
theorem ok_errs {f c Pn : Addr} {fd : FuncData} (F : Fun K "_law_errors" "_law_errors" sErrs52 f fd) (hc : fd.code = .ref c) (TB : LamX.TabB base mg c Pn) (hL : (Pn, lamQ "_law_errors") ∈ L) (AP : Apart G L) (PK : Fd CX0 P w K mg base "_law_pick" 2 (spPick K G L)) (AL : Fd CX0 P w K mg base "_law_all" 1 (spAll5 K G L)) (BK : Fd CX0 P w K mg base "_law_broken" 3 (spBroken5 K G L)) (FN : Fp P w K mg base "names" "_names")
    (MOE : MkOE P w K mg base G L) (RSE : FcS P w K mg base (spResumedE K G L)) (RSG : FcS P w K mg base (spResumedG K G L)) (TO : TzD K mg) :
    FnOk P w K mg base CX0 20 f fd ["_law_d", "_law_rules_here", "_law_legal_here", "_law_start"] (spErrs K G L) := by
  obtain ⟨oc, od, kV, doc, pm, an, cdv, ct, osl, efd, lk, hcd⟩ := F.ex
  subst efd
  have ec : cdv = .ref c := hc
  subst ec
  refine fn_of lk hcd scEr (fun vs H Q E h => ?_) (fun A outer s H vs Q E hr h => ?_)
  · obtain ⟨ρ, x, l, S, ns, cd, st, e, _⟩ := h
    rw [e]
    rfl
  · obtain ⟨ρ, x, l, S, ns, cd, st, e, hR, ht, nlr, dr, q⟩ := h
    subst e
    refine ⟨_, PSs.nox (pss_cons (ps_setLc (i := 4) (own := [("_law_state", 9)]) (g := gName 9) rfl scEr.nd rfl rfl (sw_true rfl rfl rfl rfl) (pi_list (pe_fd (E := E0) AL hr pass0 (pa_cons (pe_fp FN hr (pv 1)) pa_nil)))
            (blkOk_by (own := [("_law_state", 9)]) (N := nEr) (sc := defScope sErrs52) (by decide +kernel)) (fun _ _ _ _ _ => pg_name (i := 9) scEr.nd rfl (.inl rfl)) (fun _ _ _ _ _ => pts_one (pt_cmpR (r := rNotInD K) (op_notInD (u65 hr)) (pv 9) (pv 2) rfl))
            (fun _ _ _ _ _ => (pv 9)))
(pss_cons (ps_if (pt_cmpR (op_neD (u64 hr)) (pv 4) (pe_lst pa_nil) rfl)
  (pss_cons (ps_set (i := 5) scEr.nd rfl (Or.inr rfl) (pe_fd (E := E0) PK hr pass0 (pa_cons (pv 0) (pa_cons (pv 4) pa_nil))))
  (pss_cons (ps_set (i := 6) scEr.nd rfl (Or.inl rfl) (pe_tup (pa_cons pe_str (pa_cons pe_str (pa_cons (pe_fd (E := E0) BK hr pass0 (pa_cons (pv 1) (pa_cons (pv 5) pa_nil))) pa_nil)))))
  (pss_cons (ps_set (i := 7) scEr.nd rfl (Or.inl rfl) (pe_lst (pa_cons (pe_lamW0 TB rfl (lamS1_by (N := nEr) (sc0 := defScope sErrs52) (by decide +kernel))) (pa_cons (pe_lamW1 TB rfl (lamS1_by (N := nEr) (sc0 := defScope sErrs52) (by decide +kernel)) pe_int) pa_nil))))
  (pss_cons (ps_expr (pe_bm PySem.F.plainAttrs_list PySem.F.slot_list_append PySem.F.type_list_append mt_append (pv 7) (pa_cons (pe_lamW1 TB rfl (lamS1_by (N := nEr) (sc0 := defScope sErrs52) (by decide +kernel)) pe_int) pa_nil)))
  (pss_one (ps_if (pt_cmpR (op_neD (u64 hr)) (pe_lcV (own := [("_law_one", 10)]) (g := gName 10) rfl scEr.nd (pi_list (pv 7))
            (blkOk_by (own := [("_law_one", 10)]) (N := nEr) (sc := defScope sErrs52) (by decide +kernel)) (fun _ _ _ _ _ => pg_name (i := 10) scEr.nd rfl (.inl rfl))
            (fun _ _ _ _ _ _ _ I0 off => (pe_toldVB (G := G) (L := L) (k := 16) I0 off TO hr (pv 10)))) (pe_op op_rep (pe_lst (pa_cons (pv 6) pa_nil)) pe_int) rfl)
    (pss_one (ps_ret pe_bl)) pss_nil)))))) pss_nil)
(pss_cons (ps_set (i := 8) scEr.nd rfl (Or.inr rfl) (pe_ix (r := rIxT K) ix_tup (pe_fp FN hr (pv 1)) (pe_un un_neg pe_int) (fun _ _ => rfl)))
(pss_cons (ps_set (i := 7) scEr.nd rfl (Or.inl rfl) (pe_lst (pa_cons (pe_lamW1 TB rfl (lamS1_by (N := nEr) (sc0 := defScope sErrs52) (by decide +kernel)) pe_int) (pa_cons (pe_lamW1 TB rfl (lamS1_by (N := nEr) (sc0 := defScope sErrs52) (by decide +kernel)) pe_int) pa_nil))))
(pss_cons (ps_if (pt_cmpR (op_neD (u64 hr)) (pe_lcV (own := [("_law_one", 10)]) (g := gName 10) rfl scEr.nd (pi_list (pv 7))
            (blkOk_by (own := [("_law_one", 10)]) (N := nEr) (sc := defScope sErrs52) (by decide +kernel)) (fun _ _ _ _ _ => pg_name (i := 10) scEr.nd rfl (.inl rfl))
            (fun _ _ _ _ _ _ _ I0 off => (pe_toldVB (G := G) (L := L) (k := 16) I0 off TO hr (pv 10)))) (pe_op op_rep (pe_lst (pa_cons (pe_tup (pa_cons pe_str (pa_cons pe_str (pa_cons pe_int pa_nil)))) pa_nil)) pe_int) rfl)
  (pss_one (ps_ret pe_bl)) pss_nil)
(pss_one (ps_ret (pe_cmpR (op_eqD (u64 hr)) (pe_toldV (G := G) (L := L) (k := 16) TO hr (pe_lamW1 TB rfl (lamS1_by (N := nEr) (sc0 := defScope sErrs52) (by decide +kernel)) pe_int)) (pe_tup (pa_cons pe_str (pa_cons pe_str (pa_cons pe_str pa_nil)))) rfl)))))))), ?_⟩
    have nok := dr.ok.gs.1
    have n10 : ns.length ≤ 10 := Nat.le_trans dr.n8 (by decide)
    have hal := allD_len n10
    have okA : ∀ t ∈ allD ns, ∀ z ∈ t, PyData.strOk z = true := fun t htm z hz => nok z ((allD_sub n10 htm).subset hz)
    have okLg : ∀ t ∈ legalD ns cd, ∀ z ∈ t, PyData.strOk z = true := fun t htm z hz => okA t (List.mem_filter.mp htm).1 z hz
    repeat walk_at "rl"
    refine lcLg (fun a xs H0 => Go G L H H0 ∧ H0 a = some (.lst xs) ∧ StsAt H0 xs (allD ns)) (fun R z => ?_) ?_
    · repeat walk_at "rl"
      refine r_pnames (fun R z => ⟨_, rfl, z⟩) dr.ru fun an han => ?_
      repeat walk_at "rl"
      exact ⟨an, ns, rfl, han.tp, dr.n8, fun l' xs H' _ g hl hs => z l' xs H' ⟨g, hl, hs⟩⟩
    · rintro a xs H0 ⟨g0, ha, hxs⟩
      have hxl := hxs.len
      refine ⟨.of ha, fun D i H' => ∃ vs, Go G L H0 H' ∧ H' D = some (.lst vs) ∧ StsAt H' vs (((allD ns).take i).filter fun s => !decide (s ∈ legalD ns cd)), ?_, ?_, ?_, ?_⟩
      · intro D hD
        exact ⟨[], Go.new hD, upd_same, .nil⟩
      · rintro D i H' hD _ ⟨vs, g, _⟩
        exact .of (g.lst ha)
      · rintro D i y H' hD hy ⟨vs, g, eD, hvs⟩
        obtain ⟨S0, s0, hs0, rfl, hS0⟩ := sts_get (hxs.kt g.kt) hy
        have hsm := List.mem_of_getElem? hs0
        obtain ⟨lx, hlx, hls⟩ := (dr.go (g0.trans g)).lg
        have hvl := hvs.len
        have hfl : (((allD ns).take i).filter fun s => !decide (s ∈ legalD ns cd)).length ≤ (allD ns).length := Nat.le_trans (List.length_filter_le _ _) (by rw [List.length_take]; exact Nat.min_le_right _ _)
        refine r_gN ⟨rfl, ?_⟩
        repeat walk_at "rl"
        refine r_ninStsZ hS0 hlx hls (okA s0 hsm) okLg ?_
        refine ⟨_, rfl, ?_⟩
        have etk : (((allD ns).take (i + 1)).filter fun s => !decide (s ∈ legalD ns cd)) = (((allD ns).take i).filter fun s => !decide (s ∈ legalD ns cd)) ++ (if (!decide (s0 ∈ legalD ns cd)) = true then [s0] else []) := by
          rw [List.take_succ, hs0, List.filter_append]
          congr 1
          show List.filter _ [s0] = _
          rw [List.filter_cons]
          rfl
        rw [etk]
        cases (!decide (s0 ∈ legalD ns cd)) with
        | false =>
          rw [if_neg Bool.false_ne_true, if_neg Bool.false_ne_true, List.append_nil]
          exact ⟨vs, g, eD, hvs⟩
        | true =>
          rw [if_pos rfl, if_pos rfl]
          repeat walk_at "rl"
          have kU := kt_upd (ys := vs ++ [V.ref S0]) eD
          refine ⟨vs, eD, by rw [sizeLine_eq]; omega, vs ++ [.ref S0], g.updNew hD eD, upd_same, ?_⟩
          show Ims _ _ (List.map _ (_ ++ _))
          rw [List.map_append]
          exact (Ims.app hvs (.cons (.tup hS0 (ims_strs s0)) .nil)).kt kU
      · rintro D H1 hD ⟨vs, g1, eD, hvs⟩
        rw [hxl, List.take_length] at hvs
        have gD := g0.trans g1
        have hR1 := hR.go gD
        have ht1 := gD.2 ht
        have dr1 := dr.go gD
        have nDr : D ≠ ρ.r := ne_rowZ (hR.go g0) hD
        have hbad : ∀ s ∈ (allD ns).filter (fun s => !decide (s ∈ legalD ns cd)), s ∈ allD ns ∧ s ∉ legalD ns cd := fun s hs => by
          obtain ⟨h1, h2⟩ := List.mem_filter.mp hs
          exact ⟨h1, by simpa using h2⟩
        have hvl := hvs.len
        have hfl : ((allD ns).filter fun s => !decide (s ∈ legalD ns cd)).length ≤ (allD ns).length := List.length_filter_le _ _
        generalize (allD ns).filter (fun s => !decide (s ∈ legalD ns cd)) = bads at hvs hbad hvl hfl
        clear ha hxs hxl hD
        rw [show L2.start nEr [V.ref ρ.r, V.ref x, V.ref l, V.ref S] = [some (.ref ρ.r), some (.ref x), some (.ref l), some (.ref S), none, none, none, none, none, none, none] from rfl]
        repeat walk_at "rl"
        refine ⟨by show 0 ≤ sizeLine; decide, fun pA nA => ?_⟩
        generalize hH : upd _ pA _ = HA; obtain ⟨kA, eA⟩ := new_facts hH nA; clear hH
        have gA : Go G L H1 HA := Go.same kA
        refine r_neStsZ (gA.lst eD) (hvs.kt gA.kt) eA (fun t htm => okA t (hbad t htm).1) ?_
        repeat walk_at "rl"
        simp only [List.set_cons_zero, List.set_cons_succ]
        refine r_ifJZ (fun σ' H' => ∃ (y4 y5 y6 y7 y8 y9 y10 : Option V), σ' = [some (.ref ρ.r), some (.ref x), some (.ref l), some (.ref S), y4, y5, y6, y7, y8, y9, y10] ∧ GoR G L ρ.r H H' ∧ Row K H' ρ) (fun hne D' z => ?_) (fun _ D' z => ?_) ?_
        · have hne2 : bads ≠ [] := fun e => by rw [e] at hne; cases hne
          have hR2 := hR1.go gA
          have ht2 := gA.2 ht1
          have dr2 := dr1.go gA
          have eD2 := gA.lst eD
          have hvs2 := hvs.kt gA.kt
          have gDA := gD.trans gA
          clear hR1 ht1 dr1 eD hvs gD g0 g1 gA kA eA nA
          repeat walk_at "rl"
          refine r_pickZ hR2 eD2 nDr (by rw [hvl]; exact List.length_pos_iff.mpr hne2) (by omega) fun i0 v H3 ev g3 hR3 => ?_
          obtain ⟨Sb, sb, hsb, rfl, hSb⟩ := sts_get hvs2 ev
          obtain ⟨hsa, hsn⟩ := hbad sb (List.mem_of_getElem? hsb)
          have hsub := allD_sub n10 hsa
          obtain ⟨j, jr, hbr⟩ : ∃ j jr, brokenFrom (sb.map PyData.str) 0 cd = j :: jr := by
            cases e : brokenFrom (sb.map PyData.str) 0 cd with
            | nil =>
              refine absurd ?_ hsn
              unfold legalD
              exact List.mem_filter.mpr ⟨hsa, decide_eq_true e⟩
            | cons j jr => exact ⟨j, jr, rfl⟩
          have k23 := hR2.kt g3
          have hSb3 := hSb.kt k23
          have dr3 := dr2.goR hR2 nlr g3
          have ht3 := g3.2 ht2
          have gH3 : GoR G L ρ.r H H3 := gDA.toR.trans g3
          clear hSb k23 g3 hvs2 eD2 dr2 hR2 ht2 hsb ev gDA hvl hfl hbad hne hne2 hsn
          have okb := okA sb hsa
          have lvb : lv 7 (.tuple (sb.map PyData.str)) = true := lv_strs okb
          have lenb : ∀ sd, PyData.tuple (sb.map PyData.str) = .tuple sd → sd.length ≤ 60 := fun sd e => by
            cases e
            rw [List.length_map]
            have := List.Sublist.length_le hsub
            omega
          have lvs : lv 7 (.tuple (st.map PyData.str)) = true := lv_strs fun y hy => nok y (dr3.sub.subset hy)
          have lens : ∀ sd, PyData.tuple (st.map PyData.str) = .tuple sd → sd.length ≤ 60 := fun sd e => by
            cases e
            rw [List.length_map]
            have := List.Sublist.length_le dr3.sub
            omega
          repeat walk_at "rl"
          refine ⟨x, Sb, ns, cd, sb, rfl, dr3.ru, dr3.cl, by have := dr3.c40; omega, nok, hSb3, okb, fun H4 g4 => ?_⟩
          rw [hbr]
          show _
          repeat walk_at "rl"
          refine ⟨by show 3 ≤ sizeLine; decide, fun pT nT => ?_⟩
          generalize hH : upd _ pT _ = HT; obtain ⟨kT, eT⟩ := new_facts hH nT; clear hH
          have g4T := g4.trans (Go.same (G := G) (L := L) kT)
          have htT := g4T.2 ht3
          repeat walk_at "rl"
          refine r_lamV rfl AP hL htT fun f0 c0 H5 g5 la0 => ?_
          have ht5 := g5.2 htT
          repeat walk_at "rl"
          refine r_lamV rfl AP hL ht5 fun f1 c1 H6 g6 la1 => ?_
          have ht6 := g6.2 ht5
          repeat walk_at "rl"
          refine ⟨by show 2 ≤ sizeLine; decide, fun pI nI => ?_⟩
          generalize hH : upd _ pI _ = HI; obtain ⟨kI, eI⟩ := new_facts hH nI; clear hH
          have gI : Go G L H6 HI := Go.same kI
          have htI := gI.2 ht6
          repeat walk_at "rl"
          refine ⟨.inl ⟨rfl, _, .of eI⟩, ?_⟩
          repeat walk_at "rl"
          refine r_lamV rfl AP hL htI fun f2 c2 H7 g7 la2 => ?_
          repeat walk_at "rl"
          refine r_append (g7.lst eI) (by show 2 ≤ 5000; decide) ?_
          have gU : Go G L H6 (upd H7 pI (.lst ([.ref f0, .ref f1] ++ [.ref f2]))) := (gI.trans g7).updNew nI (g7.lst eI)
          have la2' := lamAt_up (ys := [.ref f0, .ref f1] ++ [.ref f2]) la2 (g7.lst eI)
          have e8 : upd H7 pI (.lst ([.ref f0, .ref f1] ++ [.ref f2])) pI = some (.lst [.ref f0, .ref f1, .ref f2]) := upd_same
          generalize upd H7 pI (.lst ([.ref f0, .ref f1] ++ [.ref f2])) = H8 at gU la2' e8 ⊢
          have la1u := lamAt_go la1 gU
          have la0u := lamAt_go la0 (g6.trans gU)
          have gT8 : Go G L HT H8 := (g5.trans g6).trans gU
          have g38 := g4T.trans gT8
          have dr8 := dr3.go g38
          have hSb8 := hSb3.kt g38.kt
          have eT8 : Tp H8 pT [.str "error", .str "IllegalState", .int (j : Nat)] := Tp.kt (.inl eT) gT8.kt
          clear la0 la1 la2 gU g7 gI g6 g5 eI
          repeat walk_at "rl"
          try simp only [List.set_cons_zero, List.set_cons_succ]
          refine lcL (a := pI) (xs := [.ref f0, .ref f1, .ref f2]) (fun R z => ⟨_, rfl, z⟩) (.of e8) (fun D2 i H' => ∃ zs, Go G L H8 H' ∧ H' D2 = some (.lst zs) ∧ Ims H' zs (List.replicate i (errIlZ j))) ?_ ?_ ?_ ?_
          · intro D2 hD2
            exact ⟨[], Go.new hD2, upd_same, .nil⟩
          · rintro D2 i H' hD2 _ ⟨zs, g, _⟩
            exact .of (g.lst e8)
          · rintro D2 i y H' hD2 hy ⟨zs, g, eD2, hzs⟩
            have hil := (List.getElem?_eq_some_iff.mp hy).1
            have hzl : zs.length = i := by have := hzs.length; rw [List.length_replicate] at this; exact this
            have fin : ∀ v H2, Go G L H' H2 → Im H2 v (errIlZ j) → ∃ acc, H2 D2 = some (.lst acc) ∧ acc.length < sizeLine ∧ ∃ zs', Go G L H8 (upd H2 D2 (.lst (acc ++ [v]))) ∧ upd H2 D2 (.lst (acc ++ [v])) D2 = some (.lst zs') ∧ Ims (upd H2 D2 (.lst (acc ++ [v]))) zs' (List.replicate (i + 1) (errIlZ j)) := fun v H2 g2 him => by
              have e2 := g2.lst eD2
              refine ⟨zs, e2, by rw [sizeLine_eq]; show zs.length < _; have : ([V.ref f0, .ref f1, .ref f2] : List V).length = 3 := rfl; omega, zs ++ [v], (g.trans g2).updNew hD2 e2, upd_same, ?_⟩
              rw [List.replicate_succ']
              exact Ims.kt (kt_upd e2) ((hzs.kt g2.kt).app (.cons him .nil))
            have dr' := dr8.go g
            have hSb' := hSb8.kt g.kt
            refine r_gN ⟨rfl, r_yes ?_⟩
            refine r_giveO ?_
            repeat walk_at "rl"
            match i, hy, fin with
            | 0, hy, fin =>
              obtain rfl := Option.some.inj hy
              refine give_at (lamAt_go la0u g) (lamS1_by (N := nEr) (sc0 := defScope sErrs52) (by decide +kernel)) (fun _ _ _ _ _ _ => rfl) _ (fun A outer s H E f c' hr2 => pe_mkKEL MOE hr2 (pa_cons (pv 1) (pa_cons (pv 5) pa_nil)) (pk_cons (pe_tup (pa_cons pe_str pa_nil)) pk_nil)) ?_
              refine r_tr5 ?_
              refine r_cons (r_var (v := .ref x) rfl (r_cons (r_var (v := .ref Sb) rfl (r_nil (r_cons ?_)))))
              repeat walk_at "rl"
              refine ⟨by show 1 ≤ sizeLine; decide, fun pQ nQ => ?_⟩
              generalize hH : upd _ pQ _ = HQ; obtain ⟨kQ, eQ⟩ := new_facts hH nQ; clear hH
              have gQ : Go G L H' HQ := Go.same kQ
              repeat walk_at "rl"
              refine ⟨rfl, rfl, fun x0 dx nx ndx hne => ?_⟩
              have nx1 : (upd HQ dx (.own x0)) x0 = none := by rw [upd_ne hne.symm]; exact nx
              have g0' : Go G L HQ (upd (upd HQ dx (.own x0)) x0 (.ins (cO K) dx [])) := (Go.new ndx).trans (Go.new nx1)
              have gq := gQ.trans g0'
              exact ⟨x0, x, .ref Sb, .ref pQ, ns, cd, .tuple (sb.map PyData.str), .none, illD j, rfl, dr'.ru.kt gq.kt, dr'.ok, .tup (hSb'.kt gq.kt).seq (dps_strs _), lvb, lenb, .inl (chk_ill hsub hbr), fun cls dd H2 g2 hT => ⟨_, told_ilZ hT, fun v H3 g3 him => fin v H3 ((gq.trans g2).trans g3) him⟩⟩
            | 1, hy, fin =>
              obtain rfl := Option.some.inj hy
              refine give_at (lamAt_go la1u g) (lamS1_by (N := nEr) (sc0 := defScope sErrs52) (by decide +kernel)) (lamBind1 "_law_a" rfl fun _ _ _ _ _ _ _ _ => ⟨_, rfl, rfl⟩) _ (fun A outer s H E f c' hr2 => pe_mkKEL MOE hr2 (pa_cons (pv 1) (pa_cons (pv 3) pa_nil)) (pk_cons (pv 5) pk_nil)) ?_
              refine r_tr5 ?_
              refine r_cons (r_var (v := .ref x) rfl (r_cons (r_var (v := .ref S) rfl (r_nil (r_cons (r_var (v := .ref Sb) rfl (r_nil ?_)))))))
              refine ⟨rfl, rfl, fun x0 dx nx ndx hne => ?_⟩
              have nx1 : (upd H' dx (.own x0)) x0 = none := by rw [upd_ne hne.symm]; exact nx
              have g0' : Go G L H' (upd (upd H' dx (.own x0)) x0 (.ins (cO K) dx [])) := (Go.new ndx).trans (Go.new nx1)
              exact ⟨x0, x, .ref S, .ref Sb, ns, cd, .tuple (st.map PyData.str), .tuple (sb.map PyData.str), illD j, rfl, dr'.ru.kt g0'.kt, dr'.ok, .tup (dr'.hs.kt g0'.kt).seq (dps_strs _), lvs, lens, .inr ⟨chk_ok dr'.sub dr'.leg, fun e => (by cases e), .tup (hSb'.kt g0'.kt).seq (dps_strs _), lvb, lenb, chk_ill hsub hbr⟩, fun cls dd H2 g2 hT => ⟨_, told_ilZ hT, fun v H3 g3 him => fin v H3 ((g0'.trans g2).trans g3) him⟩⟩
            | 2, hy, fin =>
              obtain rfl := Option.some.inj hy
              refine give_at (lamAt_go la2' g) (lamS1_by (N := nEr) (sc0 := defScope sErrs52) (by decide +kernel)) (lamBind1 "_law_b" rfl fun _ _ _ _ _ _ _ _ => ⟨_, rfl, rfl⟩) _ (fun A outer s H E f c' hr2 => pe_resSL RSE hr2 (pa_cons (pv 1) (pa_cons (pv 5) (pa_cons (pe_lst pa_nil) pa_nil)))) ?_
              refine r_tr5 ?_
              refine r_c ⟨rfl, ?_⟩
              repeat walk_at "rl"
              refine ⟨by show 0 ≤ sizeLine; decide, fun pQ nQ => ?_⟩
              generalize hH : upd _ pQ _ = HQ; obtain ⟨kQ, eQ⟩ := new_facts hH nQ; clear hH
              have gQ : Go G L H' HQ := Go.same kQ
              repeat walk_at "rl"
              exact ⟨x, .ref Sb, .ref pQ, .non, ns, cd, .tuple (sb.map PyData.str), illD j, rfl, dr'.ru.kt gQ.kt, dr'.ok, .tup (hSb'.kt gQ.kt).seq (dps_strs _), lvb, lenb, chk_ill hsub hbr, fun cls dd H2 g2 hT => ⟨_, told_ilZ hT, fun v H3 g3 him => fin v H3 ((gQ.trans g2).trans g3) him⟩⟩
            | n + 3, hy, fin => simp at hy
          · rintro D2 H9 hD2 ⟨zs, g9, eD2, hzs⟩
            have hzs' : Ims H9 zs (List.replicate 3 (errIlZ j)) := hzs
            repeat walk_at "rl"
            refine ⟨by show 1 ≤ sizeLine; decide, fun pK nK => ?_⟩
            generalize hH : upd _ pK _ = HK; obtain ⟨kK, eK⟩ := new_facts hH nK; clear hH
            repeat walk_at "rl"
            refine r_repL (n := 3) eK (by decide) (by show 1 * 3 ≤ 5000; decide) fun pR HR nR kR eR => ?_
            have g9R : Go G L H9 HR := (Go.same kK).trans (Go.same kR)
            have iT : Im HR (.ref pT) (errIlZ j) := Im.tup ((eT8.kt g9.kt).kt g9R.kt) (.cons (.str _) (.cons (.str _) (.cons (.int _) .nil)))
            refine r_neI (D := .list (List.replicate 3 (errIlZ j))) (.lst (.of (g9R.lst eD2)) (hzs'.kt g9R.kt).dp) (.lst (.of eR) (ims_rep iT 3).dp) (lv_rep (lv7_il j)) ?_
            repeat walk_at "rl"
            have gR : Go G L H3 HR := (g38.trans g9).trans g9R
            exact z _ _ ⟨_, _, _, _, _, _, _, rfl, gH3.trans gR.toR, hR3.go gR⟩
        · repeat walk_at "rl"
          exact z _ _ ⟨_, _, _, _, _, _, _, rfl, (gD.trans gA).toR, hR1.go gA⟩
        · rintro σ H2 ⟨y4, y5, y6, y7, y8, y9, y10, rfl, gH2, hR2⟩
          clear hR1 ht1 dr1 eD hvs gD g0 g1 hvl hfl hbad nDr
          have ht2 := gH2.2 ht
          have dr2 := dr.goR hR nlr gH2
          obtain ⟨i0, zl, ens⟩ : ∃ i zl, ns = i ++ [zl] := by
            rcases List.eq_nil_or_concat ns with e | ⟨i, z, e⟩
            · have h0 := dr.n0
              rw [e] at h0
              exact absurd h0 (by decide)
            · exact ⟨i, z, by rw [e, List.concat_eq_append]⟩
          have hzl : zl ∈ ns := by rw [ens]; exact List.mem_append.mpr (.inr List.mem_cons_self)
          have hzo := nok zl hzl
          have lvz : lv 7 (.tuple [.str zl, .str zl]) = true := lv_strs (n := 6) (ns := [zl, zl]) fun y hy => by
            have hy' : y = zl ∨ y = zl := by simpa using hy
            rcases hy' with rfl | rfl <;> exact hzo
          have lenz : ∀ sd, PyData.tuple [.str zl, .str zl] = .tuple sd → sd.length ≤ 60 := fun sd e => by
            cases e
            show 2 ≤ 60
            decide
          have lvs : lv 7 (.tuple (st.map PyData.str)) = true := lv_strs fun y hy => nok y (dr.sub.subset hy)
          have lens : ∀ sd, PyData.tuple (st.map PyData.str) = .tuple sd → sd.length ≤ 60 := fun sd e => by
            cases e
            rw [List.length_map]
            have := List.Sublist.length_le dr.sub
            omega
          repeat walk_at "rl"
          refine r_pnames (fun R z => ⟨_, rfl, z⟩) dr2.ru fun an han => ?_
          repeat walk_at "rl"
          refine ⟨1, rfl, ?_⟩
          refine r_ixT (i := -1) han.seq (v := .str zl) (by rw [ens, List.map_append]; exact atI_last _ _) ?_
          repeat walk_at "rl"
          simp only [List.set_cons_zero, List.set_cons_succ]
          refine r_lamV rfl AP hL ht2 fun f3 c3 H5 g5 la3 => ?_
          have ht5 := g5.2 ht2
          repeat walk_at "rl"
          refine r_lamV rfl AP hL ht5 fun f4 c4 H6 g6 la4 => ?_
          repeat walk_at "rl"
          refine ⟨by show 2 ≤ sizeLine; decide, fun pI nI => ?_⟩
          generalize hH : upd _ pI _ = HI; obtain ⟨kI, eI⟩ := new_facts hH nI; clear hH
          have gI : Go G L H6 HI := Go.same kI
          have la3u := lamAt_go la3 (g6.trans gI)
          have la4u := lamAt_go la4 gI
          have g2I := (g5.trans g6).trans gI
          have drI := dr2.go g2I
          have htI := g2I.2 ht2
          repeat walk_at "rl"
          try simp only [List.set_cons_zero, List.set_cons_succ]
          refine lcL (a := pI) (xs := [.ref f3, .ref f4]) (fun R z => ⟨_, rfl, z⟩) (.of eI) (fun D2 i H' => ∃ zs, Go G L HI H' ∧ H' D2 = some (.lst zs) ∧ Ims H' zs (List.replicate i (errIvZ 1))) ?_ ?_ ?_ ?_
          · intro D2 hD2
            exact ⟨[], Go.new hD2, upd_same, .nil⟩
          · rintro D2 i H' hD2 _ ⟨zs, g, _⟩
            exact .of (g.lst eI)
          · rintro D2 i y H' hD2 hy ⟨zs, g, eD2, hzs⟩
            have hil := (List.getElem?_eq_some_iff.mp hy).1
            have hzl2 : zs.length = i := by have := hzs.length; rw [List.length_replicate] at this; exact this
            have fin : ∀ v H2, Go G L H' H2 → Im H2 v (errIvZ 1) → ∃ acc, H2 D2 = some (.lst acc) ∧ acc.length < sizeLine ∧ ∃ zs', Go G L HI (upd H2 D2 (.lst (acc ++ [v]))) ∧ upd H2 D2 (.lst (acc ++ [v])) D2 = some (.lst zs') ∧ Ims (upd H2 D2 (.lst (acc ++ [v]))) zs' (List.replicate (i + 1) (errIvZ 1)) := fun v H2 g2 him => by
              have e2 := g2.lst eD2
              refine ⟨zs, e2, by rw [sizeLine_eq]; show zs.length < _; have : ([V.ref f3, .ref f4] : List V).length = 2 := rfl; omega, zs ++ [v], (g.trans g2).updNew hD2 e2, upd_same, ?_⟩
              rw [List.replicate_succ']
              exact Ims.kt (kt_upd e2) ((hzs.kt g2.kt).app (.cons him .nil))
            have dr' := drI.go g
            refine r_gN ⟨rfl, r_yes ?_⟩
            refine r_giveO ?_
            repeat walk_at "rl"
            match i, hy, fin with
            | 0, hy, fin =>
              obtain rfl := Option.some.inj hy
              refine give_at (lamAt_go la3u g) (lamS1_by (N := nEr) (sc0 := defScope sErrs52) (by decide +kernel)) (lamBind1 "_law_c" rfl fun _ _ _ _ _ _ _ _ => ⟨_, rfl, rfl⟩) _ (fun A outer s H E f c' hr2 => pe_mkE0L MOE hr2 (pa_cons (pv 1) (pa_cons (pe_tup (pa_cons (pv 8) (pa_cons (pv 8) pa_nil))) pa_nil))) ?_
              refine r_tr5 ?_
              repeat walk_at "rl"
              refine ⟨by show 2 ≤ sizeLine; decide, fun pQ nQ => ?_⟩
              generalize hH : upd _ pQ _ = HQ; obtain ⟨kQ, eQ⟩ := new_facts hH nQ; clear hH
              have gQ : Go G L H' HQ := Go.same kQ
              repeat walk_at "rl"
              refine fun x0 dx nx ndx hne => ?_
              have nx1 : (upd HQ dx (.own x0)) x0 = none := by rw [upd_ne hne.symm]; exact nx
              have g0' : Go G L HQ (upd (upd HQ dx (.own x0)) x0 (.ins (cO K) dx [])) := (Go.new ndx).trans (Go.new nx1)
              have gq := gQ.trans g0'
              exact ⟨x0, x, .ref pQ, .non, ns, cd, .tuple [.str zl, .str zl], .none, invD 1, rfl, dr'.ru.kt gq.kt, dr'.ok, .tup (.inl (.inl (g0'.1 _ _ eQ (fun _ z => by cases z)))) (.cons (.str _) (.cons (.str _) .nil)), lvz, lenz, .inl (chk_two dr'.nd hzl), fun cls dd H2 g2 hT => ⟨_, told_invZ hT, fun v H3 g3 him => fin v H3 ((gq.trans g2).trans g3) him⟩⟩
            | 1, hy, fin =>
              obtain rfl := Option.some.inj hy
              refine give_at (lamAt_go la4u g) (lamS1_by (N := nEr) (sc0 := defScope sErrs52) (by decide +kernel)) (lamBind1 "_law_e" rfl fun _ _ _ _ _ _ _ _ => ⟨_, rfl, rfl⟩) _ (fun A outer s H E f c' hr2 => pe_mkKEL MOE hr2 (pa_cons (pv 1) (pa_cons (pv 3) pa_nil)) (pk_cons (pe_tup (pa_cons (pv 8) (pa_cons (pv 8) pa_nil))) pk_nil)) ?_
              refine r_tr5 ?_
              refine r_cons (r_var (v := .ref x) rfl (r_cons (r_var (v := .ref S) rfl (r_nil (r_cons ?_)))))
              repeat walk_at "rl"
              refine ⟨by show 2 ≤ sizeLine; decide, fun pQ nQ => ?_⟩
              generalize hH : upd _ pQ _ = HQ; obtain ⟨kQ, eQ⟩ := new_facts hH nQ; clear hH
              have gQ : Go G L H' HQ := Go.same kQ
              repeat walk_at "rl"
              refine ⟨rfl, rfl, fun x0 dx nx ndx hne => ?_⟩
              have nx1 : (upd HQ dx (.own x0)) x0 = none := by rw [upd_ne hne.symm]; exact nx
              have g0' : Go G L HQ (upd (upd HQ dx (.own x0)) x0 (.ins (cO K) dx [])) := (Go.new ndx).trans (Go.new nx1)
              have gq := gQ.trans g0'
              exact ⟨x0, x, .ref S, .ref pQ, ns, cd, .tuple (st.map PyData.str), .tuple [.str zl, .str zl], invD 1, rfl, dr'.ru.kt gq.kt, dr'.ok, .tup (dr'.hs.kt gq.kt).seq (dps_strs _), lvs, lens, .inr ⟨chk_ok dr'.sub dr'.leg, fun e => (by cases e), .tup (.inl (.inl (g0'.1 _ _ eQ (fun _ z => by cases z)))) (.cons (.str _) (.cons (.str _) .nil)), lvz, lenz, chk_two dr'.nd hzl⟩, fun cls dd H2 g2 hT => ⟨_, told_invZ hT, fun v H3 g3 him => fin v H3 ((gq.trans g2).trans g3) him⟩⟩
            | n + 2, hy, fin => simp at hy
          · rintro D2 H9 hD2 ⟨zs, g9, eD2, hzs⟩
            have hzs' : Ims H9 zs (List.replicate 2 (errIvZ 1)) := hzs
            repeat walk_at "rl"
            refine ⟨by show 3 ≤ sizeLine; decide, fun pT nT => ?_⟩
            generalize hH : upd _ pT _ = HT; obtain ⟨kT, eT⟩ := new_facts hH nT; clear hH
            repeat walk_at "rl"
            refine ⟨by show 1 ≤ sizeLine; decide, fun pK nK => ?_⟩
            generalize hH : upd _ pK _ = HK; obtain ⟨kK, eK⟩ := new_facts hH nK; clear hH
            repeat walk_at "rl"
            refine r_repL (n := 2) eK (by decide) (by show 1 * 2 ≤ 5000; decide) fun pR HR nR kR eR => ?_
            have gTR : Go G L HT HR := (Go.same kK).trans (Go.same kR)
            have g9R : Go G L H9 HR := (Go.same kT).trans gTR
            have iT : Im HR (.ref pT) (errIvZ 1) := Im.tup (Tp.kt (.inl eT) gTR.kt) (.cons (.str _) (.cons (.str _) (.cons (.int _) .nil)))
            refine r_neI (D := .list (List.replicate 2 (errIvZ 1))) (.lst (.of (g9R.lst eD2)) (hzs'.kt g9R.kt).dp) (.lst (.of eR) (ims_rep iT 2).dp) (lv_rep (by decide +kernel)) ?_
            repeat walk_at "rl"
            have gIR := g9.trans g9R
            have htR := gIR.2 htI
            have drR := drI.go gIR
            refine r_give ?_
            refine r_lamV rfl AP hL htR fun f5 c5 HS gS la5 => ?_
            refine give_at la5 (lamS1_by (N := nEr) (sc0 := defScope sErrs52) (by decide +kernel)) (lamBind1 "_law_f" rfl fun _ _ _ _ _ _ _ _ => ⟨_, rfl, rfl⟩) _ (fun A outer s H E f c' hr2 => pe_resSL RSG hr2 (pa_cons (pv 1) (pa_cons (pv 3) (pa_cons (pe_lst (pa_cons pe_str pa_nil)) pa_nil)))) ?_
            refine r_tr5 ?_
            refine r_c ⟨rfl, ?_⟩
            repeat walk_at "rl"
            refine ⟨by show 1 ≤ sizeLine; decide, fun pW nW => ?_⟩
            generalize hH : upd _ pW _ = HW; obtain ⟨kW, eW⟩ := new_facts hH nW; clear hH
            repeat walk_at "rl"
            have gW : Go G L HR HW := gS.trans (Go.same kW)
            have drW := drR.go gW
            refine ⟨x, S, pW, .non, ⟨ns, cd, st, [], []⟩, ["none"], none, rfl, drW.ru, drW.hs, ⟨drW.ok, by show ns.length ≤ 10; have := drW.n8; omega, drW.sub, drW.leg⟩, rfl, rfl, eW, fun z hz => by rw [List.mem_singleton.mp hz]; decide +kernel, by decide, .inl ⟨rfl, rfl⟩, fun D' hD' cls dd H2 g2 hT => ?_, fun hn => ?_⟩
            · obtain ⟨E', hE, hT5⟩ := told_made hD' hT
              have hE2 : E' = .tuple [.str "error", .str "UnknownSwitch", .str "none"] := by
                unfold madeE at hE
                rw [if_neg drW.nn] at hE
                exact (Option.some.inj hE).symm
              subst hE2
              refine ⟨_, hT5, fun v H3 g3 him => ?_⟩
              repeat walk_at "rl"
              refine ⟨by show 3 ≤ sizeLine; decide, fun pY nY => ?_⟩
              generalize hH : upd _ pY _ = HY; obtain ⟨kY, eY⟩ := new_facts hH nY; clear hH
              repeat walk_at "rl"
              have lE : lv 8 (.tuple [.str "error", .str "UnknownSwitch", .str "none"]) = true := by decide +kernel
              have dY : Dp K HY (.ref pY) (.tuple [.str "error", .str "UnknownSwitch", .str "none"]) := .tup (.inl (.inl eY)) (.cons (.str _) (.cons (.str _) (.cons (.str _) .nil)))
              refine r_eqD (Dp.go (Go.same (G := G) (L := L) kY).1 him.dp) dY lE lE ?_
              rw [eqv_same lE]
              have gz := (((g2I.trans gIR).trans gW).trans (g2.trans g3)).trans (Go.same kY)
              exact q HY (gH2.trans gz.toR) (hR2.go gz)
            · exfalso
              unfold wayE at hn
              simp only [List.map_cons] at hn
              rw [if_neg drW.nn] at hn
              cases hn
end
section
variable {K : PySem.W.Frag} {f : Addr} {fd : FuncData}
theorem vals_non {ds : List Value} (h : Vals [V.non] ds) : ds = [Value.none] := by
  cases h with
  | cons a b =>
    cases b
    cases a
    rfl
theorem oinit_binds (F : L2.FunD K "__init__" "Rollout.__init__" (defArgs (sO 0)) (defBody (sO 0)) (defScope (sO 0)) [] [("goal", .non)] f fd) : Binds K fd nOI [Value.none] := by
  obtain ⟨ds, h1, h2⟩ := F.binds0 (ps := nOI) 3 (by simp) rfl (fun D doc pm an cdv ct us ks h1 h2 => match us, ks, h1, h2 with
    | [_, _, _], [_], _, _ => ⟨_, _, _, _, _, _, rfl, rfl, rfl⟩)
  rw [vals_non h1] at h2
  exact h2
theorem oinit_kbn (F : L2.FunD K "__init__" "Rollout.__init__" (defArgs (sO 0)) (defBody (sO 0)) (defScope (sO 0)) [] [("goal", .non)] f fd) : ∃ g, KBn K fd nOI 3 ["goal"] g (fun vs zs => vs ++ zs) := by
  obtain ⟨mv, h⟩ := F.kbinds0 (ps := nOI) 3 ["goal"] [] (fun us _ ws => us ++ ws) (by simp) (fun q hq => by cases hq) (fun a _ b => a.append b) (fun D doc pm an cdv ct us mv ws h1 h2 h3 => match us, mv, ws, h1, h2, h3 with
    | [_, _, _], [], [_], _, _, _ => rfl)
  exact ⟨_, h⟩
theorem resumed_binds (F : L2.FunD K "resumed" "Rollout.resumed" (defArgs (sO 10)) (defBody (sO 10)) (defScope (sO 10)) [] [("goal", .non)] f fd) : Binds K fd ["cls", "rules", "state", "changes", "goal"] [Value.none] := by
  obtain ⟨ds, h1, h2⟩ := F.binds0 (ps := ["cls", "rules", "state", "changes", "goal"]) 4 (by simp) rfl (fun D doc pm an cdv ct us ks h1 h2 => match us, ks, h1, h2 with
    | [_, _, _, _], [_], _, _ => ⟨_, _, _, _, _, _, rfl, rfl, rfl⟩)
  rw [vals_non h1] at h2
  exact h2
theorem bmB_ok {C : Addr} {m : Str} (M : Meth K C m (He.ma K C m)) (h : bmB K C m = true) : BMeth K C m (He.ma K C m) := by
  obtain ⟨h1, h⟩ := He.ba h
  obtain ⟨h2, h⟩ := He.ba h
  obtain ⟨h3, h4⟩ := He.ba h
  exact ⟨M, He.eqO_ok h1, of_decide_eq_true h2, by simpa using h3, h4⟩
theorem prC_ok {C : Addr} {m : Str} (h : prC K C m = true) : PropOf K C m (He.ma K C m) (pgC K C m) := by
  obtain ⟨h1, h⟩ := He.ba h
  obtain ⟨h2, h⟩ := He.ba h
  obtain ⟨h3, h4⟩ := He.ba h
  refine ⟨He.eqO_ok h1, He.eqO_ok h2, of_decide_eq_true h3, ?_⟩
  unfold pgC
  split at h4
  · rename_i g r e
    exact ⟨r, by rw [e]⟩
  · cases h4
theorem nodup_fst : ∀ {ls : List (Addr × Str)}, (ls.map Prod.fst).Nodup → ∀ {p q : Addr × Str}, p ∈ ls → q ∈ ls → p.1 = q.1 → p = q
  | [], _, p, q, hp, _, _ => by cases hp
  | x :: ls, h, p, q, hp, hq, e => by
    obtain ⟨h1, h2⟩ := List.nodup_cons.mp (show (x.1 :: ls.map Prod.fst).Nodup from h)
    rcases List.mem_cons.mp hp with e1 | h3
    · rcases List.mem_cons.mp hq with e2 | h4
      · rw [e1, e2]
      · exact absurd (show x.1 ∈ ls.map Prod.fst by rw [← e1, e]; exact List.mem_map_of_mem h4) h1
    · rcases List.mem_cons.mp hq with e2 | h4
      · exact absurd (show x.1 ∈ ls.map Prod.fst by rw [← e2, ← e]; exact List.mem_map_of_mem h3) h1
      · exact nodup_fst h2 h3 h4 e
theorem apartL {t0 : Addr} {ls : List (Addr × Str)} (h : (t0 :: ls.map Prod.fst).Nodup) : Apart [t0] ls := by
  obtain ⟨h1, h2⟩ := List.nodup_cons.mp h
  refine ⟨fun p hp z => ?_, fun p hp q hq e => ?_⟩
  · rw [List.mem_singleton] at z
    exact h1 (z ▸ List.mem_map_of_mem hp)
  · exact nodup_fst h2 hp hq e
end
/-- a step -/
local macro_rules | `(tactic| walk_at "rl") => `(tactic| first | (with_reducible refine r_tM1 ?_) | (with_reducible refine r_un ?_) | (with_reducible refine r_u1 ?_) | (with_reducible refine r_par ?_) | walk_at "rd")
section
variable {P : Program} {w : World} {K : PySem.W.Frag} {mg : Str → Option Value} {base : Heap} {G : List Addr} {L : List (Addr × Str)}
/-- Rollout(rules, state, goal=goal) -/
theorem pe_mkK {X : Cx} {E : XK} {j : Nat} {e1 e2 e3 : Expr} {p pos kp : Pos} {t tk : TA} (M : MkOK X.prog X.w X.K X.mg X.base G L) (hr : Room j X.A) (hx : Passes (L2.CX X.prog X.w) X E) (ha : PA X [e1, e2] t) (hkw : PK X [⟨some "goal", e3, kp⟩] tk) (hk : 8 ≤ j := by decide) (hg : Gl X "Rollout" := by rfl)
    (hall : (backToKw pos (keywordEach [⟨some "goal", e3, kp⟩] X.env)).all (·.1.isSome) = true := by rfl) (hks : (backToKw pos (keywordEach [⟨some "goal", e3, kp⟩] X.env)).filterMap (·.1) = (["goal"] : List Str) := by rfl)
    (he : starEach [e1, e2] X.env = (false, eval e1 X.env) :: starEach [e2] X.env := by rfl) (hpl : ((backTo pos (starEach [e1, e2] X.env)).any (·.1) || (backToKw pos (keywordEach [⟨some "goal", e3, kp⟩] X.env)).any (·.1.isNone)) = false := by rfl) :
    PE X (.Call (.Name "Rollout" p) [e1, e2] [⟨some "goal", e3, kp⟩] pos) (tMakeK (cO X.K) 2 1 (spOInit X.K G L) (fun vs zs => vs ++ zs) E t tk) := by
  obtain ⟨f, fd, h1, F, g, kb⟩ := M.ex
  exact pe_makeK h1 F (hr.mono hk) hg M.c.g kb hx ha hkw hall hks (by decide) he hpl
/-- Rollout.advance -/
structure FmA (P : Program) (w : World) (K : PySem.W.Frag) (mg : Str → Option Value) (base : Heap) (G : List Addr) (L : List (Addr × Str)) : Prop where
  c : Cls K (cO K)
  ex : ∃ (f : Addr) (fd : FuncData), Meth K (cO K) "advance" f ∧ FnOk P w K mg base (L2.CX P w) 14 f fd ["self", "count"] (spAdv K G L) ∧ Binds K fd ["self", "count"] [] ∧ ∃ ds, Vals [V.int 1] ds ∧ Binds K fd ["self", "count"] ds
theorem adv_binds {f : Addr} {fd : FuncData} (F : L2.FunD K "advance" "Rollout.advance" (defArgs (sO 7)) (defBody (sO 7)) (defScope (sO 7)) [.int 1] [] f fd) : Binds K fd ["self", "count"] [] ∧ ∃ ds, Vals [V.int 1] ds ∧ Binds K fd ["self", "count"] ds := by
  constructor
  · obtain ⟨ds, h1, h2⟩ := F.binds1 (ps := ["self", "count"]) 2 1 (by simp) rfl (fun T kV doc pm an cdv ct us its h1 h2 => match us, its, h1, h2 with
      | [_, _], [_], _, _ => ⟨_, rfl, rfl⟩)
    cases h1
    exact h2
  · exact F.binds1 (ps := ["self", "count"]) 1 0 (by simp) rfl (fun T kV doc pm an cdv ct us its h1 h2 => match us, its, h1, h2 with
      | [_], [_], _, _ => ⟨_, rfl, rfl⟩)
theorem resumed_kbn {f : Addr} {fd : FuncData} (F : L2.FunD K "resumed" "Rollout.resumed" (defArgs (sO 10)) (defBody (sO 10)) (defScope (sO 10)) [] [("goal", .non)] f fd) : ∃ g, KBn K fd ["cls", "rules", "state", "changes", "goal"] 4 ["goal"] g (fun vs zs => vs ++ zs) := by
  obtain ⟨mv, h⟩ := F.kbinds0 (ps := ["cls", "rules", "state", "changes", "goal"]) 4 ["goal"] [] (fun us _ ws => us ++ ws) (by simp) (fun q hq => by cases hq) (fun a _ b => a.append b) (fun D doc pm an cdv ct us mv ws h1 h2 h3 => match us, mv, ws, h1, h2, h3 with
    | [_, _, _, _], [], [_], _, _, _ => rfl)
  exact ⟨_, h⟩
theorem pe_adv {X : Cx} {j : Nat} {E : XK} {o e : Expr} {es : List Expr} {apos pos : Pos} {ta : TE} {t : TA} {pl : Sem Bool} (c : FmA X.prog X.w X.K X.mg X.base G L) (hr : Room j X.A) (hx : Passes (L2.CX X.prog X.w) X E) (he : PE X o ta) (ha : PA X (e :: es) t) (hk : 14 ≤ j := by decide)
    (hst : starEach (e :: es) X.env = (false, eval e X.env) :: starEach es X.env := by rfl) (hpl : (backTo pos (starEach es X.env)).any (·.1) = false := by rfl)
    (ht : eval (.Call (.Attribute o "advance" apos) (e :: es) [] pos) X.env = (do
      let ov ← eval o X.env
      standAt apos.atName
      let (f, first) ← holding [ov] (getMethod ov "advance" pl)
      callWith pos f first (backTo pos (starEach (e :: es) X.env)) (backToKw pos (keywordEach [] X.env))) := by rfl) :
    PE X (.Call (.Attribute o "advance" apos) (e :: es) [] pos) (tMeth (cO X.K) "advance" (spAdv X.K G L) [] E ta t) := by
  obtain ⟨f, fd, h1, F, b, _⟩ := c.ex
  exact pe_meth he c.c h1 F (hr.mono hk) b .nil hx ha hst hpl ht
theorem pe_adv0 {X : Cx} {j : Nat} {E : XK} {o : Expr} {apos pos : Pos} {ta : TE} {pl : Sem Bool} (c : FmA X.prog X.w X.K X.mg X.base G L) (hr : Room j X.A) (hx : Passes (L2.CX X.prog X.w) X E) (he : PE X o ta) (hk : 14 ≤ j := by decide)
    (ht : eval (.Call (.Attribute o "advance" apos) [] [] pos) X.env = (do
      let ov ← eval o X.env
      standAt apos.atName
      let (f, first) ← holding [ov] (getMethod ov "advance" pl)
      callWith pos f first (backTo pos (starEach [] X.env)) (backToKw pos (keywordEach [] X.env))) := by rfl) :
    PE X (.Call (.Attribute o "advance" apos) [] [] pos) (tMeth (cO X.K) "advance" (spAdv X.K G L) [.int 1] E ta tNil) := by
  obtain ⟨f, fd, h1, F, _, ds, hd, b⟩ := c.ex
  exact pe_meth0 he c.c h1 F (hr.mono hk) b hd hx ht
theorem pe_advL {X : Cx} {A : Around} {outer : List Env} {s : Shared} {H : Hp} {E : XK} {sc : Scope} {fL c' : Addr} {j : Nat} {o e : Expr} {es : List Expr} {apos pos : Pos} {ta : TE} {t : TA} {pl : Sem Bool} (c : FmA X.prog X.w X.K X.mg X.base G L) (hr : Room j (A.deeper (LamX.lamEnv X sc s.heap.objs.size fL c'))) (he : PE (LamX.lamCx X A outer s H E sc fL c') o ta) (ha : PA (LamX.lamCx X A outer s H E sc fL c') (e :: es) t) (hk : 14 ≤ j := by decide)
    (hst : starEach (e :: es) (LamX.lamCx X A outer s H E sc fL c').env = (false, eval e (LamX.lamCx X A outer s H E sc fL c').env) :: starEach es (LamX.lamCx X A outer s H E sc fL c').env := by rfl) (hpl : (backTo pos (starEach es (LamX.lamCx X A outer s H E sc fL c').env)).any (·.1) = false := by rfl)
    (ht : eval (.Call (.Attribute o "advance" apos) (e :: es) [] pos) (LamX.lamCx X A outer s H E sc fL c').env = (do
      let ov ← eval o (LamX.lamCx X A outer s H E sc fL c').env
      standAt apos.atName
      let (f, first) ← holding [ov] (getMethod ov "advance" pl)
      callWith pos f first (backTo pos (starEach (e :: es) (LamX.lamCx X A outer s H E sc fL c').env)) (backToKw pos (keywordEach [] (LamX.lamCx X A outer s H E sc fL c').env))) := by rfl) :
    PE (LamX.lamCx X A outer s H E sc fL c') (.Call (.Attribute o "advance" apos) (e :: es) [] pos) (tMeth (cO X.K) "advance" (spAdv X.K G L) [] E ta t) :=
  pe_adv (X := LamX.lamCx X A outer s H E sc fL c') c hr (passes_call (takes_of rfl rfl rfl rfl) fun _ _ _ _ z => z) he ha hk hst hpl ht
theorem r_adv {H : Hp} {x : Addr} {f : Ro} {m : Str} {sp : Sp} {dvs : List V} {E : XK} {ta : TE} {t : TA} {σ : L2.St} {Q : VK} (h : RoAt K H x f) (hx : ∀ R : VK, R (.ref x) H → ta σ H R) (q : t σ H fun vs H2 => sp (.ref x :: (vs ++ dvs)) H2 Q E) (hn : roN.contains m = false := by decide +kernel) : tMeth (cO K) m sp dvs E ta t σ H Q :=
  r_mRO (sp := fun vs H Q E => sp (vs ++ dvs) H Q E) (t := t) h hx q hn
/-- the rules' names, where they lie -/
theorem names_at {H : Hp} {x : Addr} {ns : List Str} {cd : List PyData} (h : RulesAt K H x ns cd) : ∃ an, NT H an (ns.map V.str) ∧ ∀ {σ : L2.St} {ta : TE}, (∀ R : VK, R (.ref x) H → ta σ H R) → ∀ R : VK, R (.ref an) H → tProp (cR K) (getSp (cR K) "_names") [] E0 ta σ H R := by
  obtain ⟨dx, an, ac, xs, h1, h2, _⟩ := h
  exact ⟨an, h2, fun hx R z => hx _ ⟨x, dx, _, rfl, h1, x, dx, _, .ref an, rfl, h1, rfl, z⟩⟩
def errNG : PyData := .tuple [.str "error", .str "NoGoal"]
theorem told_NW {H : Hp} {dd : Addr} {v : V} (h : H dd = some (.xd [("circle", v)])) : Told5 K (.ref (He.ga K "NoWay")) (some dd) H errNW :=
  ⟨"NoWay", [], by decide, rfl, rfl, rfl, .inr ⟨dd, _, rfl, h⟩⟩
theorem told_NG {H : Hp} : Told5 K (.ref (He.ga K "NoGoal")) none H errNG := ⟨"NoGoal", [], by decide, rfl, rfl, rfl, .inl rfl⟩
variable {HB H H' : Hp} {ρ : Rid} {x T l : Addr} {lx : List V} {LD : List (List Str)} {wv : V} {sv : Prop} {f f' : Ro} {d d' : RoD}
/-- the rollout has changed -/
theorem NowG.set (n : NowG K G L HB H ρ x T l lx LD wv sv f d) (hB : Row K HB ρ) (nx : Nw HB x) (g : GoR G L x H H') (h : RolAt K H' x f' d') (eg : f'.go = f.go) : NowG K G L HB H' ρ x T l lx LD wv sv f' d' := by
  have g2 := GoR.thru n.g nx g
  obtain ⟨xs, er⟩ := n.row.lst
  have r2 := hB.re n.row g2.1 (by rw [er]; exact n.rol.1.lst g er)
  have tt := n.rol.1.tt g
  refine ⟨g2, r2, g.2 n.tb, h, eg.trans n.go, n.nl, n.rol.1.lst g n.lg, ?_, ?_⟩
  · exact Ims.tt tt n.ls
  · rcases n.way with ⟨h1, w, ss, e, nw, h2⟩ | ⟨h1, h2⟩
    · exact .inl ⟨h1, w, ss, e, nw, n.rol.1.lst g h2⟩
    · exact .inr ⟨h1, Im.tt tt h2⟩
end
/-- a step -/
local macro_rules | `(tactic| walk_at "rl") => `(tactic| first | (with_reducible refine r_tM1 ?_) | (with_reducible refine r_un ?_) | (with_reducible refine r_u1 ?_) | (with_reducible refine r_par ?_) | walk_at "rd")
section
variable {P : Program} {w : World} {K : PySem.W.Frag} {mg : Str → Option Value} {base : Heap} {G : List Addr} {L : List (Addr × Str)}
theorem r_pick52 {H : Hp} {Q : VK} {E : XK} {ρ : Rid} {p : Addr} {xs : List V} (hR : Row K H ρ) (e : H p = some (.lst xs)) (np : p ≠ ρ.r) (h0 : 0 < xs.length) (hl : xs.length < 1000000) (q : ∀ (i : Nat) v H', xs[i]? = some v → GoR G L ρ.r H H' → Row K H' ρ → Q v H') : spPick K G L ([.ref ρ.r, .ref p] ++ []) H Q E :=
  ⟨ρ, p, xs, rfl, hR, h0, hl, fun H' h => by
    rcases h with rfl | h
    · exact .inl (.of e)
    · exact .inl (.of (h.lst np e)), fun i v H' ev g hR' => q i v H' ev g hR'⟩
theorem ne_row52 {H : Hp} {ρ : Rid} {p : Addr} (hR : Row K H ρ) (hp : H p = none) : p ≠ ρ.r := by
  obtain ⟨zs, z⟩ := hR.lst
  exact (ne_of_none z hp).symm
theorem ln_oneL {a : List Str} (ha : ∀ y ∈ a, PyData.strOk y = true) (la : a.length ≤ 2000) : ln 3 (.list (a.map PyData.str)) = true := by
  simp only [ln, Bool.and_eq_true, decide_eq_true_eq, List.length_map, List.all_eq_true]
  refine ⟨la, fun d hd => ?_⟩
  obtain ⟨z, hz, rfl⟩ := List.mem_map.mp hd
  exact ha z hz
theorem r_tIfJ52 {c : TT} {ta tb : TE} {σ : L2.St} {H : Hp} {Q : VK} (Post : V → Hp → Prop) (h : ∀ Q' : VK, (∀ v H', Post v H' → Q' v H') → tIf c ta tb σ H Q') (q : ∀ v H', Post v H' → Q v H') : tIf c ta tb σ H Q := h Q q
theorem r_way52 {σ : L2.St} {t : TA} {H : Hp} {Q : VK} {Pn : Addr} {qn : Str} {ρ : Rid} {rr S T : Addr} {ns : List Str} {cd : List PyData} {st gt : List Str} (AP : Apart G L) (hL : (Pn, qn) ∈ L) (ht : TBS G L H) (ha : ∀ H' (R : List V → Hp → Prop), R [.ref rr, .ref S, .ref T] H' → t σ H' R) (tw : Two K H rr S T ns cd st gt) (hR : Row K H ρ)
    (q : ∀ wv H', Go G L H H' → WayAt H' ρ.r wv (Solv ns cd st gt) → Q wv H') : tLamS Pn qn (TR5 K G L) (fun E => tCall (spFindWay K G L) [] E t) σ H Q := by
  refine r_toldL AP hL ht fun H1 g1 => ?_
  refine ha _ _ ?_
  refine ⟨rr, S, T, ns, cd, st, gt, rfl, tw.go g1, fun nS dd v H' g h => ⟨_, told_NW h, fun v H2 g2 him => q v H2 ((g1.trans g).trans g2) (.inr ⟨nS, him⟩)⟩, fun hsv l H' nw g el => q (.ref l) H' (g1.trans g) (.inl ⟨hsv, l, _, rfl, ?_, el⟩)⟩
  obtain ⟨zs, z⟩ := (hR.go g1).lst
  exact nw.lst z
abbrev nLaw : List Str := ["_law_script", "_law_d", "_law_turn", "_law_rules_here", "_law_legal_here", "_law_start", "_law_there", "_law_rollout", "_law_way", "_law_change", "_law_rest", "_law_count", "_law_before", "_law_made", "_law_again", "_law_free", "_law_name"]
theorem scLaw : FnScope nLaw ["_law_script"] (defScope sLaw) := C8.fnScope_by (by decide +kernel)
set_option maxHeartbeats 4000000 in
theorem ok_law {f c Pn : Addr} {fd : FuncData} (F : Fun K "law" "law" sLaw f fd) (hc : fd.code = .ref c) (TB : LamX.TabB base mg c Pn) (hL : (Pn, lamQ "law") ∈ L) (AP : Apart G L) (zL : mg "len" = none) (zR : mg "range" = none) (zI : mg "isinstance" = none) (zT : mg "tuple" = none)
    (DI : Fd CX0 P w K mg base "_law_dice" 1 (spDice K G L)) (NX : Fd CX0 P w K mg base "_law_next" 1 (spTaken K G L)) (PK : Fd CX0 P w K mg base "_law_pick" 2 (spPick K G L)) (RU : Fd CX0 P w K mg base "_law_rules" 6 (spRules5 K G L)) (LK : Fd CX0 P w K mg base "_law_like" 5 (spAlike K G L 4)) (FN : Fp P w K mg base "names" "_names")
    (R : RoC K mg) (MO : MkO P w K mg base G L) (MOK : MkOK P w K mg base G L) (FW : Fd (L2.CX P w) P w K mg base "find_way" 8 (spFindWay K G L)) (AD : FmA P w K mg base G L)
    (PST : FpO P w K mg base "state" 1 (getSp (cO K) "_state")) (PTA : FpO P w K mg base "target" 1 (getSp (cO K) "_goal")) (PHI : FpO P w K mg base "history" 2 (spHist K)) (PRE : FpO P w K mg base "remaining" 4 (spRem K G L)) (RSG : FcS P w K mg base (spResumedG K G L)) (ER : Fd CX0 P w K mg base "_law_errors" 20 (spErrs K G L)) (TO : TzD K mg) :
    FnOk P w K mg base CX0 22 f fd ["_law_script"] (spLaw K G L) := by
  obtain ⟨oc, od, kV, doc, pm, an, cdv, ct, osl, efd, lk, hcd⟩ := F.ex
  subst efd
  have ec : cdv = .ref c := hc
  subst ec
  refine fn_of lk hcd scLaw (fun vs H Q E h => ?_) (fun A outer s H vs Q E hr h => ?_)
  · obtain ⟨a, ns, e, _⟩ := h
    rw [e]
    rfl
  · obtain ⟨a, ns, e, hlen, hS, ht, q⟩ := h
    subst e
    refine ⟨_, PSs.nox (pss_cons (ps_set (i := 1) scLaw.nd rfl (Or.inl rfl) (pe_fd (E := E0) DI hr pass0 (pa_cons (pv 0) pa_nil)))
(pss_cons (ps_for PassesOwn.never rfl (pi_range1 rfl zR (pa_cons pe_int pa_nil)) (pg_name (i := 2) scLaw.nd rfl (.inl rfl))
  (pss_cons (ps_asg (pe_fd (E := E0) RU hr pass0 (pa_cons (pv 1) (pa_cons pe_int (pa_cons pe_int pa_nil)))) (pg_tup rfl (pgs_cons (pg_name (i := 3) scLaw.nd rfl (.inr rfl)) (pgs_cons (pg_name (i := 4) scLaw.nd rfl (.inl rfl)) pgs_nil))))
  (pss_cons (ps_asg (pe_tup (pa_cons (pe_fd (E := E0) PK hr pass0 (pa_cons (pv 1) (pa_cons (pv 4) pa_nil))) (pa_cons (pe_fd (E := E0) PK hr pass0 (pa_cons (pv 1) (pa_cons (pv 4) pa_nil))) pa_nil))) (pg_tup rfl (pgs_cons (pg_name (i := 5) scLaw.nd rfl (.inr rfl)) (pgs_cons (pg_name (i := 6) scLaw.nd rfl (.inr rfl)) pgs_nil))))
  (pss_cons (ps_set (i := 7) scLaw.nd rfl (Or.inr rfl) (pe_mkK (E := E0) MOK hr passN (pa_cons (pv 3) (pa_cons (pv 5) pa_nil)) (pk_cons (pv 6) pk_nil)))
  (pss_cons (ps_if (pt_cmpR (op_neD (u64 hr)) (pe_fpO PTA hr (pv 7)) (pv 6) rfl)
    (pss_one (ps_ret pe_bl)) pss_nil)
  (pss_cons (ps_set (i := 8) scLaw.nd rfl (Or.inl rfl) (pe_told (G := G) (L := L) (k := 11) TO TB rfl hr (LamX.lamS_by (sc := defScope sLaw) (by decide +kernel)) (fun A outer s H E f c' hr2 => pe_fdL FW hr2 (pa_cons (pv 3) (pa_cons (pv 5) (pa_cons (pv 6) pa_nil))))))
  (pss_cons (ps_for PassesOwn.never rfl (pi_range1 rfl zR (pa_cons pe_int pa_nil)) (pg_name (i := 9) scLaw.nd rfl (.inl rfl))
    (pss_cons (ps_setLc (i := 10) (own := [("_law_name", 16)]) (g := gName 16) rfl scLaw.nd rfl rfl (sw_true rfl rfl rfl rfl) (pi_tup (pe_fp FN hr (pv 3)))
            (blkOk_by (own := [("_law_name", 16)]) (N := nLaw) (sc := defScope sLaw) (by decide +kernel)) (fun _ _ _ _ _ => pg_name (i := 16) scLaw.nd rfl (.inl rfl)) (fun _ _ _ _ _ => pts_one (pt_cmpR op_ne (pe_cmpR (r := rInT K id) (op_inT (u65 hr)) (pv 16) (show PE _ _ (tProp (cO K) (getSp (cO K) "_state") [] E0 (tVar 7)) from pe_fpO PST hr (pv 7)) rfl) (pe_cmpR (r := rInT K id) (op_inT (u65 hr)) (pv 16) (pv 6) rfl) rfl))
            (fun _ _ _ _ _ => (pv 16)))
    (pss_cons (ps_if (pt_not (pt_val (pe_fd (E := E0) LK hr pass0 (pa_cons (pe_fpO PRE hr (pv 7)) (pa_cons (pv 10) pa_nil)))))
      (pss_one (ps_ret pe_bl)) pss_nil)
    (pss_cons (ps_asg (pe_tup (pa_cons (pe_fd (E := E0) NX hr pass0 (pa_cons (pv 1) (pa_cons pe_int pa_nil))) (pa_cons (pe_fpO PST hr (pv 7)) pa_nil))) (pg_tup rfl (pgs_cons (pg_name (i := 11) scLaw.nd rfl (.inr rfl)) (pgs_cons (pg_name (i := 12) scLaw.nd rfl (.inl rfl)) pgs_nil))))
    (pss_one (ps_if (pt_val (pe_callB call_isi rfl zI boot_isinstance (pa_cons (pv 8) (pa_cons (pe_bltn (v := .ty "tuple") rfl zT (by decide +kernel) rfl) pa_nil))))
      (pss_one (ps_if (PW.pt (pw_or (pt_cmpR (op_neD (u64 hr)) (pe_toldV (G := G) (L := L) (k := 16) TO hr (pe_lamW1 TB rfl (lamS1_by (N := nLaw) (sc0 := defScope sLaw) (by decide +kernel)) pe_int)) (pe_tup (pa_cons pe_str (pa_cons pe_str pa_nil))) rfl) (pw_or1 (pt_cmpR (op_neD (u64 hr)) (pe_fpO PST hr (pv 7)) (pv 12) rfl))))
        (pss_one (ps_ret pe_bl)) pss_nil)) (pss_cons (ps_set (i := 13) scLaw.nd rfl (Or.inl rfl) (pe_ifExp (PW.pt (pw_or (pt_cmpR op_ne (pv 11) pe_int (nomark _)) (pw_or1 (pt_cmpR op_eq (pe_fd (E := E0) NX hr pass0 (pa_cons (pv 1) (pa_cons pe_int pa_nil))) pe_int (nomark _))))) (pe_adv (E := E0) AD hr passN (pv 7) (pa_cons (pv 11) pa_nil)) (pe_adv0 (E := E0) AD hr passN (pv 7))))
      (pss_one (ps_if (PW.pt (pw_or (pt_cmpR (op_neD (u64 hr)) (pv 13) (pe_slice (r := rSlL K) sl_list (pe_fd (E := E0) FW hr passN (pa_cons (pv 3) (pa_cons (pv 12) (pa_cons (pv 6) pa_nil)))) po_none (po_some (pv 11))) rfl) (pw_or1 (pt_cmpR op_ne (pe_op op_sub (pe_callB (r := cLen K) c_len rfl zL boot_len (pa_cons (pv 10) pa_nil)) (pe_callB (r := cLen K) c_len rfl zL boot_len (pa_cons (pe_fpO PRE hr (pv 7)) pa_nil))) (pe_callB (r := cLen K) c_len rfl zL boot_len (pa_cons (pv 13) pa_nil)) (nomark _)))))
        (pss_one (ps_ret pe_bl)) pss_nil)))))))))
  (pss_cons (ps_set (i := 14) scLaw.nd rfl (Or.inl rfl) (pe_resK (E := E0) RSG hr passN (pa_cons (pv 3) (pa_cons (pv 5) (pa_cons (pe_fpO PHI hr (pv 7)) pa_nil))) (pk_cons (pv 6) pk_nil)))
  (pss_cons (ps_if (PW.pt (pw_or (pt_cmpR (op_neD (u64 hr)) (pe_fpO PTA hr (pv 14)) (pv 6) rfl) (pw_or (pt_cmpR (op_neD (u64 hr)) (pe_fpO PST hr (pv 14)) (pe_fpO PST hr (pv 7)) rfl) (pw_or1 (pt_not (pt_val (pe_fd (E := E0) LK hr pass0 (pa_cons (pe_fpO PRE hr (pv 14)) (pa_cons (pe_fpO PRE hr (pv 7)) pa_nil)))))))))
    (pss_one (ps_ret pe_bl)) pss_nil)
  (pss_cons (ps_set (i := 15) scLaw.nd rfl (Or.inr rfl) (pe_mkO (E := E0) MO hr passN (pa_cons (pv 3) (pa_cons (pv 5) pa_nil))))
  (pss_cons (ps_if (PW.pt (pw_or (pt_cmpR (op_neD (u64 hr)) (pe_fpO PRE hr (pv 15)) (pe_lst pa_nil) rfl) (pw_or1 (pt_cmpR (op_neD (u64 hr)) (pe_toldV (G := G) (L := L) (k := 16) TO hr (pe_lamW1 TB rfl (lamS1_by (N := nLaw) (sc0 := defScope sLaw) (by decide +kernel)) pe_int)) (pe_tup (pa_cons pe_str (pa_cons pe_str pa_nil))) rfl))))
    (pss_one (ps_ret pe_bl)) pss_nil)
  (pss_one (ps_if (pt_not (pt_val (pe_fd (E := E0) ER hr pass0 (pa_cons (pv 1) (pa_cons (pv 3) (pa_cons (pv 4) (pa_cons (pv 5) pa_nil)))))))
    (pss_one (ps_ret pe_bl)) pss_nil)))))))))))))
(pss_one (ps_ret pe_bl)))), ?_⟩
    repeat walk_at "rl"
    refine ⟨a, ns, rfl, hlen, hS, fun r H1 g1 hr' hR1 => ?_⟩
    have ht1 := g1.2 ht
    generalize hρ : (⟨r, a, ns⟩ : Rid) = ρ at hR1
    have er : r = ρ.r := by rw [← hρ]
    subst er
    clear hS ht hr' hρ g1
    repeat walk_at "rl"
    refine forR (n := 4) (H0 := H1) (fun R z => r_c z) (by decide) (fun i σ H' => ∃ (x2 x3 x4 x5 x6 x7 x8 x9 x10 x11 x12 x13 x14 x15 x16 : Option V), σ = [some (.ref a), some (.ref ρ.r), x2, x3, x4, x5, x6, x7, x8, x9, x10, x11, x12, x13, x14, x15, x16] ∧ TBS G L H' ∧ Row K H' ρ) ?_ ?_ ?_
    · exact ⟨none, none, none, none, none, none, none, none, none, none, none, none, none, none, none, rfl, ht1, hR1⟩
    · rintro i' σ H2 hi ⟨x2, x3, x4, x5, x6, x7, x8, x9, x10, x11, x12, x13, x14, x15, x16, rfl, ht2, hR2⟩
      clear hR1 ht1
      refine r_gN ?_
      try dsimp only
      repeat walk_at "rl"
      refine ⟨ρ, 7, 6, rfl, hR2, ht2, by decide, by decide, by decide, fun ns cd p rr l lx H3 n0 nm hns hcl hcd6 hne hp RA nl hl hlx g3 hR3 => ?_⟩
      refine r_pair hp.seq ?_
      have ht3 := g3.2 ht2
      have gn := hns.gn
      have n10 : ns.length ≤ 10 := by omega
      have okR := gn.okR n0 n10 hcl (by omega)
      have hnon := hns.non
      have nlr : l ≠ ρ.r := by
        obtain ⟨zs, z⟩ := hR2.lst
        exact nl.lst z
      clear g3 hR2 ht2 hp nl hns
      try dsimp only
      repeat walk_at "rl"
      have hLl : (legalD ns cd).length ≤ 2000 := Nat.le_trans (List.length_filter_le _ _) (allD_len n10)
      refine r_pick52 hR3 hl nlr (by rw [hlx.len]; exact List.length_pos_iff.mpr hne) (by rw [hlx.len]; omega) fun i0 v H4 ev g4 hR4 => ?_
      obtain ⟨S, st, hst, rfl, hS⟩ := sts_get hlx ev
      have hmem := List.mem_filter.mp (List.mem_of_getElem? hst)
      have BB : Base51 ns cd st := ⟨okR, gn.nd, n10, allD_sub n10 hmem.1, of_decide_eq_true hmem.2, okR.gs.1⟩
      have k4 := hR3.kt g4
      have hl4 := g4.lst nlr hl
      have hlx4 := hlx.kt k4
      repeat walk_at "rl"
      refine r_pick52 hR4 hl4 nlr (by rw [hlx.len]; exact List.length_pos_iff.mpr hne) (by rw [hlx.len]; omega) fun i1 v H5 ev1 g5 hR5 => ?_
      obtain ⟨T, gt, hgt, rfl, hT⟩ := sts_get hlx4 ev1
      have hmeg := List.mem_filter.mp (List.mem_of_getElem? hgt)
      have gsub := allD_sub n10 hmeg.1
      have gleg : brokenFrom (gt.map PyData.str) 0 cd = [] := of_decide_eq_true hmeg.2
      have k5 := hR4.kt g5
      have hl5 := g5.lst nlr hl4
      have hlx5 := hlx4.kt k5
      have RA5 := (RA.kt k4).kt k5
      have hS5 := (hS.kt k4).kt k5
      have hT5 := hT.kt k5
      have ht5 := g5.2 (g4.2 ht3)
      have WB0 : WB ns cd st gt := ⟨gn.nd, hcl, BB.sub, gsub, BB.leg, gleg⟩
      clear hLl ev hst hmem RA hS ht3 hR3 g4 hlx hl ev1 hgt hmeg hT hR4 g5 k4 k5 hl4 hlx4
      repeat walk_at "rl"
      refine ⟨by show 2 ≤ sizeLine; decide, fun p7 n7 => ?_⟩
      generalize hH : upd _ p7 _ = H7; obtain ⟨k7, e7⟩ := new_facts hH n7; clear hH
      have g57 : Go G L H5 H7 := Go.same k7
      refine r_pair (.of e7) ?_
      simp only [List.set_cons_zero, List.set_cons_succ]
      repeat walk_at "rl"
      refine r_cons (r_var (v := .ref rr) rfl (r_cons (r_var (v := .ref S) rfl (r_nil (r_cons (r_var (v := .ref T) rfl (r_nil ?_)))))))
      refine ⟨rfl, rfl, fun x dx nx ndx hne2 => ?_⟩
      have nx1 : (upd H7 dx (.own x)) x = none := by rw [upd_ne hne2.symm]; exact nx
      have g78 : Go G L H7 (upd (upd H7 dx (.own x)) x (.ins (cO K) dx [])) := (Go.new ndx).trans (Go.new nx1)
      have g58 := g57.trans g78
      refine ⟨x, rr, S, .ref T, ⟨ns, cd, st, [], []⟩, rfl, ⟨dx, upd_same⟩, RA5.kt g58.kt, hS5.kt g58.kt, ⟨okR, n10, BB.sub, BB.leg⟩, rfl, rfl, .inr ⟨T, gt, rfl, hT5.kt g58.kt, gsub, gleg⟩, fun f0 H8 g8 eg eo hRl => ⟨rfl, ?_⟩⟩
      have g07 := go_new nx (g78.toR.trans g8)
      have nwx : Nw H7 x := .of nx
      clear g8 g58 g78 nx1 nx ndx hne2 dx
      simp only [List.set_cons_zero, List.set_cons_succ]
      repeat walk_at "rl"
      refine r_ptarget (fun R0 z => ⟨_, rfl, z⟩) hRl.1 ?_
      rw [eg]
      repeat walk_at "rl"
      have gok : ∀ y ∈ gt, PyData.strOk y = true := fun y hy => okR.gs.1 y (gsub.subset hy)
      have lvg : lv 8 (.tuple (gt.map PyData.str)) = true := lv_strs gok
      have hT8 := (hT5.kt g57.kt).kt g07.kt
      refine r_neI (D := .tuple (gt.map PyData.str)) (.tup hT8.seq (dps_strs _)) (.tup hT8.seq (dps_strs _)) lvg ?_
      repeat walk_at "rl"
      have tw8 : Two K H8 rr S T ns cd st gt := ⟨(RA5.kt g57.kt).kt g07.kt, okR, n10, WB0, (hS5.kt g57.kt).kt g07.kt, hT8⟩
      have hR8 := (hR5.go g57).go g07
      have ht8 := g07.2 (g57.2 ht5)
      refine r_way52 AP hL ht8 (fun H' R z => r_cons (r_var rfl (r_cons (r_var rfl (r_cons (r_var rfl (r_nil z))))))) tw8 hR8 fun wv HA gA hw => ?_
      simp only [List.set_cons_zero, List.set_cons_succ]
      repeat walk_at "rl"
      have g8A := g07.trans gA
      have hR7 := hR5.go g57
      have RA7 := RA5.kt g57.kt
      have hS7 := hS5.kt g57.kt
      have hT7 := hT5.kt g57.kt
      have N0 : NowG K G L H7 HA ρ x T l lx (legalD ns cd) wv (Solv ns cd st gt) f0 ⟨ns, cd, st, [], []⟩ :=
        ⟨g8A.toR, hR8.go gA, gA.2 ht8, hRl.go gA, eg, nlr, g8A.lst (g57.lst hl5), hlx5.kt (g57.trans g8A).kt, hw⟩
      clear tw8 hR8 ht8 hw gA g8A g07 hRl eg eo hT8 g57 k7 n7 e7 RA5 hS5 hT5 hl5 hlx5 ht5 hR5
      refine forR (n := 5) (H0 := HA) (fun R z => r_c z) (by decide) (fun i σ H' => ∃ (fo : Ro) (d : RoD) (x9 x10 x11 x12 x13 x14 x15 x16 : Option V), σ = [some (.ref a), some (.ref ρ.r), some (.int (i' : Nat)), some (.ref rr), some (.ref l), some (.ref S), some (.ref T), some (.ref x), some wv, x9, x10, x11, x12, x13, x14, x15, x16] ∧ NowG K G L H7 H' ρ x T l lx (legalD ns cd) wv (Solv ns cd st gt) fo d ∧ Trk ns cd st d ∧ d.un = [] ∧ (Solv ns cd d.st gt ↔ Solv ns cd st gt) ∧ d.dn.length ≤ 3 * i) ?_ ?_ ?_
      · exact ⟨f0, _, x9, x10, x11, x12, x13, x14, x15, x16, rfl, N0, Trk.start BB, rfl, Iff.rfl, Nat.le_refl _⟩
      · rintro j σ H8 hj ⟨fo, d, x9, x10, x11, x12, x13, x14, x15, x16, rfl, N, TT, hun, hso, hlen⟩
        clear N0
        refine r_gN ?_
        simp only [List.set_cons_zero, List.set_cons_succ]
        repeat walk_at "rl"
        obtain ⟨h0, rr', S', D1, U1, e1, e2, e3, e4, hru, hSd, hDd, hUd⟩ := id N.rol
        have good := TT.good BB
        have RA8 := RA7.kt (hR7.kt N.g)
        have dsub : d.st.Sublist ns := by have z := good.sub; rw [TT.ens] at z; exact z
        have dok : ∀ y ∈ d.st, PyData.strOk y = true := fun y hy => okR.gs.1 y (dsub.subset hy)
        have lvd : lv 8 (.tuple (d.st.map PyData.str)) = true := lv_strs dok
        have hT8 := hT7.kt (hR7.kt N.g)
        obtain ⟨an, han, nms⟩ := names_at RA8
        refine lcT (a := an) (xs := ns.map V.str) (fun R z => nms (fun R z => ⟨_, rfl, z⟩) R z) han.seq (fun D i H' => Go G L H8 H' ∧ H' D = some (.lst (((ns.take i).filter fun o => decide (o ∈ d.st) != decide (o ∈ gt)).map V.str))) ?_ ?_ ?_ ?_
        · intro D hD
          exact ⟨Go.new hD, upd_same⟩
        · rintro D i H2 hD _ ⟨g2, _⟩
          exact (han.kt g2.kt).seq
        · rintro D i y H2 hD hy ⟨g2, eD⟩
          rw [List.getElem?_map] at hy
          cases hz : ns[i]? with
          | none => rw [hz] at hy; cases hy
          | some o =>
            rw [hz] at hy
            obtain rfl : y = .str o := (Option.some.inj hy).symm
            have hom := List.mem_of_getElem? hz
            refine r_gN ⟨rfl, ?_⟩
            repeat walk_at "rl"
            refine r_pstate (fun R0 z => ⟨_, rfl, z⟩) (h0.go g2) ?_
            rw [e2]
            refine ⟨.str o, d.st.map PyData.str, .str o, .tup (hSd.kt g2.kt).seq (dps_strs _), shaped_of (n := 1) (d := .str o) (okR.gs.1 o hom), shaped_of (n := 2) (lv_strs dok), ?_⟩
            rw [in_strs]
            repeat walk_at "rl"
            refine ⟨.str o, gt.map PyData.str, .str o, .tup (hT8.kt g2.kt).seq (dps_strs _), shaped_of (n := 1) (d := .str o) (okR.gs.1 o hom), shaped_of (n := 2) (lv_strs gok), ?_⟩
            rw [in_strs]
            refine r_ne rfl ?_
            have ec : (!decide (V.bl (id (decide (o ∈ d.st))) = V.bl (id (decide (o ∈ gt))))) = (decide (o ∈ d.st) != decide (o ∈ gt)) := by
              cases decide (o ∈ d.st) <;> cases decide (o ∈ gt) <;> rfl
            rw [ec]
            refine ⟨_, rfl, ?_⟩
            have hyl : ((ns.take i).filter fun o => decide (o ∈ d.st) != decide (o ∈ gt)).length ≤ 60 := by
              refine Nat.le_trans (List.length_filter_le _ _) ?_
              rw [List.length_take]
              omega
            refine r_if (fun cc => ?_) (fun cc => ?_)
            · repeat walk_at "rl"
              refine ⟨_, eD, by rw [List.length_map, sizeLine_eq]; omega, g2.updNew hD eD, ?_⟩
              rw [upd_same, filter_take hz, if_pos cc, List.map_append]
              rfl
            · exact ⟨g2, by rw [filter_take hz, cc, if_neg Bool.false_ne_true]; exact eD⟩
        rintro D H2 hD ⟨g2, eD⟩
        rw [List.length_map, List.take_length] at eD
        replace eD : H2 D = some (.lst ((diffS ns d.st gt).map V.str)) := eD
        have nDr := ne_row52 N.row hD
        replace N := N.to g2
        have hlD : (diffS ns d.st gt).length ≤ 10 := Nat.le_trans (List.length_filter_le _ _) n10
        have okD : ∀ y ∈ diffS ns d.st gt, PyData.strOk y = true := fun y hy => okR.gs.1 y (mem_diff.mp hy).1
        clear han nms hD g2 RA8 hT8 h0 e1 e2 e3 e4 hru hSd hDd hUd rr' S' D1 U1
        try simp only [List.set_cons_zero, List.set_cons_succ]
        repeat walk_at "rl"
        refine r_fpO (fun R0 z => ⟨_, rfl, z⟩) N.rol.1 ?_
        refine ⟨x, fo, d, some gt, rfl, N.rol, good, .inr ⟨T, gt, rfl, N.go, hT7.kt (hR7.kt N.g), by rw [TT.ens]; exact gsub, by rw [TT.ecd]; exact gleg⟩, fun l1 H3 nl1 g3 el1 => ?_⟩
        replace el1 : H3 l1 = some (.lst ((diffS ns d.st gt).map V.str)) := by
          have z := el1
          rw [TT.ens] at z
          exact z
        have eD3 := g3.lst eD
        replace N := N.to g3
        repeat walk_at "rl"
        refine ⟨.ref l1, .ref D, .list ((diffS ns d.st gt).map PyData.str), 3, rfl, rfl, .lst (.of el1) (dps_strs _), .lst (.of eD3) (dps_strs _), ?_, by decide, fun H4 g4 => ?_⟩
        · exact ln_oneL okD (by omega)
        have eD4 := g4.lst eD3
        replace N := N.to g4
        clear el1 nl1 g3 eD eD3 g4
        repeat walk_at "rl"
        refine r_taken N.row (by decide) (by decide) fun kk H5 hkk g5 hR5 => ?_
        have eD5 := g5.lst nDr eD4
        replace N := N.goR g5 hR5
        clear g5 hR5 eD4
        repeat walk_at "rl"
        obtain ⟨h0, rr', S', D1, U1, e1, e2, e3, e4, hru, hSd, hDd, hUd⟩ := id N.rol
        refine r_pstate (fun R0 z => ⟨_, rfl, z⟩) h0 ?_
        rw [e2]
        repeat walk_at "rl"
        refine ⟨by show 2 ≤ sizeLine; decide, fun pB nB => ?_⟩
        generalize hH : upd _ pB _ = HB; obtain ⟨kB, eB⟩ := new_facts hH nB; clear hH
        have gB : Go G L H5 HB := Go.same kB
        refine r_pair (.of eB) ?_
        simp only [List.set_cons_zero, List.set_cons_succ]
        replace N := N.to gB
        have eD6 := gB.lst eD5
        have hSd6 := hSd.kt gB.kt
        repeat walk_at "rl"
        have hclD : ∀ e ∈ d.cd, ClD d.ns e := by rw [TT.ens, TT.ecd]; exact hcl
        have gAt : ∀ H', Go G L HB H' → GoalAt H' fo.go d.ns d.cd (some gt) := fun H' g => .inr ⟨T, gt, rfl, N.go, (hT7.kt (hR7.kt N.g)).kt g.kt, by rw [TT.ens]; exact gsub, by rw [TT.ecd]; exact gleg⟩
        clear e1 e3 e4 hru hSd hDd hUd D1 U1 h0 eD5
        rcases id N.way with ⟨hsv, wl, ss, ewv, nw, ew⟩ | ⟨hns, him⟩
        · refine r_isB (n := "list") (m := "tuple") (b := false) (v := wv) (by rw [ewv]; exact Dp.kd (.lst (.of ew) (dps_strs _))) rfl (by decide) ?_
          refine ⟨false, rfl, ?_⟩
          rw [if_neg Bool.false_ne_true]
          walk_at "rl"
          walk_at "rl"
          have dleg : brokenFrom (d.st.map PyData.str) 0 cd = [] := by have z := good.leg; rw [TT.ecd] at z; exact z
          have wb : WB ns cd d.st gt := ⟨gn.nd, hcl, dsub, gsub, dleg, gleg⟩
          have sv : Solv ns cd d.st gt := hso.mpr hsv
          have wd := (way_done (diffS ns d.st gt) (waitL (prW ns cd d.st gt))).take kk
          have hwl := way_legal wb _ _ (Nat.le_refl _) wd
          have sv2 := solv_step wb sv kk
          have ewy : wayW d.ns d.cd d.st gt = wayW ns cd d.st gt := by rw [TT.ens, TT.ecd]
          obtain ⟨cs, hcs⟩ : ∃ cs, cs = (wayW ns cd d.st gt).take kk := ⟨_, rfl⟩
          have hck : cs.length ≤ 3 := by rw [hcs, List.length_take]; omega
          change wayE ns cd 0 d.st (((wayW ns cd d.st gt).take kk).map PyData.str) = none at hwl
          change Done _ _ ((wayW ns cd d.st gt).take kk) at wd
          rw [← hcs] at wd hwl sv2
          have csk : ∀ y ∈ cs, PyData.strOk y = true := fun y hy => okR.gs.1 y (mem_diff.mp (wd.sub y hy)).1
          have hM : madeE ns cd 0 d.st cs = none := made_way.mpr hwl
          obtain ⟨TC, ech⟩ := TT.chg hM
          have hl2 : (diffS ns (runS ns d.st cs) gt).length + cs.length = (diffS ns d.st gt).length := by
            rw [run_diff wd.nd wd.sub]
            exact filt_len wd.nd (gn.nd.sublist List.filter_sublist) wd.sub
          have hunC : (chgD d cs).un = [] := by
            show (if cs = [] then d.un else []) = []
            rw [hun]
            split <;> rfl
          refine r_tIfJ52 (fun v H' => ∃ (l2 : Addr) (f' : Ro), v = .ref l2 ∧ NowG K G L H7 H' ρ x T l lx (legalD ns cd) wv (Solv ns cd st gt) f' (chgD d cs) ∧ H' l2 = some (.lst (cs.map V.str)) ∧ H' D = some (.lst ((diffS ns d.st gt).map V.str)) ∧ Tp H' S' (d.st.map V.str)) (fun Q' z => ?_) ?_
          · have adv : ∀ H1, NowG K G L H7 H1 ρ x T l lx (legalD ns cd) wv (Solv ns cd st gt) fo d → H1 D = some (.lst ((diffS ns d.st gt).map V.str)) → Tp H1 S' (d.st.map V.str) → spAdv K G L [.ref x, .int (kk : Nat)] H1 Q' E0 := fun H1 N1 d1 s1 =>
              ⟨x, kk, fo, d, some gt, rfl, N1.rol, good, by rw [TT.ens]; exact gn.nd, hclD, .inr ⟨T, gt, rfl, N1.go, hT7.kt (hR7.kt N1.g), by rw [TT.ens]; exact gsub, by rw [TT.ecd]; exact gleg⟩, by omega, fun h => (by cases h), fun gs eg h => absurd (by rw [TT.ens, TT.ecd, ← Option.some.inj eg]; exact sv) h, fun gs eg _ l2 f' H2 g2 eg2 eo2 hRl el2 => by
                obtain rfl := Option.some.inj eg
                rw [ewy, ← hcs] at hRl el2
                exact z _ _ ⟨l2, f', rfl, N1.set hR7 nwx g2 hRl eg2, el2, N1.rol.1.lst g2 d1, N1.rol.1.tt g2 _ _ s1⟩⟩
            repeat walk_at "rl"
            refine r_ne rfl ?_
            refine ⟨_, rfl, ?_⟩
            cases hb : (!decide (V.int (kk : Nat) = V.int 1)) with
            | true =>
              rw [if_pos rfl, if_pos rfl]
              refine r_adv N.rol.1 (fun R z => ⟨_, rfl, z⟩) ?_
              repeat walk_at "rl"
              exact adv HB N eD6 hSd6
            | false =>
              have ek : kk = 1 := by
                have q1 : V.int (kk : Nat) = V.int 1 := by simpa using hb
                have q2 := V.int.inj q1
                omega
              rw [if_neg Bool.false_ne_true]
              repeat walk_at "rl"
              refine r_taken N.row (by decide) (by decide) fun k2 H3 hk2 g3 hR3 => ?_
              have N3 := N.goR g3 hR3
              have eD7 := g3.lst nDr eD6
              have hS7' := hSd6.kt (N.row.kt g3)
              repeat walk_at "rl"
              refine r_eq rfl ?_
              refine ⟨_, rfl, ?_⟩
              cases decide (V.int (k2 : Nat) = V.int 0) with
              | true =>
                rw [if_pos rfl]
                refine r_adv N3.rol.1 (fun R z => ⟨_, rfl, z⟩) ?_
                repeat walk_at "rl"
                exact adv H3 N3 eD7 hS7'
              | false =>
                rw [if_neg Bool.false_ne_true]
                refine r_adv N3.rol.1 (fun R z => ⟨_, rfl, z⟩) ?_
                repeat walk_at "rl"
                have z9 := adv H3 N3 eD7 hS7'
                rw [ek] at z9
                exact z9
          rintro v H2 ⟨l2, f', rfl, N2, el2, eD2, hS2⟩
          repeat walk_at "rl"
          have k72 := hR7.kt N2.g
          refine ⟨rr, S', T, ns, cd, d.st, gt, rfl, ⟨RA7.kt k72, okR, n10, wb, hS2, hT7.kt k72⟩, fun nS => absurd sv nS, fun _ wl2 H3 nw3 g3 el3 => ?_⟩
          repeat walk_at "rl"
          refine r_slL el3 fun cl HC kC eC => ?_
          replace eC : HC cl = some (.lst (cs.map V.str)) := by rw [eC, cut_toN, ← List.map_take, ← hcs]
          have g2C := g3.trans (Go.same (G := G) (L := L) kC)
          have lvc : lv 8 (.list (cs.map PyData.str)) = true := lv_lst fun e he => by
            obtain ⟨z, hz, rfl⟩ := List.mem_map.mp he
            exact lv_str (csk z hz)
          refine r_neI (D := .list (cs.map PyData.str)) (.lst (.of (g2C.lst el2)) (dps_strs _)) (.lst (.of eC) (dps_strs _)) lvc ?_
          replace N2 := N2.to g2C
          replace el2 := g2C.lst el2
          replace eD2 := g2C.lst eD2
          repeat walk_at "rl"
          refine r_lenL (.of eD2) ?_
          repeat walk_at "rl"
          refine r_fpO (fun R0 z => ⟨_, rfl, z⟩) N2.rol.1 ?_
          refine ⟨x, f', chgD d cs, some gt, rfl, N2.rol, TC.good BB, .inr ⟨T, gt, rfl, N2.go, hT7.kt (hR7.kt N2.g), by rw [TC.ens]; exact gsub, by rw [TC.ecd]; exact gleg⟩, fun l3 H4 nl3 g4 el3 => ?_⟩
          replace el3 : H4 l3 = some (.lst ((diffS ns (runS ns d.st cs) gt).map V.str)) := by
            have z := el3
            rw [TC.ens, ech] at z
            exact z
          repeat walk_at "rl"
          refine r_lenL (.of el3) ?_
          replace N2 := N2.to g4
          replace el2 := g4.lst el2
          repeat walk_at "rl"
          refine r_lenL (.of el2) ?_
          refine r_ne rfl ?_
          have e5 : V.int (((diffS ns d.st gt).map V.str).length - ((diffS ns (runS ns d.st cs) gt).map V.str).length) = V.int (cs.map V.str).length := by
            rw [List.length_map, List.length_map, List.length_map, ← hl2]
            congr 1
            omega
          refine ⟨false, by rw [e5, decide_eq_true rfl]; rfl, ?_⟩
          rw [if_neg Bool.false_ne_true]
          repeat walk_at "rl"
          exact ⟨f', chgD d cs, _, _, _, _, _, _, _, _, rfl, N2, TC, hunC, ⟨fun _ => hsv, fun _ => by rw [ech]; exact sv2⟩, by show (d.dn ++ cs).length ≤ _; rw [List.length_append]; omega⟩
        · refine r_isB (m := "tuple") (b := true) (Dp.kd him.dp) rfl (by decide) ?_
          refine ⟨true, rfl, ?_⟩
          rw [if_pos rfl]
          repeat walk_at "rl"
          refine r_give ?_
          refine r_lamV rfl AP hL N.tb fun f3 c3 H6 g6 la3 => ?_
          refine give_at la3 (lamS1_by (N := nLaw) (sc0 := defScope sLaw) (by decide +kernel)) (lamBind1 "_law_a" rfl fun _ _ _ _ _ _ _ _ => ⟨_, rfl, rfl⟩) _ (fun A outer s H E f c' hr2 => pe_advL AD hr2 (pv 7) (pa_cons (pv 11) pa_nil)) ?_
          refine r_tr5 ?_
          have gAt6 := gAt H6 g6
          replace N := N.to g6
          have hSd7 := hSd6.kt g6.kt
          refine r_adv N.rol.1 (fun R z => ⟨_, rfl, z⟩) ?_
          repeat walk_at "rl"
          have nsv : ¬ Solv d.ns d.cd d.st gt := by rw [TT.ens, TT.ecd]; exact fun h => hns (hso.mp h)
          refine ⟨x, kk, fo, d, some gt, rfl, N.rol, good, by rw [TT.ens]; exact gn.nd, hclD, gAt6, by omega, fun h => (by cases h), fun gs eg _ dd v H8 g8 hdd => ?_, fun gs eg h => absurd (Option.some.inj eg ▸ h) nsv⟩
          refine ⟨_, told_NW hdd, fun v9 H9 g9 him9 => ?_⟩
          have g69 := g8.trans g9
          repeat walk_at "rl"
          refine ⟨by show 2 ≤ sizeLine; decide, fun pA nA => ?_⟩
          generalize hH : upd _ pA _ = HA; obtain ⟨kA, eA⟩ := new_facts hH nA; clear hH
          have gA : Go G L H9 HA := Go.same kA
          refine r_neI (D := errNW) (him9.kt gA.kt).dp (.tup (.inl (.inl eA)) (.cons (.str _) (.cons (.str _) .nil))) (by decide +kernel) ?_
          replace N := N.to (g69.trans gA)
          have hSd8 := hSd7.kt (g69.trans gA).kt
          repeat walk_at "rl"
          refine r_pstate (fun R0 z => ⟨_, rfl, z⟩) N.rol.1 ?_
          rw [e2]
          repeat walk_at "rl"
          refine r_neI (D := .tuple (d.st.map PyData.str)) (.tup hSd8.seq (dps_strs _)) (.tup hSd8.seq (dps_strs _)) lvd ?_
          repeat walk_at "rl"
          exact ⟨fo, d, _, _, _, _, _, _, _, _, rfl, N, TT, hun, hso, by omega⟩
      · rintro σ H8 ⟨fo, d, x9, x10, x11, x12, x13, x14, x15, x16, rfl, N, TT, hun, hso, hlen⟩
        repeat walk_at "rl"
        refine r_c ⟨rfl, ?_⟩
        repeat walk_at "rl"
        refine r_fpO (fun R0 z => ⟨_, rfl, z⟩) N.rol.1 ?_
        obtain ⟨h0, rr', S', D', U', e1, e2, e3, e4, hru, hSd, hDd, hUd⟩ := id N.rol
        refine ⟨x, fo, D', d.dn, rfl, h0, e3, hDd, fun p7 n7 => ?_⟩
        clear h0 e1 e2 e3 e4 hru hSd hDd hUd rr' S' D' U'
        generalize hH : upd H8 p7 _ = H9
        obtain ⟨k9, e9⟩ := new_facts hH n7
        clear hH
        have N9 := N.to (Go.same (G := G) (L := L) k9)
        repeat walk_at "rl"
        have tz := (Trk.start BB).chg (made_way.mpr TT.wdn)
        have est : (chgD ⟨ns, cd, st, [], []⟩ d.dn).st = d.st := tz.2.trans TT.run.symm
        have goodz := tz.1.good BB
        have ens := tz.1.ens
        have ecd := tz.1.ecd
        clear tz
        have k9 := hR7.kt N9.g
        refine ⟨rfl, rfl, rr, S, p7, .ref T, ⟨ns, cd, st, [], []⟩, d.dn, some gt, rfl, RA7.kt k9, hS7.kt k9, ⟨okR, n10, BB.sub, BB.leg⟩, rfl, rfl, e9, fun z hz => BB.nok z (TT.memD z hz), by omega, .inr ⟨T, gt, rfl, rfl, hT7.kt k9, gsub, gleg⟩, fun D hD => (by rw [TT.wdn] at hD; cases hD), fun _ xz fz H10 nxz g10 egz eoz hA => ?_⟩
        generalize chgD ⟨ns, cd, st, [], []⟩ d.dn = dz at est goodz ens ecd hA
        have N10 := N9.to g10
        have good := TT.good BB
        have dsub : d.st.Sublist ns := by have z := good.sub; rw [TT.ens] at z; exact z
        have dok : ∀ y ∈ d.st, PyData.strOk y = true := fun y hy => okR.gs.1 y (dsub.subset hy)
        clear N9 N k9 e9 n7 g10 nxz eoz
        repeat walk_at "rl"
        have hT10 := hT7.kt (hR7.kt N10.g)
        refine r_ptarget (fun R0 z => ⟨_, rfl, z⟩) hA.1 ?_
        rw [egz]
        repeat walk_at "rl"
        refine r_neI (D := .tuple (gt.map PyData.str)) (.tup hT10.seq (dps_strs _)) (.tup hT10.seq (dps_strs _)) lvg ?_
        repeat walk_at "rl"
        obtain ⟨_, rr2, S2, D2, U2, i1, i2, i3, i4, _, iS, _, _⟩ := id hA
        refine r_pstate (fun R0 z => ⟨_, rfl, z⟩) hA.1 ?_
        rw [i2]
        rw [est] at iS
        repeat walk_at "rl"
        obtain ⟨_, rr3, S3, D3, U3, j1, j2, j3, j4, _, jS, _, _⟩ := id N10.rol
        refine r_pstate (fun R0 z => ⟨_, rfl, z⟩) N10.rol.1 ?_
        rw [j2]
        refine r_neI (D := .tuple (d.st.map PyData.str)) (.tup iS.seq (dps_strs _)) (.tup jS.seq (dps_strs _)) (lv_strs dok) ?_
        repeat walk_at "rl"
        refine r_fpO (fun R0 z => ⟨_, rfl, z⟩) hA.1 ?_
        refine ⟨xz, fz, dz, some gt, rfl, hA, goodz, .inr ⟨T, gt, rfl, egz, hT10, by rw [ens]; exact gsub, by rw [ecd]; exact gleg⟩, fun l4 H11 nl4 g11 el4 => ?_⟩
        replace el4 : H11 l4 = some (.lst ((diffS ns d.st gt).map V.str)) := by
          have z := el4
          rw [ens, est] at z
          exact z
        replace N10 := N10.to g11
        clear nl4
        repeat walk_at "rl"
        refine r_fpO (fun R0 z => ⟨_, rfl, z⟩) N10.rol.1 ?_
        refine ⟨x, fo, d, some gt, rfl, N10.rol, good, .inr ⟨T, gt, rfl, N10.go, hT10.kt g11.kt, by rw [TT.ens]; exact gsub, by rw [TT.ecd]; exact gleg⟩, fun l5 H12 nl5 g12 el5 => ?_⟩
        replace el5 : H12 l5 = some (.lst ((diffS ns d.st gt).map V.str)) := by
          have z := el5
          rw [TT.ens] at z
          exact z
        have el4' := g12.lst el4
        replace N10 := N10.to g12
        repeat walk_at "rl"
        refine ⟨.ref l4, .ref l5, .list ((diffS ns d.st gt).map PyData.str), 3, rfl, rfl, .lst (.of el4') (dps_strs _), .lst (.of el5) (dps_strs _), ?_, by decide, fun H13 g13 => ?_⟩
        · exact ln_oneL (fun y hy => okR.gs.1 y (mem_diff.mp hy).1) (by have : (diffS ns d.st gt).length ≤ ns.length := List.length_filter_le _ _; omega)
        replace N10 := N10.to g13
        clear el4 el4' el5 nl5 g11 g12 g13 hA hT10
        repeat walk_at "rl"
        have k13 := hR7.kt N10.g
        have RA13 := RA7.kt k13
        have hS13 := hS7.kt k13
        clear k13
        refine fun xf dx nx ndx hne2 => ?_
        have nx1 : (upd H13 dx (.own xf)) xf = none := by rw [upd_ne hne2.symm]; exact nx
        have g0 : Go G L H13 (upd (upd H13 dx (.own xf)) xf (.ins (cO K) dx [])) := (Go.new ndx).trans (Go.new nx1)
        refine ⟨xf, rr, S, .non, ⟨ns, cd, st, [], []⟩, rfl, ⟨dx, upd_same⟩, RA13.kt g0.kt, hS13.kt g0.kt, ⟨okR, n10, BB.sub, BB.leg⟩, rfl, rfl, .inl rfl, fun ff H14 g14 egf eof hF => ⟨rfl, ?_⟩⟩
        have gF := go_new nx (g0.toR.trans g14)
        replace N10 := N10.to gF
        clear g14 g0 nx1 nx ndx hne2 dx eof
        repeat walk_at "rl"
        refine r_fpO (fun R0 z => ⟨_, rfl, z⟩) hF.1 ?_
        refine ⟨xf, ff, ⟨ns, cd, st, [], []⟩, none, rfl, hF, ⟨okR, n10, BB.sub, BB.leg⟩, .inl ⟨rfl, egf⟩, fun l6 H15 nl6 g15 el6 => ?_⟩
        replace el6 : H15 l6 = some (.lst []) := el6
        replace hF := hF.go g15
        replace N10 := N10.to g15
        repeat walk_at "rl"
        refine ⟨by show 0 ≤ sizeLine; decide, fun pB nB => ?_⟩
        generalize hH : upd _ pB _ = HB; obtain ⟨kB, eB⟩ := new_facts hH nB; clear hH
        have gB : Go G L H15 HB := Go.same kB
        refine r_neI (D := .list []) (.lst (.of (kB _ _ el6)) .nil) (.lst (.of eB) .nil) rfl ?_
        replace hF := hF.go gB
        replace N10 := N10.to gB
        repeat walk_at "rl"
        refine r_give ?_
        refine r_lamV rfl AP hL N10.tb fun f3 c3 H16 g16 la3 => ?_
        refine give_at la3 (lamS1_by (N := nLaw) (sc0 := defScope sLaw) (by decide +kernel)) (lamBind1 "_law_b" rfl fun _ _ _ _ _ _ _ _ => ⟨_, rfl, rfl⟩) _ (fun A outer s H E f c' hr2 => pe_advL AD hr2 (pv 15) (pa_cons pe_int pa_nil)) ?_
        refine r_tr5 ?_
        replace hF := hF.go g16
        replace N10 := N10.to g16
        refine r_adv hF.1 (fun R z => ⟨_, rfl, z⟩) ?_
        repeat walk_at "rl"
        refine ⟨xf, 2, ff, ⟨ns, cd, st, [], []⟩, none, rfl, hF, ⟨okR, n10, BB.sub, BB.leg⟩, gn.nd, hcl, .inl ⟨rfl, egf⟩, Nat.zero_le _, fun _ H17 g17 => ⟨_, told_NG, fun v9 H18 g18 him9 => ?_⟩, fun gs eg => (by cases eg), fun gs eg => (by cases eg)⟩
        repeat walk_at "rl"
        refine ⟨by show 2 ≤ sizeLine; decide, fun pA nA => ?_⟩
        generalize hH : upd _ pA _ = HA; obtain ⟨kA, eA⟩ := new_facts hH nA; clear hH
        have gA : Go G L H18 HA := Go.same kA
        refine r_neI (D := errNG) (him9.kt gA.kt).dp (.tup (.inl (.inl eA)) (.cons (.str _) (.cons (.str _) .nil))) (by decide +kernel) ?_
        have g6A := (g17.trans g18).trans gA
        replace N10 := N10.to g6A
        have k19 := hR7.kt N10.g
        repeat walk_at "rl"
        refine ⟨ρ, rr, l, S, ns, cd, st, rfl, N10.row, N10.tb, nlr, ⟨RA7.kt k19, okR, hcl, gn.nd, n0, by omega, by omega, hnon, ⟨lx, N10.lg, N10.ls⟩, hS7.kt k19, BB.sub, BB.leg⟩, fun H20 g20 hR20 => ?_⟩
        replace N10 := N10.goR g20 hR20
        repeat walk_at "rl"
        exact ⟨_, _, _, _, _, _, _, _, _, _, _, _, _, _, _, rfl, N10.tb, N10.row⟩
    · rintro σ H' ⟨x2, x3, x4, x5, x6, x7, x8, x9, x10, x11, x12, x13, x14, x15, x16, rfl, ht2, hR2⟩
      repeat walk_at "rl"
      exact q H'
end
section
variable {K : PySem.W.Frag} {h : Heap}
theorem isB_ok {a b : Option Bool} (h : isB a b = true) : a = b := of_decide_eq_true h
theorem oexB_ok {C : Addr} (h : oexB K C = true) : OexC K C := by
  obtain ⟨h1, h⟩ := He.ba h
  obtain ⟨h2, h⟩ := He.ba h
  obtain ⟨h3, h⟩ := He.ba h
  obtain ⟨h4, h5⟩ := He.ba h
  refine ⟨?_, He.eqO_ok h2, isB_ok h3, of_decide_eq_true h4, h5⟩
  unfold oxB at h1
  split at h1
  · rename_i t dd cd sl ho
    split at h1
    · rename_i D bm k0 k1 k2 k3 n k5 hm hs
      obtain ⟨a1, h1⟩ := He.ba h1
      obtain ⟨a2, h1⟩ := He.ba h1
      obtain ⟨a3, h1⟩ := He.ba h1
      obtain ⟨a4, h1⟩ := He.ba h1
      obtain ⟨a5, a6⟩ := He.ba h1
      have e1 := of_decide_eq_true a1
      have e2 := of_decide_eq_true a2
      have e3 := of_decide_eq_true a3
      obtain ⟨nm, bs, mro, ns, qn, hd, sn, sub, ab, col, del⟩ := cd
      dsimp only at hm a4 a5
      have e4 : del = false := by
        cases del
        · rfl
        · cases a4
      subst hm e1 e2 e3 e4 a5
      have hsl : sl = #[k0, k1, k2, k3, some (.builtin "ValueError.__new__"), k5] := by
        obtain ⟨l⟩ := sl
        simp only at hs
        rw [hs]
      subst hsl
      exact ⟨nm, qn, ns, bs, bm, sn, sub, ab, col, dd, k0, k1, k2, k3, k5, ho, a6⟩
    · cases h1
  · cases h1
theorem ecB_ok {C : Addr} (h : ecB K C = true) : ExcC K C := by
  obtain ⟨h1, h⟩ := He.ba h
  obtain ⟨h2, h⟩ := He.ba h
  obtain ⟨h3, h⟩ := He.ba h
  obtain ⟨h4, h⟩ := He.ba h
  obtain ⟨h5, h⟩ := He.ba h
  obtain ⟨h6, h⟩ := He.ba h
  obtain ⟨h7, h8⟩ := He.ba h
  exact ⟨He.eqO_ok h1, He.eqO_ok h2, isB_ok h3, h4, He.eqO_ok h5, He.eqO_ok h6, isB_ok h7, isB_ok h8⟩
theorem prB_ok {m : Str} (h : prB K m = true) : PropOf K (cR K) m (He.ma K (cR K) m) (pgO K m) := by
  obtain ⟨h1, h⟩ := He.ba h
  obtain ⟨h2, h⟩ := He.ba h
  obtain ⟨h3, h4⟩ := He.ba h
  refine ⟨He.eqO_ok h1, He.eqO_ok h2, isB_ok h3, ?_⟩
  unfold pgO
  split at h4
  · rename_i g r e
    exact ⟨r, by rw [e]⟩
  · cases h4
theorem crB_ok {C : Addr} (h : crB K C = true) : ClX.CRead K C (.type "type") := by
  obtain ⟨h1, h2⟩ := He.ba h
  exact ⟨h1, He.eqO_ok h2⟩
theorem fvB_ok (h : fvB K = true) : PySem.W.findCls K (.ref (He.ga K "StepError")) (.type "type") "__init__" = some (.val (.builtin "ValueError.__init__")) := by
  unfold fvB at h
  split at h
  · rename_i n e
    rw [e, of_decide_eq_true h]
  · cases h
theorem obT_eq (s : PySem.W.SharedT) : obT s = hkF.obs s.abs := by
  have e : HandSHeadRun.getT s = s.abs.heap.get? := funext (HandSHeadRun.getT_eq s)
  unfold obT
  rw [e]
  rfl
end
section
variable {K : PySem.W.Frag} {h : Heap} {mg : Str → Option Value}
theorem SaysF.fa (c : SaysF h K) {f : He.Fa} (hf : f ∈ faL) : f.ok K = true := by
  obtain ⟨i, hi, e⟩ := List.mem_iff_getElem.mp hf
  exact c.a.fact i (f := f) (by rw [List.getElem?_eq_getElem hi, e])
theorem SaysF.glo (c : SaysF h K) (X : K.In h) (G : h.Ns mainGlobals mg) : ∀ x ∈ gloN, mg x = some (.ref (He.ga K x)) := fun x hx =>
  He.glo_ok X G (c.fa (List.mem_append.mpr (.inl (List.mem_append.mpr (.inr (List.mem_map_of_mem hx))))))
theorem SaysF.free (c : SaysF h K) (X : K.In h) (G : h.Ns mainGlobals mg) : ∀ x ∈ freeN, mg x = none := fun x hx =>
  He.free_ok X G (c.fa (List.mem_append.mpr (.inr (List.mem_map_of_mem hx))))
theorem SaysF.ex (c : SaysF h K) (i : Nat) {b : Bool} (e : (exL K)[i]? = some b := by rfl) : b = true := List.all_eq_true.mp c.more b (List.mem_of_getElem? e)
theorem SaysF.dt (c : SaysF h K) (i : Nat) {x : Str} {j : Nat} (e : fnL[i]? = some (dT x j) := by rfl) : ∃ fd, L2.FunD K x x (defArgs (top j)) (defBody (top j)) (defScope (top j)) [] [] (He.ga K x) fd := c.a.def_ i e
theorem SaysF.dr (c : SaysF h K) (i : Nat) {m q : Str} {j : Nat} (e : fnL[i]? = some (dR m q j) := by rfl) : ∃ fd, L2.FunD K m q (defArgs (sM j)) (defBody (sM j)) (defScope (sM j)) [] [] (He.ma K (cR K) m) fd := c.a.def_ i e
theorem SaysF.dg (c : SaysF h K) (i : Nat) {m q : Str} {j : Nat} (e : fnL[i]? = some (dG m q j) := by rfl) : ∃ fd, L2.FunD K m q (defArgs (sM j)) (defBody (sM j)) (defScope (sM j)) [] [] (pgO K m) fd := c.a.def_ i e
theorem SaysF.de (c : SaysF h K) (i : Nat) {C q : Str} {j : Nat} (e : fnL[i]? = some (dE C q j) := by rfl) : ∃ fd, L2.FunD K "__init__" q (defArgs (sErr j)) (defBody (sErr j)) (defScope (sErr j)) [] [] (He.ma K (He.ga K C) "__init__") fd := c.a.def_ i e
theorem code_at {x : Str} {st : Stmt} {fd : FuncData} (F : L2.FunD K x x (defArgs st) (defBody st) (defScope st) [] [] (He.ga K x) fd) : fd.code = .ref (He.cT K (x, none)).1 := by
  obtain ⟨oc, od, dV, kV, doc, pm, an, cdv, ct, osl, e, l, hc, _⟩ := F.ex
  obtain ⟨cc, ec⟩ := He.codeIn_ref hc
  subst e
  have e2 : cdv = .ref cc := ec
  subst e2
  have z : He.codeOf K (x, none) = cc := He.codeOf_eq (p := (x, none)) l rfl
  show Value.ref cc = .ref (He.codeOf K (x, none))
  rw [z]
theorem initB_ok {K : PySem.W.Frag} {x : Str} (h : initB K x = true) : OexC K (He.ga K x) ∧ PySem.W.findIn K (.ref (He.ga K x)) "__init__" = some (some (.ref (He.ma K (He.ga K x) "__init__"))) ∧ PySem.W.typeIn K (.ref (He.ma K (He.ga K x) "__init__")) = some (.type "function") := by
  obtain ⟨h1, h⟩ := He.ba h
  obtain ⟨h2, h3⟩ := He.ba h
  exact ⟨oexB_ok h1, He.eqO_ok h2, of_decide_eq_true h3⟩
theorem tab0 {H : Hp} {P : Addr} (e : H P = some (.tbl #[])) : GxR.TabG H P := ⟨#[], e, trivial⟩
theorem tabS0 {H : Hp} {P : Addr} {q : Str} (e : H P = some (.tbl #[])) : LamX.TabS H P q := ⟨#[], e, trivial, fun _ _ z => by cases z⟩
theorem SaysF.do_ {K : PySem.W.Frag} {h : Heap} (c : SaysF h K) (i : Nat) {m q : Str} {j : Nat} (e : fnL[i]? = some (dO m q j) := by rfl) : ∃ fd, L2.FunD K m q (defArgs (sO j)) (defBody (sO j)) (defScope (sO j)) [] [] (He.ma K (cO K) m) fd := c.a.def_ i e
theorem SaysF.dod_ {K : PySem.W.Frag} {h : Heap} (c : SaysF h K) (i : Nat) {m q : Str} {j : Nat} (e : fnL[i]? = some (dOD m q j) := by rfl) : ∃ fd, L2.FunD K m q (defArgs (sO j)) (defBody (sO j)) (defScope (sO j)) [.int 1] [] (He.ma K (cO K) m) fd := c.a.def_ i e
theorem SaysF.dog_ {K : PySem.W.Frag} {h : Heap} (c : SaysF h K) (i : Nat) {m q : Str} {j : Nat} (e : fnL[i]? = some (dOG m q j) := by rfl) : ∃ fd, L2.FunD K m q (defArgs (sO j)) (defBody (sO j)) (defScope (sO j)) [] [] (pgC K (cO K) m) fd := c.a.def_ i e
theorem SaysF.doi_ {K : PySem.W.Frag} {h : Heap} (c : SaysF h K) (i : Nat) {m q : Str} {j : Nat} (e : fnL[i]? = some (dOI m q j) := by rfl) : ∃ fd, L2.FunD K m q (defArgs (sO j)) (defBody (sO j)) (defScope (sO j)) [] [("goal", .non)] (He.ma K (cO K) m) fd := c.a.def_ i e
theorem SaysF.doc_ {K : PySem.W.Frag} {h : Heap} (c : SaysF h K) (i : Nat) {m q : Str} {j : Nat} (e : fnL[i]? = some (dOC m q j) := by rfl) : ∃ fd, L2.FunD K m q (defArgs (sO j)) (defBody (sO j)) (defScope (sO j)) [] [("goal", .non)] (He5.wf K (cO K) "classmethod" m) fd := c.a.def_ i e
theorem erB_ok {K : PySem.W.Frag} {x : Str} (h : erB K x = true) : PySem.W.excIn K (He.ga K x) He.veBase "ValueError.__new__" = true ∧ PySem.W.keepIn K (.ref (He.ga K x)) = true ∧ PySem.W.subIn K (.ref (He.ga K x)) (.type "BaseException") = some true ∧ PySem.W.typeIn K (.ref (He.ga K x)) = some (.type "type") := by
  obtain ⟨h1, h⟩ := He.ba h
  obtain ⟨h2, h⟩ := He.ba h
  obtain ⟨h3, h4⟩ := He.ba h
  exact ⟨h1, h2, isB_ok h3, of_decide_eq_true h4⟩
theorem facts (w : World) (X : K.In h) (G : h.Ns mainGlobals mg) {f : Addr} (hfa : mg "law" = some (.ref f)) (c : SaysF h K) : LamX.LawAtS PySem.Challenge.rw_flagsteps_k52_rollouts_towards_goals w K CX0 22 63 "_law_script" mg f h := by
  have gg := c.glo X G
  have zz := c.free X G
  obtain ⟨t8, g8⟩ := He.int_ok X G (c.a.fact 0 (f := .int "MOST_LETTERS" 8) rfl)
  obtain ⟨t10, g10⟩ := He.int_ok X G (c.a.fact 1 (f := .int "MOST_NAMES" 10) rfl)
  obtain ⟨t40, g40⟩ := He.int_ok X G (c.a.fact 2 (f := .int "MOST_CLAUSES" 40) rfl)
  obtain ⟨tz, gL⟩ := He.str_ok X G (c.a.fact 3 (f := .str "LETTERS" letters) rfl)
  have kCls := He.cls_ok (c.a.fact 4 (f := .cls "Rules") rfl)
  have kN1 := He.noat_ok (c.a.fact 5 (f := .noat "Rules" "_names") rfl)
  have kN2 := He.noat_ok (c.a.fact 6 (f := .noat "Rules" "_clauses") rfl)
  have kMk := He.mkr_ok (c.a.fact 7 (f := .mkr "Rules") rfl)
  have mBR := He.meth_ok (c.a.fact 8 (f := .meth "Rules" "broken_clauses") rfl)
  have kClsO := He.cls_ok (c.a.fact 9 (f := .cls "Rollout") rfl)
  have kMkO := He.mkr_ok (c.a.fact 10 (f := .mkr "Rollout") rfl)
  have kNo0 := He.noat_ok (c.a.fact 11 (f := .noat "Rollout" "_rules") rfl)
  have kNo1 := He.noat_ok (c.a.fact 12 (f := .noat "Rollout" "_state") rfl)
  have kNo2 := He.noat_ok (c.a.fact 13 (f := .noat "Rollout" "_goal") rfl)
  have kNo3 := He.noat_ok (c.a.fact 14 (f := .noat "Rollout" "_done") rfl)
  have kNo4 := He.noat_ok (c.a.fact 15 (f := .noat "Rollout" "_undone") rfl)
  have kNo5 := He.noat_ok (c.a.fact 16 (f := .noat "Rollout" "_is_open") rfl)
  have kNo6 := He.noat_ok (c.a.fact 17 (f := .noat "Rollout" "_kept_state") rfl)
  have kNo7 := He.noat_ok (c.a.fact 18 (f := .noat "Rollout" "_kept_done") rfl)
  have kNo8 := He.noat_ok (c.a.fact 19 (f := .noat "Rollout" "_kept_undone") rfl)
  have mCH := He.meth_ok (c.a.fact 20 (f := .meth "Rollout" "change") rfl)
  have mAD := He.meth_ok (c.a.fact 21 (f := .meth "Rollout" "advance") rfl)
  obtain ⟨dxNAM, FxNAM⟩ := c.dt 0 (x := "is_name") (j := 33)
  obtain ⟨dxCLA, FxCLA⟩ := c.dt 1 (x := "is_clause") (j := 34)
  obtain ⟨dxFUL, FxFUL⟩ := c.dt 2 (x := "fulfils") (j := 51)
  obtain ⟨dxAM, FxAM⟩ := c.dt 3 (x := "broken_among") (j := 52)
  obtain ⟨dxER, FxER⟩ := c.de 4 (C := "InvalidRules") (q := "InvalidRules.__init__") (j := 3)
  obtain ⟨dxES, FxES⟩ := c.de 5 (C := "InvalidState") (q := "InvalidState.__init__") (j := 7)
  obtain ⟨dxEI, FxEI⟩ := c.de 6 (C := "IllegalState") (q := "IllegalState.__init__") (j := 8)
  obtain ⟨dxEU, FxEU⟩ := c.de 7 (C := "UnknownSwitch") (q := "UnknownSwitch.__init__") (j := 6)
  obtain ⟨dxET, FxET⟩ := c.de 8 (C := "IllegalStep") (q := "IllegalStep.__init__") (j := 9)
  obtain ⟨dxCHN, FxCHN⟩ := c.dt 9 (x := "check_names") (j := 35)
  obtain ⟨dxCHC, FxCHC⟩ := c.dt 10 (x := "check_clauses") (j := 36)
  obtain ⟨dxCHS, FxCHS⟩ := c.dt 11 (x := "check_state") (j := 37)
  obtain ⟨dxMK, FxMK⟩ := c.dr 12 (m := "__init__") (q := "Rules.__init__") (j := 0)
  obtain ⟨dxBR, FxBR⟩ := c.dr 13 (m := "broken_clauses") (q := "Rules.broken_clauses") (j := 6)
  obtain ⟨dxFN, FxFN⟩ := c.dg 14 (m := "names") (q := "Rules.names") (j := 1)
  obtain ⟨dxFCL, FxFCL⟩ := c.dg 15 (m := "clauses") (q := "Rules.clauses") (j := 2)
  obtain ⟨dxCHL, FxCHL⟩ := c.dt 16 (x := "check_legal") (j := 24)
  obtain ⟨dxDF, FxDF⟩ := c.dt 17 (x := "differing") (j := 25)
  obtain ⟨dxTO, FxTO⟩ := c.dt 18 (x := "_law_told") (j := 59)
  obtain ⟨dxCSW, FxCSW⟩ := c.dt 19 (x := "check_switch") (j := 38)
  obtain ⟨dxSW, FxSW⟩ := c.dt 20 (x := "switched") (j := 26)
  obtain ⟨dxDI, FxDI⟩ := c.dt 21 (x := "_law_dice") (j := 55)
  obtain ⟨dxNX, FxNX⟩ := c.dt 22 (x := "_law_next") (j := 56)
  obtain ⟨dxLK, FxLK⟩ := c.dt 23 (x := "_law_like") (j := 57)
  obtain ⟨dxPK, FxPK⟩ := c.dt 24 (x := "_law_pick") (j := 58)
  obtain ⟨dxNM, FxNM⟩ := c.dt 25 (x := "_law_names") (j := 60)
  obtain ⟨dxCL, FxCL⟩ := c.dt 26 (x := "_law_clause") (j := 61)
  obtain ⟨dxKE, FxKE⟩ := c.dt 27 (x := "_law_keeps") (j := 62)
  obtain ⟨dxLAL, FxLAL⟩ := c.dt 28 (x := "_law_all") (j := 63)
  obtain ⟨dxLG, FxLG⟩ := c.dt 29 (x := "_law_legal") (j := 64)
  obtain ⟨dxRU, FxRU⟩ := c.dt 30 (x := "_law_rules") (j := 65)
  obtain ⟨dxBK5, FxBK5⟩ := c.dt 31 (x := "_law_broken") (j := 66)
  obtain ⟨dxOW, FxOW⟩ := c.dt 32 (x := "states_on_way") (j := 47)
  obtain ⟨dxMO, FxMO⟩ := c.doi_ 33 (m := "__init__") (q := "Rollout.__init__") (j := 0)
  obtain ⟨dxCH, FxCH⟩ := c.do_ 34 (m := "change") (q := "Rollout.change") (j := 5)
  obtain ⟨dxPST, FxPST⟩ := c.dog_ 35 (m := "state") (q := "Rollout.state") (j := 1)
  obtain ⟨dxPTA, FxPTA⟩ := c.dog_ 36 (m := "target") (q := "Rollout.target") (j := 2)
  obtain ⟨dxPHI, FxPHI⟩ := c.dog_ 37 (m := "history") (q := "Rollout.history") (j := 3)
  obtain ⟨dxIO, FxIO⟩ := c.dt 38 (x := "_in_order") (j := 40)
  obtain ⟨dxOP, FxOP⟩ := c.dt 39 (x := "order_pairs") (j := 41)
  obtain ⟨dxWT, FxWT⟩ := c.dt 40 (x := "waiting") (j := 42)
  obtain ⟨dxPO, FxPO⟩ := c.dt 41 (x := "possible_changes") (j := 43)
  obtain ⟨dxLO, FxLO⟩ := c.dt 42 (x := "_longest") (j := 44)
  obtain ⟨dxCIR, FxCIR⟩ := c.dt 43 (x := "_circle") (j := 45)
  obtain ⟨dxENW, FxENW⟩ := c.de 44 (C := "NoWay") (q := "NoWay.__init__") (j := 10)
  obtain ⟨dxFW, FxFW⟩ := c.dt 45 (x := "find_way") (j := 46)
  obtain ⟨dxPREG, FxPREG⟩ := c.dog_ 46 (m := "remaining") (q := "Rollout.remaining") (j := 4)
  obtain ⟨dxAD, FxAD⟩ := c.dod_ 47 (m := "advance") (q := "Rollout.advance") (j := 7)
  obtain ⟨dxRSE, FxRSE⟩ := c.doc_ 48 (m := "resumed") (q := "Rollout.resumed") (j := 10)
  obtain ⟨dxLER, FxLER⟩ := c.dt 49 (x := "_law_errors") (j := 67)
  obtain ⟨dxLAW, FxLAW⟩ := c.dt 50 (x := "law") (j := 68)
  have FxMOE := FxMO
  have FxRSG := FxRSE
  obtain ⟨oER, iER, tER⟩ := initB_ok (c.ex 0)
  obtain ⟨oES, iES, tES⟩ := initB_ok (c.ex 1)
  obtain ⟨oEI, iEI, tEI⟩ := initB_ok (c.ex 2)
  obtain ⟨oEU, iEU, tEU⟩ := initB_ok (c.ex 3)
  obtain ⟨oET, iET, tET⟩ := initB_ok (c.ex 4)
  obtain ⟨oENW, iENW, tENW⟩ := initB_ok (c.ex 5)
  have cS := crB_ok (c.ex 6)
  have fv := fvB_ok (c.ex 7)
  have tec := List.all_eq_true.mp (c.ex 8)
  have txm := List.all_eq_true.mp (c.ex 9)
  have tkv := List.all_eq_true.mp (c.ex 10)
  have tkt := List.all_eq_true.mp (c.ex 11)
  have txf := List.all_eq_true.mp (c.ex 12)
  have tnf := List.all_eq_true.mp (c.ex 13)
  obtain ⟨ENG1, ENG2, ENG3, ENG4⟩ := erB_ok (c.ex 14)
  have e14 := List.all_eq_true.mp (c.ex 15)
  have bCH := bmB_ok mCH (c.ex 16)
  have pPST := prC_ok (c.ex 17)
  have pPTA := prC_ok (c.ex 18)
  have pPHI := prC_ok (c.ex 19)
  have pPREG := prC_ok (c.ex 20)
  have wRS := c.ex 24
  have fRS := c.ex 25
  have cRS := crB_ok (c.ex 26)
  have wRS := c.ex 24
  have fRS := c.ex 25
  have cRS := crB_ok (c.ex 26)
  have neO : cR K ≠ cO K := of_decide_eq_true (c.ex 27)
  have NST : NSt K := ⟨of_decide_eq_true (c.ex 28), of_decide_eq_true (c.ex 29)⟩
  have pFN := prB_ok (c.ex 30)
  have pFCL := prB_ok (c.ex 31)
  have hW := He.tupB_ok (c.ex 32)
  have nd : (tbL K).Nodup := of_decide_eq_true (c.ex 33)
  have nf : ∀ p ∈ fldH, PySem.W.findIn K (.ref (He.ga K p.1)) p.2 = some none := fun p hp => He.eqO_ok (e14 p hp)
  have hf : f = He.ga K "law" := by
    have z := gg "law" (by decide +kernel)
    rw [hfa] at z
    injection z with z
    injection z
  subst hf
  refine ⟨dxLAW, tfL.map (He.cT K), spLaw K [(He.cT K ("is_name", none)).2] [((He.cT K ("law", none)).2, lamQ "law"), ((He.cT K ("_law_errors", none)).2, lamQ "_law_errors")], fun p hp => ?_, fun p hp => ?_, fun p hp => ?_, fun s u => ?_, fun H a ns hl _ ht hS => ?_, fun base Xb Gb TB => ?_⟩
  · obtain ⟨q, hq, e⟩ := List.mem_map.mp hp
    rw [← e]
    exact c.empty q hq
  · obtain ⟨q, hq, e⟩ := List.mem_map.mp hp
    rw [← e]
    exact c.out q hq
  · obtain ⟨q, hq, e⟩ := List.mem_map.mp hp
    rw [← e]
    exact PySem.W.codeHd_of_K X (c.hd q hq)
  · exact FxLAW.bindsA (ps := ["_law_script"]) (fun _ _ _ _ _ _ us hl => match us, hl with | [_], _ => rfl) s [u] rfl
  · have tt : ∀ x, (x, none) ∈ tfL → H (He.cT K (x, none)).2 = some (.tbl #[]) := fun x hx => ht _ (List.mem_map_of_mem hx)
    refine ⟨a, ns, rfl, hl, hS, ⟨fun p hp => ?_, fun p hp => ?_⟩, fun _ => rfl⟩
    · rw [List.mem_singleton.mp hp]
      exact tab0 (tt _ (by decide +kernel))
    · simp only [List.mem_cons, List.not_mem_nil, or_false] at hp
      rcases hp with rfl | rfl
      · exact tabS0 (tt "law" (by decide +kernel))
      · exact tabS0 (tt "_law_errors" (by decide +kernel))
  · have tb : ∀ x, (x, none) ∈ tfL → LamX.TabB base mg (He.cT K (x, none)).1 (He.cT K (x, none)).2 := fun x hx => TB _ (List.mem_map_of_mem hx)
    have tNam := tb "is_name" (by decide +kernel)
    have tLaw := tb "law" (by decide +kernel)
    have tLER := tb "_law_errors" (by decide +kernel)
    have AP : Apart [(He.cT K ("is_name", none)).2] [((He.cT K ("law", none)).2, lamQ "law"), ((He.cT K ("_law_errors", none)).2, lamQ "_law_errors")] := apartL nd
    have cNam := code_at FxNAM
    have cLaw := code_at FxLAW
    have cLER := code_at FxLER
    generalize hG : [(He.cT K ("is_name", none)).2] = GG at AP ⊢
    have hPN : (He.cT K ("is_name", none)).2 ∈ GG := by rw [← hG]; exact List.mem_singleton_self _
    generalize hLL : [((He.cT K ("law", none)).2, lamQ "law"), ((He.cT K ("_law_errors", none)).2, lamQ "_law_errors")] = LL at AP ⊢
    have hP3 : ((He.cT K ("law", none)).2, lamQ "law") ∈ LL := by rw [← hLL]; exact List.mem_cons_self
    have hPLER : ((He.cT K ("_law_errors", none)).2, lamQ "_law_errors") ∈ LL := by rw [← hLL]; exact (List.mem_cons_of_mem _ List.mem_cons_self)
    clear hG hLL TB tb
    have zVE := zz "ValueError" (by decide +kernel)
    have zA := zz "all" (by decide +kernel)
    have zB := zz "bool" (by decide +kernel)
    have zE := zz "enumerate" (by decide +kernel)
    have zi := zz "int" (by decide +kernel)
    have zI := zz "isinstance" (by decide +kernel)
    have zL := zz "len" (by decide +kernel)
    have zl := zz "list" (by decide +kernel)
    have zX := zz "max" (by decide +kernel)
    have zR := zz "range" (by decide +kernel)
    have zV := zz "reversed" (by decide +kernel)
    have zS := zz "sorted" (by decide +kernel)
    have zs := zz "str" (by decide +kernel)
    have zT := zz "tuple" (by decide +kernel)
    have BC : BaseC K mg (He.ga K "StepError") := ⟨gg _ (by decide +kernel), cS, fv⟩
    have ENG : Er0 K mg "NoGoal" := ⟨ENG1, gg _ (by decide +kernel), ENG2, ENG3, ENG4⟩
    have NAM : Fd CX0 PG0 w K mg base "is_name" 1 (spIsName K GG LL) := ⟨_, _, _, gg _ (by decide +kernel), FxNAM.kp, ok_isName (He5.fun_of FxNAM) cNam ⟨tNam.code, tNam.bm, tNam.gP⟩ hPN AP zI zs zL zA gL g8, FxNAM.bindsN fun _ _ _ _ _ _ us hl => match us, hl with | [_], _ => rfl⟩
    have CLA : Fd CX0 PG0 w K mg base "is_clause" 1 (spIsClause K) := ⟨_, _, _, gg _ (by decide +kernel), FxCLA.kp, ok_isClause (He5.fun_of FxCLA) zI zT zL (gg "WORDS" (by decide +kernel)) hW, FxCLA.bindsN fun _ _ _ _ _ _ us hl => match us, hl with | [_, _], _ => rfl⟩
    have FUL : Fd CX0 PG0 w K mg base "fulfils" 1 (spFul K) := ⟨_, _, _, gg _ (by decide +kernel), FxFUL.kp, ok_fulfils (He5.fun_of FxFUL), FxFUL.bindsN fun _ _ _ _ _ _ us hl => match us, hl with | [_, _], _ => rfl⟩
    have AM : Fd CX0 PG0 w K mg base "broken_among" 2 (spAmong K GG LL) := ⟨_, _, _, gg _ (by decide +kernel), FxAM.kp, ok_among (He5.fun_of FxAM) zE FUL, FxAM.bindsN fun _ _ _ _ _ _ us hl => match us, hl with | [_, _], _ => rfl⟩
    have ER : Err PG0 w K mg base "InvalidRules" (spIR K (He.ga K "InvalidRules")) := ⟨oER, gg _ (by decide +kernel), _, _, _, iER, tER, ok_IR (He5.fun_of FxER) BC oER (nf ("InvalidRules", "part") (by decide +kernel)) (nf ("InvalidRules", "index") (by decide +kernel)), FxER.bindsN fun _ _ _ _ _ _ us hl => match us, hl with | [_, _, _], _ => rfl⟩
    have ES : Err PG0 w K mg base "InvalidState" (spIS K (He.ga K "InvalidState")) := ⟨oES, gg _ (by decide +kernel), _, _, _, iES, tES, ok_IS (He5.fun_of FxES) BC oES (nf ("InvalidState", "index") (by decide +kernel)), FxES.bindsN fun _ _ _ _ _ _ us hl => match us, hl with | [_, _], _ => rfl⟩
    have EI : Err PG0 w K mg base "IllegalState" (spIS K (He.ga K "IllegalState")) := ⟨oEI, gg _ (by decide +kernel), _, _, _, iEI, tEI, ok_IlS (He5.fun_of FxEI) BC oEI (nf ("IllegalState", "index") (by decide +kernel)), FxEI.bindsN fun _ _ _ _ _ _ us hl => match us, hl with | [_, _], _ => rfl⟩
    have EU : Err PG0 w K mg base "UnknownSwitch" (spUS K (He.ga K "UnknownSwitch")) := ⟨oEU, gg _ (by decide +kernel), _, _, _, iEU, tEU, ok_US (He5.fun_of FxEU) BC oEU (nf ("UnknownSwitch", "name") (by decide +kernel)), FxEU.bindsN fun _ _ _ _ _ _ us hl => match us, hl with | [_, _], _ => rfl⟩
    have ET : Err PG0 w K mg base "IllegalStep" (spST K (He.ga K "IllegalStep")) := ⟨oET, gg _ (by decide +kernel), _, _, _, iET, tET, ok_ST (He5.fun_of FxET) BC oET (nf ("IllegalStep", "index") (by decide +kernel)) (nf ("IllegalStep", "clause") (by decide +kernel)), FxET.bindsN fun _ _ _ _ _ _ us hl => match us, hl with | [_, _, _], _ => rfl⟩
    have CHN : Fd (L2.CX PG0 w) PG0 w K mg base "check_names" 3 (spChkNames K GG LL) := ⟨_, _, _, gg _ (by decide +kernel), FxCHN.kp, ok_chkNames (He5.fun_of FxCHN) zI zT zL zE g10 ER NAM, FxCHN.bindsN fun _ _ _ _ _ _ us hl => match us, hl with | [_], _ => rfl⟩
    have CHC : Fd (L2.CX PG0 w) PG0 w K mg base "check_clauses" 3 (spChkClauses K GG LL) := ⟨_, _, _, gg _ (by decide +kernel), FxCHC.kp, ok_chkClauses (He5.fun_of FxCHC) zI zT zE g40 ER CLA, FxCHC.bindsN fun _ _ _ _ _ _ us hl => match us, hl with | [_, _], _ => rfl⟩
    have CHS : Fd (L2.CX PG0 w) PG0 w K mg base "check_state" 3 (spChkState K GG LL) := ⟨_, _, _, gg _ (by decide +kernel), FxCHS.kp, ok_chkState (He5.fun_of FxCHS) zI zT zE ES, FxCHS.bindsN fun _ _ _ _ _ _ us hl => match us, hl with | [_, _], _ => rfl⟩
    have RC : RulC K mg := ⟨kCls, kN1, kN2, gg _ (by decide +kernel)⟩
    have MK : Mkr PG0 w K mg base GG LL := ⟨RC, _, _, _, kMk, ok_init (He5.fun_of FxMK) RC CHN CHC, FxMK.bindsN fun _ _ _ _ _ _ us hl => match us, hl with | [_, _, _], _ => rfl⟩
    have BR : Fm PG0 w K mg base "broken_clauses" 4 (spBroken K GG LL) := ⟨kCls, _, _, _, mBR, ok_broken (He5.fun_of FxBR) RC CHS AM, FxBR.bindsN fun _ _ _ _ _ _ us hl => match us, hl with | [_, _], _ => rfl⟩
    have FN : Fp PG0 w K mg base "names" "_names" := ⟨kCls, _, _, _, pFN, ok_names (He5.fun_of FxFN) RC, FxFN.bindsN fun _ _ _ _ _ _ us hl => match us, hl with | [_], _ => rfl⟩
    have FCL : Fp PG0 w K mg base "clauses" "_clauses" := ⟨kCls, _, _, _, pFCL, ok_clauses (He5.fun_of FxFCL) RC, FxFCL.bindsN fun _ _ _ _ _ _ us hl => match us, hl with | [_], _ => rfl⟩
    have CHL : Fd (L2.CX PG0 w) PG0 w K mg base "check_legal" 5 (spChkLegal K GG LL) := ⟨_, _, _, gg _ (by decide +kernel), FxCHL.kp, ok_chkLegal (He5.fun_of FxCHL) BR EI, FxCHL.bindsN fun _ _ _ _ _ _ us hl => match us, hl with | [_, _], _ => rfl⟩
    have DF : Fd CX0 PG0 w K mg base "differing" 1 (spDiffering K GG LL) := ⟨_, _, _, gg _ (by decide +kernel), FxDF.kp, ok_differing (He5.fun_of FxDF), FxDF.bindsN fun _ _ _ _ _ _ us hl => match us, hl with | [_, _, _], _ => rfl⟩
    have kg5 : ∀ x ∈ kinds5, x ∈ gloN := by decide +kernel
    have TZ0 : Rz5 K mg := ⟨zI, zVE, gg _ (by decide +kernel), fun x hx => gg x (kg5 x hx), fun x hx => ecB_ok (tec x hx), fun x hx => isB_ok (txm x hx), fun x hx => isB_ok (tkv x hx), fun x hx y hy => isB_ok (List.all_eq_true.mp (tkt x hx) y hy), fun x hx hne => xfB_ok (by have z := txf x hx; rw [decide_eq_false hne, Bool.false_or] at z; exact z), fun x hx f hf => He.eqO_ok (List.all_eq_true.mp (tnf x hx) f hf)⟩
    have TO : TzD K mg := ⟨TZ0, _, _, (He5.fun_of FxTO), gg _ (by decide +kernel), FxTO.bindsN fun _ _ _ _ _ _ us hl => match us, hl with | [_], _ => rfl⟩
    have CSW : Fd (L2.CX PG0 w) PG0 w K mg base "check_switch" 3 (spChkSwitch K GG LL) := ⟨_, _, _, gg _ (by decide +kernel), FxCSW.kp, ok_chkSwitch (He5.fun_of FxCSW) EU, FxCSW.bindsN fun _ _ _ _ _ _ us hl => match us, hl with | [_, _], _ => rfl⟩
    have SW : Fd CX0 PG0 w K mg base "switched" 1 (spSwitched K GG LL) := ⟨_, _, _, gg _ (by decide +kernel), FxSW.kp, ok_switched (He5.fun_of FxSW) zT, FxSW.bindsN fun _ _ _ _ _ _ us hl => match us, hl with | [_, _, _], _ => rfl⟩
    have DI : Fd CX0 PG0 w K mg base "_law_dice" 1 (spDice K GG LL) := ⟨_, _, _, gg _ (by decide +kernel), FxDI.kp, ok_dice (He5.fun_of FxDI) zi zL, FxDI.bindsN fun _ _ _ _ _ _ us hl => match us, hl with | [_], _ => rfl⟩
    have NX : Fd CX0 PG0 w K mg base "_law_next" 1 (spTaken K GG LL) := ⟨_, _, _, gg _ (by decide +kernel), FxNX.kp, ok_next (He5.fun_of FxNX) zi zL, FxNX.bindsN fun _ _ _ _ _ _ us hl => match us, hl with | [_, _], _ => rfl⟩
    have bLK : Binds K dxLK ["_law_found", "_law_due"] [] := FxLK.bindsN fun _ _ _ _ _ _ us hl => match us, hl with | [_, _], _ => rfl
    have LK : Fd CX0 PG0 w K mg base "_law_like" 5 (spAlike K GG LL 4) := ⟨_, _, _, gg _ (by decide +kernel), FxLK.kp, ok_like (He5.fun_of FxLK) (gg _ (by decide +kernel)) bLK zI zT zl zL zR zB zi zs 4, bLK⟩
    have PK : Fd CX0 PG0 w K mg base "_law_pick" 2 (spPick K GG LL) := ⟨_, _, _, gg _ (by decide +kernel), FxPK.kp, ok_pick (He5.fun_of FxPK) zL NX, FxPK.bindsN fun _ _ _ _ _ _ us hl => match us, hl with | [_, _], _ => rfl⟩
    have NM : Fd CX0 PG0 w K mg base "_law_names" 2 (spNames K GG LL) := ⟨_, _, _, gg _ (by decide +kernel), FxNM.kp, ok_names5 (He5.fun_of FxNM) zR zT NX, FxNM.bindsN fun _ _ _ _ _ _ us hl => match us, hl with | [_, _], _ => rfl⟩
    have CL : Fd CX0 PG0 w K mg base "_law_clause" 3 (spClause K GG LL) := ⟨_, _, _, gg _ (by decide +kernel), FxCL.kp, ok_clause5 (He5.fun_of FxCL) NX PK, FxCL.bindsN fun _ _ _ _ _ _ us hl => match us, hl with | [_, _], _ => rfl⟩
    have KE : Fd CX0 PG0 w K mg base "_law_keeps" 1 (spKeeps K) := ⟨_, _, _, gg _ (by decide +kernel), FxKE.kp, ok_keeps (He5.fun_of FxKE), FxKE.bindsN fun _ _ _ _ _ _ us hl => match us, hl with | [_, _], _ => rfl⟩
    have LAL : Fd CX0 PG0 w K mg base "_law_all" 1 (spAll5 K GG LL) := ⟨_, _, _, gg _ (by decide +kernel), FxLAL.kp, ok_all5 (He5.fun_of FxLAL) zL zR zS, FxLAL.bindsN fun _ _ _ _ _ _ us hl => match us, hl with | [_], _ => rfl⟩
    have LG : Fd CX0 PG0 w K mg base "_law_legal" 2 (spLegal5 K GG LL) := ⟨_, _, _, gg _ (by decide +kernel), FxLG.kp, ok_legal5 (He5.fun_of FxLG) LAL KE, FxLG.bindsN fun _ _ _ _ _ _ us hl => match us, hl with | [_, _], _ => rfl⟩
    have RU : Fd CX0 PG0 w K mg base "_law_rules" 6 (spRules5 K GG LL) := ⟨_, _, _, gg _ (by decide +kernel), FxRU.kp, ok_rules5 (He5.fun_of FxRU) zR zT zi NX NM PK LAL CL KE MK LG, FxRU.bindsN fun _ _ _ _ _ _ us hl => match us, hl with | [_, _, _], _ => rfl⟩
    have BK5 : Fd CX0 PG0 w K mg base "_law_broken" 3 (spBroken5 K GG LL) := ⟨_, _, _, gg _ (by decide +kernel), FxBK5.kp, ok_broken5 (He5.fun_of FxBK5) zR zL KE FCL, FxBK5.bindsN fun _ _ _ _ _ _ us hl => match us, hl with | [_, _], _ => rfl⟩
    have OW : Gd PG0 w K mg base "states_on_way" 7 (spOnWay K GG LL) := ⟨_, _, _, gg _ (by decide +kernel), FxOW.kp, ok_onWay (He5.fun_of FxOW) zE zl CHL CSW SW BR FN ET, FxOW.bindsN fun _ _ _ _ _ _ us hl => match us, hl with | [_, _, _], _ => rfl⟩
    have RO : RoC K mg := ⟨kClsO, fun n hn => by simp only [roN, List.mem_cons, List.not_mem_nil, or_false] at hn; rcases hn with rfl | rfl | rfl | rfl | rfl | rfl | rfl | rfl | rfl; exact kNo0; exact kNo1; exact kNo2; exact kNo3; exact kNo4; exact kNo5; exact kNo6; exact kNo7; exact kNo8, gg _ (by decide +kernel), neO⟩
    have OKI := ok_oinit FxMO RO CHL
    have MO : MkO PG0 w K mg base GG LL := ⟨RO, _, _, kMkO, OKI, oinit_binds FxMO⟩
    have MOK : MkOK PG0 w K mg base GG LL := ⟨RO, _, _, kMkO, OKI, oinit_kbn FxMO⟩
    have CH : FmS PG0 w K mg base "change" 12 (spChangeB K GG LL) := ⟨_, bCH, ok_change (He5.fun_of FxCH) RO zl NST OW⟩
    have PST : FpO PG0 w K mg base "state" 1 (getSp (cO K) "_state") := ⟨kClsO, _, _, _, pPST, ok_state (He5.fun_of FxPST) RO, FxPST.bindsN fun _ _ _ _ _ _ us hl => match us, hl with | [_], _ => rfl⟩
    have PTA : FpO PG0 w K mg base "target" 1 (getSp (cO K) "_goal") := ⟨kClsO, _, _, _, pPTA, ok_target (He5.fun_of FxPTA) RO, FxPTA.bindsN fun _ _ _ _ _ _ us hl => match us, hl with | [_], _ => rfl⟩
    have PHI : FpO PG0 w K mg base "history" 2 (spHist K) := ⟨kClsO, _, _, _, pPHI, ok_hist (He5.fun_of FxPHI) RO zl, FxPHI.bindsN fun _ _ _ _ _ _ us hl => match us, hl with | [_], _ => rfl⟩
    have IO : Fd CX0 PG0 w K mg base "_in_order" 1 (spInOrder K GG LL) := ⟨_, _, _, gg _ (by decide +kernel), FxIO.kp, ok_inOrder (He5.fun_of FxIO), FxIO.bindsN fun _ _ _ _ _ _ us hl => match us, hl with | [_, _], _ => rfl⟩
    have OP : Fd (L2.CX PG0 w) PG0 w K mg base "order_pairs" 6 (spPairs K GG LL) := ⟨_, _, _, gg _ (by decide +kernel), FxOP.kp, ok_pairs (He5.fun_of FxOP) zE CHL DF FN FCL IO, FxOP.bindsN fun _ _ _ _ _ _ us hl => match us, hl with | [_, _, _], _ => rfl⟩
    have WT : Fd (L2.CX PG0 w) PG0 w K mg base "waiting" 7 (spWaiting K GG LL) := ⟨_, _, _, gg _ (by decide +kernel), FxWT.kp, ok_waiting (He5.fun_of FxWT) OP DF FN, FxWT.bindsN fun _ _ _ _ _ _ us hl => match us, hl with | [_, _, _], _ => rfl⟩
    have PO : Fd CX0 PG0 w K mg base "possible_changes" 1 (spPossible K GG LL) := ⟨_, _, _, gg _ (by decide +kernel), FxPO.kp, ok_possible (He5.fun_of FxPO) zA, FxPO.bindsN fun _ _ _ _ _ _ us hl => match us, hl with | [_, _], _ => rfl⟩
    have LO : Fd CX0 PG0 w K mg base "_longest" 2 (spLongest K GG LL) := ⟨_, _, _, gg _ (by decide +kernel), FxLO.kp, ok_longest (He5.fun_of FxLO) PO, FxLO.bindsN fun _ _ _ _ _ _ us hl => match us, hl with | [_], _ => rfl⟩
    have CIR : Fd CX0 PG0 w K mg base "_circle" 1 (spCircle K GG LL) := ⟨_, _, _, gg _ (by decide +kernel), FxCIR.kp, ok_circle (He5.fun_of FxCIR) zT zV, FxCIR.bindsN fun _ _ _ _ _ _ us hl => match us, hl with | [_, _], _ => rfl⟩
    have ENW : Err PG0 w K mg base "NoWay" (spNW K (He.ga K "NoWay")) := ⟨oENW, gg _ (by decide +kernel), _, _, _, iENW, tENW, ok_NW (He5.fun_of FxENW) BC oENW (nf ("NoWay", "circle") (by decide +kernel)), FxENW.bindsN fun _ _ _ _ _ _ us hl => match us, hl with | [_, _], _ => rfl⟩
    have FW : Fd (L2.CX PG0 w) PG0 w K mg base "find_way" 8 (spFindWay K GG LL) := ⟨_, _, _, gg _ (by decide +kernel), FxFW.kp, ok_findWay (He5.fun_of FxFW) OP WT LO CIR ENW, FxFW.bindsN fun _ _ _ _ _ _ us hl => match us, hl with | [_, _, _], _ => rfl⟩
    have PREG : FpO PG0 w K mg base "remaining" 4 (spRem K GG LL) := ⟨kClsO, _, _, _, pPREG, ok_rem (He5.fun_of FxPREG) RO DF FN, FxPREG.bindsN fun _ _ _ _ _ _ us hl => match us, hl with | [_], _ => rfl⟩
    have AD : FmA PG0 w K mg base GG LL := ⟨kClsO, _, _, mAD, ok_adv FxAD RO zX ENG FW CH, adv_binds FxAD⟩
    have MOE : MkOE PG0 w K mg base GG LL := ⟨RO, _, _, kMkO, ok_oinitE FxMOE RO CHL, oinit_binds FxMOE, oinit_kbn FxMOE⟩
    have RSE : FcS PG0 w K mg base (spResumedE K GG LL) := ⟨gg _ (by decide +kernel), _, _, _, _, cRS, He5.cmet_of wRS fRS, ok_resumedE FxRSE MOE CH, resumed_binds FxRSE, resumed_kbn FxRSE⟩
    have RSG : FcS PG0 w K mg base (spResumedG K GG LL) := ⟨gg _ (by decide +kernel), _, _, _, _, cRS, He5.cmet_of wRS fRS, ok_resumedG FxRSG MOK CH, resumed_binds FxRSG, resumed_kbn FxRSG⟩
    have LER : Fd CX0 PG0 w K mg base "_law_errors" 20 (spErrs K GG LL) := ⟨_, _, _, gg _ (by decide +kernel), FxLER.kp, ok_errs (He5.fun_of FxLER) cLER tLER hPLER AP PK LAL BK5 FN MOE RSE RSG TO, FxLER.bindsN fun _ _ _ _ _ _ us hl => match us, hl with | [_, _, _, _], _ => rfl⟩
    exact ok_law (He5.fun_of FxLAW) cLaw tLaw hP3 AP zL zR zI zT DI NX PK RU LK FN RO MO MOK FW AD PST PTA PHI PREG RSG LER TO
end
end FS
set_option maxHeartbeats 0
open PySem PySem.W PySem.Calls PyProof.Rows
theorem PySem.Challenge.cw_flagsteps_k52_rollouts_towards_goals_holds : PySem.Challenge.rw_flagsteps_k52_rollouts_towards_goals.Holds := by
  w_on; o_law
  refine HandSHeadRun.head_any (r := OpenLaw.row PySem.Challenge.rw_flagsteps_k52_rollouts_towards_goals) (q := FS.qv) (H := FS.hkF) (ob := FS.obT) (M := 12000) (loose := FS.looseN) (d := HandSHeadRun.topDef (OpenLaw.row PySem.Challenge.rw_flagsteps_k52_rollouts_towards_goals).prog 68) (kwd := []) FS.obT_eq
    (by kernel_rfl) (fun s => by kernel_rfl) FS.runF (by kernel_rfl) (by kernel_rfl) (by kernel_rfl) (by rfl) (by first | assumption | decide +kernel) (by decide +kernel) ⟨rfl, rfl, rfl, rfl, rfl, by decide +kernel⟩ ?hw ?hc
  case hw => w_witness2
  case hc =>
    refine LamX.walk_ofTsE (l := PySem.Challenge.rw_flagsteps_k52_rollouts_towards_goals) (n := 63) (k := 22) (x := "_law_script") (CX := fun _ => L2.CX0) rfl (by decide) (by kernel_rfl) ⟨rfl, by decide, by decide⟩ ?F (fun _ _ _ _ _ z => z)
    intro w mg fa h Y G hmg0
    obtain ⟨K, KX, c⟩ := Y
    have hmg : mg ("law" : PySem.Str) = some (.ref fa) := by
      have e : (HandSHeadRun.topDef (OpenLaw.row PySem.Challenge.rw_flagsteps_k52_rollouts_towards_goals).prog 68).name = ("law" : PySem.Str) := by kernel_rfl
      rw [← e]
      exact hmg0
    exact ⟨K, KX, FS.facts w KX G hmg c⟩
